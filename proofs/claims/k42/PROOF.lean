import PyProof.Rows.All
import Wide.All
import OpenK.AllK
import Wide.FinOn
import Lean
import PyProof.EqAt
import PyProof.EqKinds
import PyProof.TupleCall
import PyProof.NeData
import Wide.Seal
import Wide.OfPy
import KE.KSetDisp
import PyProof.EnumMake
import PyProof.Draws
import PyProof.DictCompW
import PyProof.ListMulRoad
import PyProof.TupleOfStr
import PyProof.ListRange
import PySem.Challenge.RW_ledpast_k42_whole_joined_tells_the_same
local macro_rules|`(tactic|exists $e,*)=>`(tactic|refine ⟨$e,*, ?_⟩)
local macro_rules|`(tactic|decide)=>`(tactic|decide +kernel)
local macro_rules|`(⋯)=>`(by first|omega|decide)
open List renaming length_map→LU
open PySem.W renaming Frag→LV
open Nat renaming le_refl→LW
open List renaming mem_singleton→LX
open List renaming length_append→LY
open List renaming mem_cons→LZ
open PySem.Heap renaming lt_size→L0
open List renaming range→L1
open PySem.Heap renaming get?_push_of_some→L3
open List renaming map_append→L4
open Nat renaming ne_of_lt→L5
open List renaming getElem?_map→L6
open PySem.Heap renaming get?_push_size→L7
open List renaming mem_of_getElem?→L8
open List renaming mem_cons_self→L9
open Nat renaming le_trans→Ma
open List renaming mem_map→Mb
open List renaming mem_cons_of_mem→Mc
open List renaming getElem?_eq_some_iff→Md
open Nat renaming zero_le→Me
open Option renaming some→Mf
open Or renaming inr→Mg
open List renaming mem_append→Mh
open List renaming size_toArray→Mi
open Nat renaming le_succ_of_le→Mj
open PySem.Heap renaming size_push→Ml
open List renaming mem_append_right→Mm
open List renaming take_length→Mn
open Nat renaming lt_of_lt_of_le→Mo
open PySem.W renaming findIn→Mp
open Nat renaming lt_irrefl→Mq
open Nat renaming le_of_lt→Mr
open List renaming length_cons→Ms
open List renaming map_cons→Mt
open List renaming length_take→Mu
open Bool renaming false_ne_true→Mv
open PySem.W renaming nsIn→Mw
open PySem.Heap renaming SameBut→Mx
open List renaming take_add_one→Mz
open Bool renaming and_eq_true→MA
open List renaming getElem?_eq_getElem→MB
open PySem.W renaming fnOf→MC
open Array renaming length_toList→MD
open Nat renaming lt_succ_of_lt→ME
open List renaming mem_append_left→MF
open Nat renaming lt_succ_self→MG
open List renaming not_mem_nil→MH
open List renaming mem_range→MI
open Nat renaming le_succ→MJ
open List renaming append_assoc→MK
open Nat renaming ne_of_gt→ML
open List renaming getElem?_append_left→MM
open List renaming idxOf_lt_length_of_mem→MN
open PySem.W renaming mg_none_of→MO
open List renaming lookup→MP
open PySem.W renaming keepIn→MQ
open List renaming getD_eq_getElem?_getD→MR
open PySem.Around renaming under_plainId→MS
open List renaming map_map→MT
open List renaming getElem_mem→MU
open List renaming map_congr_left→MV
open PySem.W renaming emptyDict→MW
open PySem.Heap renaming get?_update_self→MX
open PySem.Heap renaming get?_update_other→MY
open Bool renaming false_eq_true→MZ
open List renaming lookup_cons→M0
open PySem.W renaming instObj→M3
open List renaming mem_filter→M4
open List renaming nodup_cons→M5
open List renaming getElem?_append_right→M6
open Int renaming toNat_natCast→M7
open Nat renaming succ_le_succ→M8
open List renaming length_filter_le→M9
open List renaming getElem?_eq_none→Na
open List renaming append_nil→Nb
open List renaming length→Nc
open PySem.W renaming codeIn→Nd
open List renaming Pairwise→Nf
open List renaming forIn_cons→Ng
open List renaming idxOf_append→Nh
open List renaming getElem?_of_mem→Ni
open PySem.W renaming mg_of→Nj
open PySem.W renaming plainGet→Nk
open List renaming length_replicate→Nl
open Nat renaming lt_of_le_of_lt→Nm
open List renaming foldl_cons→Nn
open List renaming find?_cons→Np
open List renaming nodup_append→Nq
open List renaming nodup_nil→Nr
open List renaming length_range→Nt
open Int renaming toNat→Nu
open List renaming getElem_idxOf→Nv
open List renaming filterMap_cons→Nw
open PySem.W renaming hasDictIn→Ny
open PySem.W renaming isFn→Nz
open PySem.W renaming makesIn→NA
open List renaming length_drop→NB
open List renaming length_set→NC
open List renaming any_cons→ND
open List renaming length_singleton→NG
open Array renaming getElem?_toList→NH
open List renaming map_nil→NI
open Option renaming map_some→NJ
open List renaming length_nil→NK
open Nat renaming le_add_right→NL
open List renaming filter_append→NM
open Nat renaming le_of_succ_le→NN
open List renaming foldl_append→NO
open List renaming filter_cons_of_neg→NP
open List renaming getElem?_eq_none_iff→NQ
open Bool renaming false_and→NR
open Bool renaming eq_iff_iff→NS
open PySem.W renaming lookIn→NT
open PySem.W renaming plainOver→NU
open List renaming of_mem_zip→NV
open List renaming replicate→NW
open Nat renaming lt_trans→NX
open List renaming forIn_nil→NY
open Nat renaming not_succ_le_self→NZ
open Bool renaming true_and→N0
open List renaming ext_getElem?→N5
open List renaming pairwise_cons→N8
open List renaming find?_cons_of_pos→N9
open List renaming find?_cons_of_neg→Oa
open List renaming all_eq_true→Ob
open PySem.W renaming kdsCode→Oc
open List renaming filter_cons_of_pos→Od
open List renaming sum_cons→Oe
open List renaming mem_of_mem_take→Of
open Int renaming zero_add→Og
open List renaming cons_ne_nil→Oh
open PySem.W renaming methodObj→Oi
open List renaming mem_filterMap→Oj
open PySem.W renaming plainGet_of→Ol
open PySem.W renaming callWith_K→Om
open List renaming getElem?_replicate→Oo
open List renaming take_of_length_le→Oq
open List renaming getElem?_range→Ot
open List renaming take_append_drop→Ou
open Array renaming toArray_toList→Ov
open Bool renaming eq_false_iff→Ow
open List renaming length_mapIdx→Ox
open Int renaming emod_lt_of_pos→Oy
open PySem renaming wpAny_bind→Oz
open PySem renaming wpAny_pure→OA
open PySem renaming wpAny_mono→OB
open PySem renaming wpAny_holding→OC
open PySem renaming wpAny_newObj_type→OD
open PySem renaming wpAny_call_entry→OE
open PySem renaming wpAny_field→OF
open PySem renaming codeAny_builtin→OG
open PySem renaming wpAny_seqItems→OH
open PySem renaming wpAny_rule→OI
open PySem renaming codeAny_mono→OJ
open PySem renaming wpAny_Call_Name_kw→OL
open PySem renaming wpAny_standAt→OM
open PySem renaming wpAny_typeOf→ON
open PySem renaming wpAny_setField→OO
open PySem renaming wpAny_passesOwn→OP
open PySem renaming wpAny_pyIter_tuple→OQ
open PySem renaming wpAny_attempt→OR
open PySem renaming wpAny_truthy_bool→OS
open PySem renaming wpAny_load→OT
open PySem renaming wpAny_setField_rec→OU
open PySem renaming wpAny_setState_of→OV
open PySem renaming wpAny_isInstance→OW
open PySem renaming wpAny_setEntries_of→OX
open PySem renaming wpAny_alloc→OY
open PySem renaming wpAny_execs_nil→OZ
open PySem renaming wpAny_runValue→O0
open PySem renaming wpAny_onRaise→O1
open PySem renaming wpAny_askSetting→O2
open PySem renaming wpAny_ite_split→O3
open PySem renaming wpAny_fieldsOf→O4
open PySem renaming wpAny_pyIter_enum→O5
open PySem renaming wpAny_pyHash_str→O6
open PySem renaming wpAny_sequenceKey→O7
open PySem renaming wpAny_comprehension_free→O8
open PySem renaming wpAny_getItem_heap→O9
open PySem renaming wpAny_updateSeq_pair→Pa
open PySem renaming wpAny_setEpoch_of→Pb
set_option maxHeartbeats 8000000
set_option Elab.async false
set_option linter.all false
set_option maxRecDepth 100000
open PySem in abbrev Z0:=Value->Shared->Prop
open PySem in abbrev Z1:=List (Addr×Obj)
open PySem in abbrev Z2:=Str->Option Value
open PySem in abbrev Z3:=Array (Option Value)
namespace L2
open PySem PySem.Spec PyProof.Rows
variable {s:Shared}{Q:Unit->Shared->Prop}{f:Value->Value->Sem Value}{A:Around}{us:List Value}{u:Value}{P:Program}{w:World}{B:List (Str×Value)}{x:Str}{b C a dx:Addr}{op:CmpOp}{h base:Heap}{e tg c l:Expr}{pl:Sem Bool}{pins:Z1}{fp:List Addr}{N ps:List Str}{K:LV}{i j:Nat}{M:Model}{E:Z0}{g:Int->Int->Int}{o:Obj}{es:List Expr}{outer:List Env}{scope:Scope}{mg mA:Z2}{pos':Pos}
abbrev Key:=Sum Int Str
def lJ:Key->Value->Bool
 | .inl k,v=>Value.isInt k v
 | .inr x,v=>Value.isStrOf x v
def KW (w:World):Key->Int
 | .inl k=>hashInt k
 | .inr x=>hashStr w x
theorem fO:∀{k:Key} {v:Value},lJ k v=true->(∃i t,k=Sum.inl i/\v=Value.int i t)\/(∃x t,k=Sum.inr x/\v=Value.str x t)
 | .inl i,v,h=>by
  obtain⟨t,e⟩:=Value.isInt_shape (k:=i) (v:=v) h;exact .inl ⟨i,t,rfl,e⟩
 | .inr x,v,h=>by
  obtain⟨t,e⟩:=Value.isStrOf_shape (x:=x) (v:=v) h;exact .inr ⟨x,t,rfl,e⟩
theorem CT (i:Int)(t:Tok):lJ (.inl i) (.int i t)=true:=by simp[lJ,Value.isInt]
theorem CU (x:Str)(t:Tok):lJ (.inr x) (.str x t)=true:=by simp[lJ,Value.isStrOf]
theorem IQ (a b:Int):decide ((Sum.inl a:Key)=Sum.inl b)=(a == b):=by
 by_cases e:a=b
 ·subst e;simp
 ·have h:¬(Sum.inl a:Key)=Sum.inl b:=λ q=>e (Sum.inl.inj q)
  rw[decide_eq_false h];exact (beq_eq_false_iff_ne.mpr e).symm
theorem IS (a b:Str):decide ((Sum.inr a:Key)=Sum.inr b)=decide (a=b):=by
 by_cases e:a=b
 ·subst e;simp
 ·have h:¬(Sum.inr a:Key)=Sum.inr b:=λ q=>e (Sum.inr.inj q)
  rw[decide_eq_false h,decide_eq_false e]
theorem IT (a:Int)(b:Str):decide ((Sum.inl a:Key)=Sum.inr b)=false:=decide_eq_false (λ q=>nomatch q)
theorem IU (a:Str)(b:Int):decide ((Sum.inr a:Key)=Sum.inl b)=false:=decide_eq_false (λ q=>nomatch q)
def dm (prog:Program)(w:World):PySem.KeyKind prog w Key where
 is:=lJ
 hash:=KW w
 inj:=λ v a b ha hb=>by
  rcases fO ha with ⟨i,t,rfl,rfl⟩ | ⟨x,t,rfl,rfl⟩
  ·rcases fO hb with ⟨j,u,rfl,e⟩ | ⟨y,u,rfl,e⟩
   ·injection e with e1 _;rw[e1]
   ·exact nomatch e
  ·rcases fO hb with ⟨j,u,rfl,e⟩ | ⟨y,u,rfl,e⟩
   ·exact nomatch e
   ·injection e with e1 _;rw[e1]
 byValue:=λ k v h=>by
  rcases fO h with ⟨i,t,rfl,rfl⟩ | ⟨x,t,rfl,rfl⟩<;>rfl
 pyHash:=λ hv h=>by
  rcases fO hv with ⟨i,t,rfl,rfl⟩ | ⟨x,t,rfl,rfl⟩
  ·exact wpAny_pyHash_int h
  ·exact O6 h
 eqBool:=λ hu hv h=>by
  rcases fO hu with ⟨i,t,rfl,rfl⟩ | ⟨x,t,rfl,rfl⟩
  ·rcases fO hv with ⟨j,u,rfl,rfl⟩ | ⟨y,u,rfl,rfl⟩
   ·rw[IQ] at h;exact wpAny_eqBool_int h
   ·rw[IT] at h;exact SeqAt.EqAt.int_str i t y u _ _ _ _ h
  ·rcases fO hv with ⟨j,u,rfl,rfl⟩ | ⟨y,u,rfl,rfl⟩
   ·rw[IU] at h;exact SeqAt.EqAt.str_int x t j u _ _ _ _ h
   ·rw[IS] at h;exact wpAny_eqBool_str h
 «strs»:=λ k x t v h=>by
  rcases fO h with ⟨i,u,rfl,e⟩ | ⟨y,u,rfl,e⟩
  ·exact nomatch e
  ·injection e with e1 _
   subst e1
   cases v<;>rfl
theorem sP (prog:Program)(w:World)(i:Int)(t:Tok):(dm prog w).is (.inl i) (.int i t)=true:=CT i t
theorem sQ (prog:Program)(w:World)(x:Str)(t:Tok):(dm prog w).is (.inr x) (.str x t)=true:=CU x t
inductive V where
 | eu | bl (b:Bool) | int (i:Int) | str (x:Str) | oi (b:Array UInt8) | CV (b:UInt64) | ref (a:Addr) | ty (n:String)
 deriving DecidableEq
def RelV:V->Value->Prop
 | .eu,u=>u=Value.none
 | .bl b,u=>u=Value.bool b
 | .int i,u=>∃t,u=Value.int i t
 | .str x,u=>∃t,u=Value.str x t
 | .oi b,u=>∃t,u=Value.bytes b t
 | .CV b,u=>∃t,u=Value.float b t
 | .ref a,u=>u=Value.ref a
 | .ty n,u=>u=Value.type n
abbrev Vals:List V->List Value->Prop:=Paired RelV
theorem Vals.length {xs:List V}{us:List Value}(r:Vals xs us):xs.length=us.length:=Paired.length r
theorem Vals.get:∀{xs:List V} {us:List Value} {i:Nat} {x:V},Vals xs us->xs[i]?=some x->∃u,us[i]?=some u/\RelV x u
 | _,_,_,_,.nil,e=>by simp at e
 | _,_,0,_,.cons r _,e=>by simp at e;subst e;exact⟨_,rfl,r⟩
 | _,_,i+1,x,.cons _ t,e=>by
  obtain⟨u,h1,h2⟩:=Vals.get (i:=i) (x:=x) t (by simpa using e);exact⟨u,by simpa using h1,h2⟩
theorem Vals.set {x:V}{u:Value}(r:RelV x u):∀{xs:List V} {us:List Value} (i:Nat),Vals xs us->Vals (xs.set i x) (us.set i u)
 | _,_,_,.nil=>.nil
 | _,_,0,.cons _ t=>.cons r t
 | _,_,i+1,.cons q t=>.cons q (Vals.set r i t)
theorem Vals.append:∀{xs ys:List V} {us ws:List Value},Vals xs us->Vals ys ws->Vals (xs++ys) (us++ws)
 | _,_,_,_,.nil,s=>s
 | _,_,_,_,.cons r t,s=>.cons r (Vals.append t s)
theorem Vals.take:∀{xs:List V} {us:List Value} (n:Nat),Vals xs us->Vals (xs.take n) (us.take n)
 | _,_,0,_=>.nil
 | _,_,_+1,.nil=>.nil
 | _,_,n+1,.cons r t=>.cons r (Vals.take n t)
theorem Vals.drop:∀{xs:List V} {us:List Value} (n:Nat),Vals xs us->Vals (xs.drop n) (us.drop n)
 | _,_,0,r=>r
 | _,_,_+1,.nil=>.nil
 | _,_,n+1,.cons _ t=>Vals.drop n t
def jc:Option V->Option Value->Prop
 | some v,some u=>RelV v u
 | none,none=>True
 | _,_=>False
def KV {κ : Type}:List (κ×V)->List (κ×Value)->Prop:=Paired λ (p:κ×V) (q:κ×Value)=>p.1=q.1/\RelV p.2 q.2
def kV:Key->V
 | .inl i=>.int i
 | .inr x=>.str x
inductive HO where
 | lst (xs:List V)
 | tup (xs:List V)
 | dK (kvs:List (Key×V)) | dT (kvs:List (List Key×V))
 | set (S:Int->Bool) (n:Nat)
 | ins (C dx:Addr) (fs:List (Str×V))
 | own (x:Addr)
 | xd (fs:List (Str×V))
 | met (f x:Addr)
 | IV (lo hi:Int)
 | sR (o:Obj) (u:HO)
 | yq (ps:Array Value)
 | ext (φ : Heap->Prop)
abbrev Hp:=Addr->Option HO
def upd (H:Hp)(a:Addr)(o:HO):Hp:=λ b=>if b=a then some o else H b
theorem cu {H:Hp}{a:Addr}{o:HO}:upd H a o a=some o:=by unfold upd;rw[if_pos rfl]
theorem cx {H:Hp}{o:HO}(h:b≠a):upd H a o b=H b:=by unfold upd;rw[if_neg h]
theorem Hi {H:Hp}{o u:HO}:upd (upd H a o) a u=upd H a u:=by
 funext b;unfold upd;split<;>rfl
theorem dD {H:Hp}{a:Addr}{o u:HO}(h:H a=some o)(h':H b=some u)(d:o≠u):a≠b:=by
 intro e;subst e;rw[h] at h';exact d (Mf.inj h')
theorem cD {H:Hp}{o:HO}(h:H a=some o)(h':H b=none):a≠b:=by
 intro e;subst e;rw[h] at h';cases h'
section
variable (P:Program)(w:World)
def ff (H:Hp)(h:Heap)(a:Addr):HO->Prop
 | .lst xs=>xs.length<=sizeLine/\∃(its:List Value) (n:Nat),Vals xs its/\h.get? a=some { cls:=.type "list",data:=.seq its.toArray n }
 | .tup xs=>xs.length<=sizeLine/\∃its:List Value,Vals xs its/\∃o,h.get? a=some o/\o.cls=.type "tuple" /\ ∃n,o.data=.seq its.toArray n/\o.dict=none
 | .dK kvs=>kvs.length<=sizeLine/\(a == sysModules)=false/\∃vs,KV kvs vs/\h.DictOf (dm P w) a vs
 | .dT kvs=>kvs.length<=sizeLine/\(a == sysModules)=false/\∃xs:List (List Key×Addr×Value),
   Paired (λ (p:List Key×V) (q:List Key×Addr×Value)=>p.1=q.1/\H q.2.1=some (.tup (p.1.map kV))/\RelV p.2 q.2.2) kvs xs /\
   ∃o es ep,h.get? a=some o/\o.ExactDict/\o.data=.dict es ep/\es.toList=xs.map (entryOfKey (tupleKind (dm P w)))/\(xs.map (·.1)).Nodup
 | .set S n=>h.SetOf (intKind P w) a S n
 | .ins C dx fs=>H dx=some (.own a)/\fs.length<=1000/\dx≠a/\h.get? a=some (M3 C dx) /\
   ∃mA,h.Ns1 dx mA/\(∀f,jc (fs.lookup f) (mA f))/\PySem.Within mA (fs.map (·.1))
 | .own _=>∃o,h.get? a=some o
 | .xd fs=>∃mA,h.Ns1 a mA/\∀f,jc (fs.lookup f) (mA f)
 | .IV lo hi=>∃t u v,h.get? a=some { cls:=.type "range",data:=.fields #[.int lo t,.int hi u,.int 1 v] }
 | .sR o u=>h.get? a=some o/\ff H h a u
 | .yq ps=>h.get? a=some { cls:=.none,data:=.fields ps }
 | .met f x=>h.get? a=some (Oi (.ref f) (.ref x))
 | .ext φ=>φ h/\(∃o,h.get? a=some o)/\∀h1 h2:Heap,φ h1->(∀o,h1.get? a=some o->h2.get? a=some o)->φ h2
def ia (H:Hp)(h:Heap):Prop:=∀a o,H a=some o->ff P w H h a o
end
section
variable {P:Program}{w:World}{H H':Hp}{h h':Heap}{a:Addr}{o:HO}
theorem ff.lt (x:ff P w H h a o):a<h.objs.size:=by
 cases o with
 | lst xs=>obtain⟨_,_,_,_,e⟩:=x;exact L0 e
 | tup xs=>obtain⟨_,_,_,p⟩:=x;exact (let ⟨o,e,_⟩:=p;L0 e)
 | dK kvs=>obtain⟨_,_,_,_,o,_,_,e,_⟩:=x;exact L0 e
 | dT kvs=>obtain⟨_,_,_,_,o,_,_,e,_⟩:=x;exact L0 e
 | set S n=>obtain⟨o,_,_,_,e,_⟩:=x;exact L0 e
 | ins C dx fs=>obtain⟨_,_,_,e,_⟩:=x;exact L0 e
 | own y=>obtain⟨_,e⟩:=x;exact L0 e
 | xd fs=>obtain⟨_,⟨_,_,_,e,_⟩,_⟩:=x;exact L0 e
 | IV lo hi=>obtain⟨_,_,_,e⟩:=x;exact L0 e
 | sR ob u=>obtain⟨e,_⟩:=x;exact L0 e
 | yq ps=>exact L0 (show h.get? a=some _ from x)
 | met f y=>exact L0 (show h.get? a=some _ from x)
 | ext φ=>obtain⟨_,⟨_,e⟩,_⟩:=x;exact L0 e
theorem Paired.ER {B D:Type}{F G:B->D->Prop}:∀{l₁ : List B} {l₂ : List D},Paired F l₁ l₂->(∀a b,F a b->G a b)->Paired G l₁ l₂
 | _,_,.nil,_=>.nil
 | _,_,.cons r t,f=>.cons (f _ _ r) (Paired.ER t f)
theorem ff.vC (x:ff P w H h a o)(k:∀b u,(b=a\/H b=some (.own a))->h.get? b=some u->h'.get? b=some u)
  (ho:∀b,H b=some (.own a)->H' b=some (.own a)) (B:∀b xs,H b=some (.tup xs)->H' b=some (.tup xs)):ff P w H' h' a o:=by
 induction o with
 | lst xs=>obtain⟨z,its,n,r,e⟩:=x;exact⟨z,its,n,r,k _ _ (.inl rfl) e⟩
 | tup xs=>obtain⟨z,its,r,ob,e,c⟩:=x;exact⟨z,its,r,ob,k _ _ (.inl rfl) e,c⟩
 | dK kvs=>obtain⟨z,y,vs,r,ob,es,ep,e,c⟩:=x;exact⟨z,y,vs,r,ob,es,ep,k _ _ (.inl rfl) e,c⟩
 | dT kvs =>
  obtain⟨z,y,xs,r,ob,es,ep,e,c⟩:=x;exact⟨z,y,xs,Paired.ER r λ p q z=>⟨z.1,B _ _ z.2.1,z.2.2⟩,ob,es,ep,k _ _ (.inl rfl) e,c⟩
 | set S n=>obtain⟨ob,es,ep,t,e,c⟩:=x;exact⟨ob,es,ep,t,k _ _ (.inl rfl) e,c⟩
 | ins C dx fs =>
  obtain⟨d,z,ne,e,mA,⟨od,es,ep,D,c⟩,r⟩:=x;exact⟨ho _ d,z,ne,k _ _ (.inl rfl) e,mA,⟨od,es,ep,k _ _ (.inr d) D,c⟩,r⟩
 | own y=>obtain⟨ob,e⟩:=x;exact⟨ob,k _ _ (.inl rfl) e⟩
 | xd fs=>obtain⟨mA,⟨od,es,ep,e,c⟩,r⟩:=x;exact⟨mA,⟨od,es,ep,k _ _ (.inl rfl) e,c⟩,r⟩
 | IV lo hi=>obtain⟨t,u,v,e⟩:=x;exact⟨t,u,v,k _ _ (.inl rfl) e⟩
 | sR ob u ih=>obtain⟨e,q⟩:=x;exact⟨k _ _ (.inl rfl) e,ih q⟩
 | yq ps =>
  have e:h.get? a=some { cls:=.none,data:=.fields ps }:=x;show h'.get? a=some { cls:=.none,data:=.fields ps };exact k a _ (.inl rfl) e
 | met f y =>
  have e:h.get? a=some (Oi (.ref f) (.ref y)):=x;show h'.get? a=some (Oi (.ref f) (.ref y));exact k a _ (.inl rfl) e
 | ext φ=>obtain⟨p,⟨o,e⟩,st⟩:=x;exact⟨st _ _ p λ o q=>k _ _ (.inl rfl) q,⟨o,k _ _ (.inl rfl) e⟩,st⟩
theorem ia.lt (x:ia P w H h)(e:H a=some o):a<h.objs.size:=(x a o e).lt
theorem ia.fresh (x:ia P w H h)(e:h.objs.size<=a):H a=none:=by
 cases q:H a with
 | none=>rfl
 | some u=>exact absurd (Mo (x.lt q) e) (Mq _)
theorem ia.kept (x:ia P w H h)(k:∀b u,h.get? b=some u->h'.get? b=some u):ia P w H h':=λ a o e =>
 (x a o e).vC (λ b u _ q=>k b u q) (λ _ q=>q) λ _ _ q=>q
theorem ia.laid (x:ia P w H h)(k:∀b u,h.get? b=some u->h'.get? b=some u)(hp:h.objs.size<=a)(new:ff P w (upd H a o) h' a o):ia P w (upd H a o) h':=λ b u e=>by
 have hn:=x.fresh hp;by_cases hb:b=a
 ·subst hb;rw[cu] at e;cases e;exact new
 ·rw[cx hb] at e;exact (x b u e).vC (λ c v _ q=>k c v q) (λ c q=>by rw[cx (cD q hn)];exact q) λ c xs q=>by rw[cx (cD q hn)];exact q
end
def Rd (H:Hp)(a:Addr)(u:HO):Prop:=H a=some u\/∃o,H a=some (.sR o u)
theorem Rd.ok {H:Hp}{a:Addr}{u:HO}(r:Rd H a u)(x:ia P w H h):ff P w H h a u:=by
 rcases r with r | ⟨o,r⟩
 ·exact x a u r
 ·obtain⟨_,q⟩:=x a _ r;exact q
def CW:Option HO->Prop
 | some (.lst _)=>True
 | some (.dK _)=>True
 | some (.dT _)=>True
 | some (.set _ _)=>True
 | some (.ins _ _ _)=>True
 | some (.ext _)=>True
 | _=>False
section
variable {P:Program}{w:World}{H:Hp}{h h':Heap}{x e:Addr}{o':HO}
theorem ia.write (ok:ia P w H h)(G:CW (H x))(N:e=x\/H e=some (.own x))(k:∀b u,b≠e->h.get? b=some u->h'.get? b=some u)(J:∃u,h'.get? e=some u)
  (new:ff P w (upd H x o') h' x o'):ia P w (upd H x o') h':=λ b u q=>by
 have B:∀c y,H c=some (.own y)->c≠x:=λ c y r z=>by subst z;rw[r] at G;exact G
 have D:∀c xs,H c=some (.tup xs)->c≠x:=λ c xs r z=>by subst z;rw[r] at G;exact G
 by_cases hb:b=x
 ·subst hb;rw[cu] at q;cases q;exact new
 ·rw[cx hb] at q;by_cases hbe:b=e
  ·have Y:H b=some (.own x):=by
    rcases N with z | z
    ·exact absurd (hbe.trans z) hb
    ·rw[hbe];exact z
   rw[q] at Y;cases Y;obtain⟨v,Z⟩:=J;exact⟨v,by rw[hbe];exact Z⟩
  ·refine (ok b u q).vC (λ c v hc r=>k c v ?_ r) (λ c r=>by rw[cx (B c b r)];exact r) λ c xs r=>by rw[cx (D c xs r)];exact r
   rcases hc with rfl | hc
   ·exact hbe
   ·rintro rfl
    rcases N with z | z
    ·exact B c b hc z
    ·rw[hc] at z;cases z;exact hb rfl
end
structure Un (fs ex:List Addr) (H H':Hp) (h h':Heap):Prop where
 keep:∀b o,h.get? b=some o->H b=none->b∉fs->b∉ex->h'.get? b=some o
 slot:∀b o,h.get? b=some o->H b=none->b∈fs->b∉ex->∃sl,h'.get? b=some { o with slots:=sl }
 free:∀b o,h.get? b=some o->H b=none->b∉ex->H' b=none
 there:∀b o,h.get? b=some o->b∉ex->∃o',h'.get? b=some o'
 dr:∀b xs,H b=some (.tup xs)->H' b=some (.tup xs)
 oX:∀b o u,H b=some (.sR o u)->H' b=some (.sR o u)
 qq:∀b ps,H b=some (.yq ps)->∃more,H' b=some (.yq (ps++more))
section
variable {fs fs' ex ex':List Addr}{H H1 H2:Hp}{h h1 h2 h':Heap}{a x e:Addr}{o:HO}
theorem Un.any (u:Un fs ex H H1 h h1){ob:Obj}(q:h.get? b=some ob)(n:H b=none)(hx:b∉ex):∃sl,h1.get? b=some { ob with slots:=sl }:=by
 by_cases hb:b∈fs
 ·exact u.slot b ob q n hb hx
 ·exact⟨ob.slots,u.keep b ob q n hb hx⟩
theorem Un.kept (k:∀b u,h.get? b=some u->h'.get? b=some u):Un fs ex H H h h' :=
 ⟨λ b ob q _ _ _=>k b ob q,λ b ob q _ _ _=>⟨ob.slots,k b ob q⟩,λ _ _ _ n _=>n,λ b ob q _=>⟨ob,k b ob q⟩,λ _ _ q=>q,λ _ _ _ q=>q,λ _ ps q=>⟨#[],by rw[q];simp⟩⟩
theorem Un.refl:Un fs ex H H h h:=Un.kept λ _ _ q=>q
theorem Un.laid (k:∀b u,h.get? b=some u->h'.get? b=some u)(hp:h.objs.size<=a)(hn:H a=none):Un fs ex H (upd H a o) h h' where
 keep:=λ b u q _ _ _=>k b u q
 slot:=λ b u q _ _ _=>⟨u.slots,k b u q⟩
 free:=λ b u q n _=>by rw[cx (L5 (Mo (L0 q) hp))];exact n
 there:=λ b u q _=>⟨u,k b u q⟩
 dr:=λ b xs q=>by rw[cx (cD q hn)];exact q
 oX:=λ b u xs q=>by rw[cx (cD q hn)];exact q
 qq:=λ b ps q=>⟨#[],by rw[cx (cD q hn),q];simp⟩
theorem Un.write (B:CW (H x))(G:e=x\/H e=some (.own x))(k:∀b u,b≠e->h.get? b=some u->h'.get? b=some u)(D:∃u,h'.get? e=some u):Un fs ex H (upd H x o) h h':=by
  have hx:∀b,H b=none->b≠x:=λ b n z=>by subst z;rw[n] at B;exact B
  have hb:∀b,H b=none->b≠e:=λ b n z=>by
    subst z
    rcases G with r | r
    . exact hx b n r
    . rw[n] at r;cases r
  have hm:∀b u,H b=some u->¬CW (some u)->b≠x:=λ b u q nm z=>by subst z;rw[q] at B;exact nm B
  refine⟨λ b u q n _ _=>k b u (hb b n) q,λ b u q n _ _=>⟨u.slots,k b u (hb b n) q⟩,λ b u q n _=>by rw[cx (hx b n)];exact n,λ b u q _=>?_,
    λ b xs q=>by rw[cx (hm b _ q λ z=>z)];exact q,λ b u xs q=>by rw[cx (hm b _ q λ z=>z)];exact q,λ b ps q=>⟨#[],by rw[cx (hm b _ q λ z=>z),q];simp⟩⟩
  by_cases hbe:b=e
  . subst hbe;exact D
  . exact⟨u,k b u hbe q⟩
end
def GN (h:Heap)(H:Hp):List Addr:=(L1 h.objs.size).filter λ a=>(H a).isSome
def oY (h:Heap)(H:Hp):Heap:=PySem.W.hideAll h (GN h H)
theorem CY (h:Heap)(H:Hp):(oY h H).objs.size=h.objs.size:=PySem.W.hideAll_size _ _
theorem ES {H:Hp}(e:h.get? b=some o)(n:H b=none):(oY h H).get? b=some o :=
 PySem.W.hideAll_get _ e λ hm=>by
  have q:(H b).isSome=true:=(M4.mp hm).2;rw[n] at q;simp at q
theorem Hj {H:Hp}(e:(oY h H).get? b=some o):h.get? b=some o/\H b=none:=by
 have B:h.get? b=some o:=PySem.W.of_hideAll (GN h H) e;exists B;cases q:H b with
 | none=>rfl
 | some x =>
  have hm:b∈GN h H:=M4.mpr ⟨MI.mpr (L0 B),by simp[q]⟩;have z:(oY h H).get? b=none:=PySem.W.hideAll_none (GN h H) hm;rw[z] at e;cases e
def Hk (g h:Heap)(L:Addr):List (Addr×Obj):=(L1 h.objs.size).filterMap λ a=>if a=L\/(g.get? a).isSome=true then none else (h.get? a).map λ o=>(a,o)
def rest (g h:Heap)(L d:Addr):List (Addr×Obj):=(Hk g h L).filter λ p=>decide (p.1≠d)
structure Mod (K:LV) (mg:Z2) (base:Heap):Prop where
 om:K.In base
 glob:base.Ns mainGlobals mg
 blt:∃mb,base.Ns builtinsNs mb/\∀x:Str,x ≠ "__name__" -> mb x=bootBuiltins x
 nolimit:base.NoLimit
structure Cx where
 prog:Program
 w:World
 K:LV
 mg:Str->Option Value
 base:Heap
 A:Around
 N:List Str
 ie:Shared
 yr:Hp
 env:Env
 outer:List Env
 stack:List Env
 ex:List Addr
 fn:Str->Bool
 calm:Bool
 pn:List (Addr×Obj)
 xe:Value->Shared->Prop
def qr (l:List Env):List Addr:=l.filterMap (·.frame)
abbrev Cx.fs (X:Cx):List Addr:=qr X.outer
def GO (sc:Scope)(x:Str):Prop:=sc.names.lookup x=some .local\/sc.names.lookup x=some .cell\/sc.names.lookup x=some .free
def Loc (sc:Scope)(x:Str):Prop:=sc.names.lookup x=some .local\/sc.names.lookup x=some .cell
def Look (env:Env)(h:Heap)(m:Z2)(x:Str)(u:Value):Prop :=
 (env.kindOf x=some .local/\m x=some u)\/((env.kindOf x=some .cell\/env.kindOf x=some .free)/\∃c,env.cells.lookup x=some c/\h.IsCell c (some u))
structure Cx.Ok (X:Cx):Prop where
 mod:Mod X.K X.mg X.base
 kind:X.env.scope.kind=.function
 glob:X.env.globals=mainGlobals
 blt:X.env.builtins=builtinsNs
 above:X.ie.heap.objs.size<=X.env.locals
 inj:∀x y c,X.env.cells.lookup x=some c->X.env.cells.lookup y=some c->x=y
 has:∀x,(X.env.kindOf x=some .cell\/X.env.kindOf x=some .free)->∃c,X.env.cells.lookup x=some c
 CZ:∀x c,X.fn x=true->X.env.cells.lookup x=some c->X.ie.heap.objs.size<=c
 hd:X.calm=true->X.A.handled=none
 frames:X.A.frames=some X.stack
 GP:X.stack=X.outer\/(X.stack=X.env::X.outer/\X.env.frame=some X.env.locals)
 KD:∀b∈X.ex,b≠X.env.locals/\∀x c,X.env.cells.lookup x=some c->c≠b
 bs:∀b o,X.base.get? b=some o->X.ie.heap.get? b=some o/\X.yr b=none
 uz:X.base.objs.size<=X.ie.heap.objs.size
 yt:∀b o,X.base.get? b=some o->b∉X.ex
 Bs:∀b∈X.ex,b∉X.fs
 me:X.ie.heap.FunFrames X.base X.outer
 yu:∀b∈X.fs,X.yr b=none
structure Inv (X:Cx) (pins:Z1) (LQ : List (Option V)) (H:Hp) (s:Shared):Prop where
 ok:X.Ok
 os:s.os=X.ie.os
 bare:AllBare s.gens
 base:Un X.fs X.ex X.yr H X.ie.heap s.heap
 loc:∃m,s.heap.Ns X.env.locals m/\∀(i:Nat) (x:Str) (v:V),X.N[i]?=some x->LQ[i]?=some (some v)->GO X.env.scope x->∃u,RelV v u/\Look X.env s.heap m x u
 cell:∀x c,X.env.cells.lookup x=some c->∃v,s.heap.IsCell c v
 free:H X.env.locals=none
 jy:∀x c,X.env.cells.lookup x=some c->H c=none
 pin:∀p∈X.pn++pins,s.heap.get? p.1=some p.2/\H p.1=none/\p.1≠X.env.locals/\p.1∉X.fs/\∀v,p.2.data≠.cell v
 de:ia X.prog X.w H s.heap
 len:LQ.length=X.N.length
section
variable {X:Cx}{pins:Z1}{LQ : List (Option V)}{H H':Hp}{s:Shared}{h':Heap}
theorem Cx.Ok.KY (ok:X.Ok)(e:X.base.get? b=some o):b∉X.fs:=λ hb=>by
 have:=(ok.me.mem hb).1;rw[e] at this;cases this
theorem Inv.bs (I:Inv X pins LQ H s):∀b o,X.base.get? b=some o->s.heap.get? b=some o/\H b=none:=λ b o e =>
 ⟨I.base.keep b o (I.ok.bs b o e).1 (I.ok.bs b o e).2 (I.ok.KY e) (I.ok.yt b o e),I.base.free b o (I.ok.bs b o e).1 (I.ok.bs b o e).2 (I.ok.yt b o e)⟩
theorem Inv.bk (I:Inv X pins LQ H s):∀b o,X.base.get? b=some o->s.heap.get? b=some o:=λ b o e=>(I.bs b o e).1
theorem Inv.mod (I:Inv X pins LQ H s):Mod X.K X.mg X.base:=I.ok.mod
theorem Inv.lP (I:Inv X pins LQ H s):X.K.In s.heap:=I.ok.mod.om.keeps I.bk
theorem Inv.lt (I:Inv X pins LQ H s):X.env.locals<s.heap.objs.size:=let ⟨_,hn,_⟩:=I.loc;hn.lt
theorem Inv.sz (I:Inv X pins LQ H s):X.ie.heap.objs.size<=s.heap.objs.size:=Ma I.ok.above (Mr I.lt)
theorem Inv.KZ (I:Inv X pins LQ H s)(h:s.heap.objs.size<=a):a∉X.fs:=λ hb=>by
 obtain⟨_,o,ho,_⟩:=I.ok.me.mem hb;exact absurd (Mo (L0 ho) (Ma I.sz h)) (Mq _)
theorem Inv.yw (I:Inv X pins LQ H s):∀x c,X.env.cells.lookup x=some c->c≠X.env.locals:=λ x c e z=>by
 obtain⟨v,o,ho,hd⟩:=I.cell x c e;obtain⟨m,⟨o',es,ep,B,D,_⟩,_⟩:=I.loc;rw[z,B] at ho;cases ho;rw[D] at hd;cases hd
theorem Inv.me (I:Inv X pins LQ H s):s.heap.FunFrames X.base X.outer:=by
 have all:∀(l:List Env),(∀b∈qr l,b∈X.fs)->X.ie.heap.FunFrames X.base l->s.heap.FunFrames X.base l:=by
  intro l
  induction l with
  | nil=>intro _ _;trivial
  | cons env r ih =>
   intro D N;obtain⟨G,⟨L,o,hf,hn,ho,hd⟩,J⟩:=N;have B:L∈X.fs:=D L (by unfold qr;rw[Nw,hf];exact L9);obtain⟨sl,e⟩:=I.base.slot L o ho (I.ok.yu L B) B λ z=>I.ok.Bs L z B
   exact⟨G,⟨L,_,hf,hn,e,hd⟩,ih (λ b hb=>D b (by unfold qr;rw[Nw,hf];exact Mc _ hb)) J⟩
 exact all X.outer (λ _ hb=>hb) I.ok.me
theorem Inv.stack (I:Inv X pins LQ H s):s.heap.FunFrames X.base X.stack:=by
 rcases I.ok.GP with e | ⟨e,hf⟩
 ·rw[e];exact I.me
 ·rw[e];obtain⟨m,hn,_⟩:=I.loc;refine .cons (by rw[I.ok.kind];decide) hf hn ?_ I.me;exact Heap.get?_none_of_le (Ma I.ok.uz I.ok.above)
theorem Inv.qu (I:Inv X pins LQ H s):∀b∈qr X.stack,b∈X.env.locals::X.fs:=λ b hb=>by
 rcases I.ok.GP with e | ⟨e,hf⟩
 ·rw[e] at hb;exact Mc _ hb
 ·rw[e] at hb;unfold qr at hb;rw[Nw,hf] at hb;exact hb
theorem Inv.Al (I:Inv X pins LQ H s):∀b∈qr X.stack,H b=none:=λ b hb=>by
 rcases LZ.mp (I.qu b hb) with e | hb
 ·rw[e];exact I.free
 ·obtain⟨_,o,ho,_⟩:=I.ok.me.mem hb;exact I.base.free b o ho (I.ok.yu b hb) λ z=>I.ok.Bs b z hb
theorem Inv.step {g':Array GenState}{t':Nat}{d':Drawn}{ch:List Addr}(I:Inv X pins LQ H s)
  (B:∀b∈ch,(b∈X.ex\/X.ie.heap.objs.size<=b)/\b≠X.env.locals/\(∀x c,X.env.cells.lookup x=some c->c≠b)/\∀p∈X.pn++pins,p.1≠b)
  (keep:∀b o,b≠X.env.locals->b∉X.fs->b∉ch->s.heap.get? b=some o->H b=none->h'.get? b=some o)
  (slot:∀b o,b≠X.env.locals->b∈X.fs->b∉ch->s.heap.get? b=some o->H b=none->∃sl,h'.get? b=some { o with slots:=sl }) (free:∀b o,b∉ch->s.heap.get? b=some o->H b=none->H' b=none)
  (there:∀b o,b∉ch->s.heap.get? b=some o->∃o',h'.get? b=some o')
  (dr:∀b xs,H b=some (.tup xs)->H' b=some (.tup xs)) (oX:∀b o u,H b=some (.sR o u)->H' b=some (.sR o u)) (qq:∀b ps,H b=some (.yq ps)->∃more,H' b=some (.yq (ps++more)))
  (ns:∀m,s.heap.Ns X.env.locals m->h'.Ns X.env.locals m) (de:ia X.prog X.w H' h') (hg:AllBare g') :
  Inv X pins LQ H' { s with heap:=h',gens:=g',drawn:=d',toks:=t' }:=by
 have Z:∀b o,X.ie.heap.get? b=some o->b≠X.env.locals:=λ b o e=>L5 (Mo (L0 e) I.ok.above)
 have N:∀b o,X.ie.heap.get? b=some o->b∉X.ex->b∉ch:=λ b o e hx hb=>by
  rcases (B b hb).1 with z | z
  ·exact hx z
  ·exact absurd (Mo (L0 e) z) (Mq _)
 have D:∀x c,X.env.cells.lookup x=some c->∀v,s.heap.IsCell c v->h'.IsCell c v:=λ x c e v ⟨o,ho,hd⟩=>by
  have G:c∉ch:=λ z=>(B c z).2.2.1 x c e rfl
  by_cases hc:c∈X.fs
  ·obtain⟨sl,q⟩:=slot c o (I.yw x c e) hc G ho (I.jy x c e);exact⟨_,q,hd⟩
  ·exact⟨o,keep c o (I.yw x c e) hc G ho (I.jy x c e),hd⟩
 refine⟨I.ok,I.os,hg,⟨λ b o e n hb hx=>?_,λ b o e n hb hx=>?_,λ b o e n hx=>?_,λ b o e hx=>?_,λ b xs e=>dr b xs (I.base.dr b xs e),λ b o xs e=>oX b o xs (I.base.oX b o xs e),λ b ps e=>?_⟩,?_,λ x c e=>?_,?_,λ x c e=>?_,λ p hp=>?_,de,I.len⟩
 ·exact keep b o (Z b o e) hb (N b o e hx) (I.base.keep b o e n hb hx) (I.base.free b o e n hx)
 ·obtain⟨sl,J⟩:=I.base.slot b o e n hb hx;obtain⟨a0,Y⟩:=slot b _ (Z b o e) hb (N b o e hx) J (I.base.free b o e n hx);exact⟨a0,Y⟩
 ·obtain⟨o',J⟩:=I.base.there b o e hx;exact free b o' (N b o e hx) J (I.base.free b o e n hx)
 ·obtain⟨o',J⟩:=I.base.there b o e hx;exact there b o' (N b o e hx) J
 ·obtain⟨m1,J⟩:=I.base.qq b ps e;obtain⟨m2,Y⟩:=qq b _ J;exact⟨m1++m2,by rw[Y,Array.append_assoc]⟩
 ·obtain⟨m,hn,hl⟩:=I.loc;refine⟨m,ns m hn,λ i x v J Y e3=>?_⟩;obtain⟨u,r,l⟩:=hl i x v J Y e3;exists u,r
  rcases l with l | ⟨k,c,e,z⟩
  ·exact .inl l
  ·exact .inr ⟨k,c,e,D x c e _ z⟩
 ·obtain⟨v,z⟩:=I.cell x c e;exact⟨v,D x c e v z⟩
 ·obtain⟨m,⟨o,_,_,ho,_⟩,_⟩:=I.loc;exact free _ o (λ z=>(B _ z).2.1 rfl) ho I.free
 ·obtain⟨v,o,ho,hd⟩:=I.cell x c e;exact free c o (λ z=>(B c z).2.2.1 x c e rfl) ho (I.jy x c e)
 ·obtain⟨e,n,ne,nf,d⟩:=I.pin p hp;have G:p.1∉ch:=λ z=>(B p.1 z).2.2.2 p hp rfl
  exact⟨keep p.1 p.2 ne nf G e n,free p.1 p.2 G e n,ne,nf,d⟩
theorem Inv.un {t':Nat}(I:Inv X pins LQ H s)(u:Un X.fs [] H H' s.heap h')(de:ia X.prog X.w H' h'):Inv X pins LQ H' { s with heap:=h',toks:=t' }:=by
  obtain⟨m,⟨o,es,ep,ho,r⟩,_⟩:=id I.loc;obtain⟨sl,N⟩:=u.any ho I.free (by simp);exact I.step (g':=s.gens) (d':=s.drawn) (ch:=[]) (λ _ z=>nomatch z) (λ b o _ hb _ e n=>u.keep b o e n hb (by simp)) (λ b o _ hb _ e n=>u.slot b o e n hb (by simp)) (λ b o _ e n=>u.free b o e n (by simp)) (λ b o _ e=>u.there b o e (by simp)) u.dr u.oX u.qq (λ Y hm=>by
    obtain⟨o',D,G,B,J⟩:=hm;rw[ho] at B;cases B;exact⟨_,D,G,N,J⟩) de I.bare
theorem Inv.call {g':Array GenState}{t':Nat}{d':Drawn}{ch:List Addr}(I:Inv X pins LQ H s)(u:Un (qr X.stack) ch H H' s.heap h')(de:ia X.prog X.w H' h')(hg:AllBare g')
  (G:∀b∈ch,(b∈X.ex\/X.ie.heap.objs.size<=b)/\b≠X.env.locals/\(∀x c,X.env.cells.lookup x=some c->c≠b)/\∀p∈X.pn++pins,p.1≠b) :
  Inv X pins LQ H' { s with heap:=h',gens:=g',drawn:=d',toks:=t' }:=by
 obtain⟨m,⟨o,es,ep,ho,r⟩,_⟩:=id I.loc;obtain⟨sl,Y⟩:=u.any ho I.free λ z=>(G _ z).2.1 rfl
 exact I.step (ch:=ch) G (λ b o Y hb B e n=>u.keep b o e n (λ z=>(LZ.mp (I.qu b z)).elim Y hb) B) (λ b o _ _ B e n=>u.any e n B) (λ b o B e n=>u.free b o e n B) (λ b o B e=>u.there b o e B) u.dr u.oX u.qq (λ m' hm=>by
  obtain⟨o',J,N,D,Z⟩:=hm;rw[ho] at D;cases D;exact⟨_,J,N,Y,Z⟩) de hg
theorem Inv.turned {t':Nat}{B:Addr}(I:Inv X pins LQ H s)(k:∀b o,b≠B->s.heap.get? b=some o->h'.get? b=some o)(hn:H B=none)(J:B≠X.env.locals)
  (h1:B∈X.ex\/X.ie.heap.objs.size<=B) (h2:∀x c,X.env.cells.lookup x=some c->c≠B) (N:∀p∈X.pn++pins,p.1≠B):Inv X pins LQ H { s with heap:=h',toks:=t' }:=by
 have G:∀b u,H b=some u->b≠B:=λ b u e z=>by rw[z,hn] at e;cases e
 refine I.step (g':=s.gens) (d':=s.drawn) (ch:=[B]) (λ b hb=>?_) (λ b o _ _ D e _=>k b o (λ z=>D (by simp[z])) e) (λ b o _ _ D e _=>⟨o.slots,k b o (λ z=>D (by simp[z])) e⟩) (λ _ _ _ _ n=>n)
  (λ b o D e=>⟨o,k b o (λ z=>D (by simp[z])) e⟩) (λ _ _ e=>e) (λ _ _ _ e=>e) (λ b ps e=>⟨#[],by rw[e];simp⟩) (λ m hm=>?_) (λ b u e=>?_) I.bare
 ·have e:b=B:=by simpa using hb
  subst e;exact⟨h1,J,h2,N⟩
 ·obtain⟨o,es,ep,ho,r⟩:=hm;exact⟨o,es,ep,k _ o (Ne.symm J) ho,r⟩
 ·refine (I.de b u e).vC (λ c v D q=>k c v ?_ q) (λ _ q=>q) λ _ _ q=>q
  rcases D with z | z
  ·rw[z];exact G b u e
  ·exact G c _ z
theorem Inv.tok (I:Inv X pins LQ H s)(t:Nat):Inv X pins LQ H { s with toks:=t }:=I.un (h':=s.heap) (t':=t) Un.refl I.de
theorem Inv.kept {t':Nat}(I:Inv X pins LQ H s)(k:∀b u,s.heap.get? b=some u->h'.get? b=some u):Inv X pins LQ H { s with heap:=h',toks:=t' }:=I.un (Un.kept k) (I.de.kept k)
theorem Inv.laid {a:Addr}{o:HO}{t':Nat}(I:Inv X pins LQ H s)(k:∀b u,s.heap.get? b=some u->h'.get? b=some u)(hp:s.heap.objs.size<=a)(new:ff X.prog X.w (upd H a o) h' a o) :
  Inv X pins LQ (upd H a o) { s with heap:=h',toks:=t' }:=I.un (Un.laid k hp (I.de.fresh hp)) (I.de.laid k hp new)
theorem Inv.write {x e:Addr}{o:HO}{t':Nat}(I:Inv X pins LQ H s)(D:CW (H x))(G:e=x\/H e=some (.own x))(k:∀b u,b≠e->s.heap.get? b=some u->h'.get? b=some u)(B:∃u,h'.get? e=some u)
  (new:ff X.prog X.w (upd H x o) h' x o):Inv X pins LQ (upd H x o) { s with heap:=h',toks:=t' }:=I.un (Un.write D G k B) (I.de.write D G k B new)
theorem Inv.Am {B:Z1}(I:Inv X pins LQ H s)(h:∀p∈B,s.heap.get? p.1=some p.2/\H p.1=none/\p.1≠X.env.locals/\p.1∉X.fs/\∀v,p.2.data≠.cell v):Inv X B LQ H s :=
 ⟨I.ok,I.os,I.bare,I.base,I.loc,I.cell,I.free,I.jy,λ p hp=>(Mh.mp hp).elim (λ z=>I.pin p (MF _ z)) (h p),I.de,I.len⟩
theorem yx (B:N.Nodup)(a:N[i]?=some x)(b:N[j]?=some x):i=j:=by
 obtain⟨h1,G⟩:=Md.mp a;obtain⟨h2,D⟩:=Md.mp b;exact (List.getElem_inj B).mp (G.trans D.symm)
theorem wL {v:V}(I:Inv X pins LQ H s)(hN:X.N.Nodup)(hi:X.N[i]?=some x)(hx:Loc X.env.scope x)(r:RelV v u)
  (h:∀s',Inv X pins (LQ.set i (some v)) H s'->(∃a,Mx a s.heap s'.heap/\(a=X.env.locals\/X.env.cells.lookup x=some a))->Q () s') (hf:X.fn x=true\/X.env.scope.names.lookup x=some .local:=by first | exact .inl rfl | exact .inr rfl | assumption):wpAny M A (storeName X.env x u) Q E s:=by
 obtain⟨m,hn,hl⟩:=id I.loc;have a4:(X.env.scope.kind == .class||(X.env.scope.kind == .module&&X.env.locals != X.env.globals))=false:=by rw[I.ok.kind];rfl
 have Z:i<LQ.length:=by rw[I.len];exact (Md.mp hi).1
 have yw:=I.yw;have D:∀{a:Addr} {h':Heap},(∃o,s.heap.get? a=some o/\H a=none)->Mx a s.heap h'->ia X.prog X.w H h':=λ {a h'} ha B b ob e=>by
  obtain⟨_,_,J⟩:=ha;refine (I.de b ob e).vC (λ c w' hc q=>(B.2 c ?_).trans q) (λ _ q=>q) λ _ _ q=>q
  rintro rfl
  rcases hc with rfl | hc
  ·rw[J] at e;cases e
  ·rw[J] at hc;cases hc
 rcases hx with hk | hk
 ·refine wpAny_storeName_local hk hn (λ h' a5 B=>?_) a4;obtain⟨oL,_,_,a6,_⟩:=id hn;refine h _ ⟨I.ok,I.os,I.bare,⟨λ b o e n hb hx=>?_,λ b o e n hb hx=>?_,I.base.free,λ b o e hx=>?_,I.base.dr,I.base.oX,I.base.qq⟩,⟨_,a5,λ j y v' G Y e3=>?_⟩,λ y c e=>?_,I.free,I.jy,λ p hp=>?_,D ⟨oL,a6,I.free⟩ B,by simpa using I.len⟩ ⟨_,B,.inl rfl⟩
  ·exact (B.2 b (L5 (Mo (L0 e) I.ok.above))).trans (I.base.keep b o e n hb hx)
  ·obtain⟨sl,G⟩:=I.base.slot b o e n hb hx;exact⟨sl,(B.2 b (L5 (Mo (L0 e) I.ok.above))).trans G⟩
  ·obtain⟨o',G⟩:=I.base.there b o e hx;exact⟨o',(B.2 b (L5 (Mo (L0 e) I.ok.above))).trans G⟩
  ·by_cases hj:j=i
   ·subst hj;rw[hi] at G;cases G;rw[List.getElem?_set_self Z] at Y;cases Y;exact⟨u,r,.inl ⟨hk,by simp⟩⟩
   ·rw[List.getElem?_set_ne (Ne.symm hj)] at Y;obtain⟨u',r',q⟩:=hl j y v' G Y e3;exists u',r'
    rcases q with ⟨k,e⟩ | ⟨k,c,e,z⟩
    ·refine .inl ⟨k,?_⟩;have:y≠x:=λ e=>hj (yx hN G (e ▸ hi))
     simp[this,e]
    ·exact .inr ⟨k,c,e,z.sameBut B (yw y c e)⟩
  ·obtain⟨w',z⟩:=I.cell y c e;exact⟨w',z.sameBut B (yw y c e)⟩
  ·obtain⟨e,n,ne,nf,d⟩:=I.pin p hp;exact⟨(B.2 p.1 ne).trans e,n,ne,nf,d⟩
 ·have a0:X.fn x=true:=by
   rcases hf with z | z
   ·exact z
   ·rw[z] at hk;cases hk
  obtain⟨c,hc⟩:=I.ok.has x (.inl hk);obtain⟨w',z⟩:=I.cell x c hc;refine wpAny_storeName_cell I.ok.kind hk hc z (λ h' a2 B=>?_);obtain⟨oc,a1,a3⟩:=id z;refine h { s with heap:=h' } ⟨I.ok,I.os,I.bare,⟨λ b o e n hb hx=>?_,λ b o e n hb hx=>?_,I.base.free,λ b o e hx=>?_,I.base.dr,I.base.oX,I.base.qq⟩,⟨m,hn.sameBut B (Ne.symm (yw x c hc)),λ j y v' G Y e3=>?_⟩,λ y c' e=>?_,I.free,I.jy,λ p hp=>?_,D ⟨oc,a1,I.jy x c hc⟩ B,by simpa using I.len⟩ ⟨c,B,.inr hc⟩
  ·exact (B.2 b (L5 (Mo (L0 e) (I.ok.CZ x c a0 hc)))).trans (I.base.keep b o e n hb hx)
  ·obtain⟨sl,G⟩:=I.base.slot b o e n hb hx;exact⟨sl,(B.2 b (L5 (Mo (L0 e) (I.ok.CZ x c a0 hc)))).trans G⟩
  ·obtain⟨o',G⟩:=I.base.there b o e hx;exact⟨o',(B.2 b (L5 (Mo (L0 e) (I.ok.CZ x c a0 hc)))).trans G⟩
  ·by_cases hj:j=i
   ·subst hj;rw[hi] at G;cases G;rw[List.getElem?_set_self Z] at Y;cases Y;exact⟨u,r,.inr ⟨.inl hk,c,hc,a2⟩⟩
   ·rw[List.getElem?_set_ne (Ne.symm hj)] at Y;obtain⟨u',r',q⟩:=hl j y v' G Y e3;exists u',r'
    rcases q with q | ⟨k,c',e,z'⟩
    ·exact .inl q
    ·refine .inr ⟨k,c',e,z'.sameBut B ?_⟩;rintro rfl;exact hj (yx hN G (I.ok.inj _ _ _ e hc ▸ hi))
  ·by_cases hcc:c' = c
   ·subst hcc;exact⟨_,a2⟩
   ·obtain⟨w2,z2⟩:=I.cell y c' e;exact⟨w2,z2.sameBut B hcc⟩
  ·obtain⟨e,n,ne,nf,d⟩:=I.pin p hp;refine⟨(B.2 p.1 ?_).trans e,n,ne,nf,d⟩;intro q;rw[q,a1] at e;have q':oc=p.2:=Mf.inj e;exact d w' (by rw[<-q'];exact a3)
theorem mK {v:V}(I:Inv X pins LQ H s)(B:X.N.Nodup)(hi:X.N[i]?=some x)(hx:Loc X.env.scope x)(r:RelV v u)
  (h:∀s',Inv X pins (LQ.set i (some v)) H s'->Q () s') (hf:X.fn x=true\/X.env.scope.names.lookup x=some .local:=by first | exact .inl rfl | exact .inr rfl | assumption):wpAny M A (storeName X.env x u) Q E s :=
 wL I B hi hx r (λ s' D _=>h s' D) hf
theorem Inv.GQ {s':Shared}{ch:List Addr}(I:Inv X pins LQ H s)(ho:s'.os=s.os)(u:Un (qr X.stack) ch H H' s.heap s'.heap)(de:ia X.prog X.w H' s'.heap)(D:AllBare s'.gens)
  (B:∀b∈ch,(b∈X.ex\/X.ie.heap.objs.size<=b)/\b≠X.env.locals/\(∀x c,X.env.cells.lookup x=some c->c≠b)/\∀p∈X.pn++pins,p.1≠b):Inv X pins LQ H' s':=by
 obtain⟨h',g',d',t',o'⟩:=s';have e:o' = s.os:=ho;subst e;exact I.call (g':=g') (t':=t') (d':=d') u de D B
end
abbrev XK:=Value->Option Addr->Hp->Prop
abbrev St:=List (Option V)
abbrev VK:=V->Hp->Prop
abbrev TE:=St->Hp->VK->Prop
abbrev TT:=St->Hp->(Bool->Hp->Prop)->Prop
abbrev TA:=St->Hp->(List V->Hp->Prop)->Prop
structure Ends where
 nx:St->Hp->Prop
 rt:VK
 bk:St->Hp->Prop:=λ _ _=>False
 ct:St->Hp->Prop:=λ _ _=>False
abbrev TS:=Ends->St->Hp->Prop
def EP (X:Cx)(pins:Z1)(LQ : St)(Q:VK)(u:Value)(s':Shared):Prop:=∃v H',Inv X pins LQ H' s'/\RelV v u/\Q v H'
def TP (X:Cx)(pins:Z1)(LQ : St)(Q:Bool->Hp->Prop)(b:Bool)(s':Shared):Prop:=∃H',Inv X pins LQ H' s'/\Q b H'
def AP (X:Cx)(pins:Z1)(LQ : St)(Q:List V->Hp->Prop)(us:List Value)(s':Shared):Prop:=∃vs H',Inv X pins LQ H' s'/\Vals vs us/\Q vs H'
def SP (X:Cx)(pins:Z1)(D:Ends)(f:Flow)(s':Shared):Prop :=
 match f with
 | .next=>∃σ' H',Inv X pins σ' H' s'/\D.nx σ' H'
 | .brk=>∃σ' H',Inv X pins σ' H' s'/\D.bk σ' H'
 | .cont=>∃σ' H',Inv X pins σ' H' s'/\D.ct σ' H'
 | .ret u=>∃v σ' H',Inv X pins σ' H' s'/\RelV v u/\D.rt v H'
def PE (X:Cx)(e:Expr)(t:TE):Prop :=
 ∀(pins:Z1) (s:Shared) (LQ : St) (H:Hp) (Q:VK),Inv X pins LQ H s->t LQ H Q->wpAny (model X.prog X.w) X.A (eval e X.env) (EP X pins LQ Q) X.xe s
def PT (X:Cx)(e:Expr)(t:TT):Prop :=
 ∀(pins:Z1) (s:Shared) (LQ : St) (H:Hp) (Q:Bool->Hp->Prop),Inv X pins LQ H s->t LQ H Q->wpAny (model X.prog X.w) X.A (isTrue e X.env (eval e X.env)) (TP X pins LQ Q) X.xe s
def PW (X:Cx)(e:Expr)(t:TT):Prop :=
 ∀(whole:Sem Value) (pins:Z1) (s:Shared) (LQ : St) (H:Hp) (Q:Bool->Hp->Prop),Inv X pins LQ H s->t LQ H Q->wpAny (model X.prog X.w) X.A (isTrue e X.env whole) (TP X pins LQ Q) X.xe s
theorem PW.pt {X:Cx}{t:TT}(h:PW X e t):PT X e t:=h _
def PA (X:Cx)(es:List Expr)(t:TA):Prop :=
 ∀(pos:Pos) (pins:Z1) (s:Shared) (LQ : St) (H:Hp) (Q:List V->Hp->Prop),Inv X pins LQ H s->t LQ H Q->wpAny (model X.prog X.w) X.A (spliced (backTo pos (starEach es X.env))) (AP X pins LQ Q) X.xe s
def PS (X:Cx)(st:Stmt)(t:TS):Prop :=
 ∀(pins:Z1) (s:Shared) (LQ : St) (H:Hp) (D:Ends),Inv X pins LQ H s->t D LQ H->wpAny (model X.prog X.w) X.A (exec st X.env) (SP X pins D) X.xe s
def ni (X:Cx)(st:List Stmt)(t:TS):Prop :=
 ∀(pins:Z1) (s:Shared) (LQ : St) (H:Hp) (D:Ends),Inv X pins LQ H s->t D LQ H->wpAny (model X.prog X.w) X.A (execs st X.env) (SP X pins D) X.xe s
theorem dC {B:Type}{t:Sem B}{Q D:B->Shared->Prop}(h:wpAny M A t Q E s)(G:∀a s,Q a s->D a s):wpAny M A t D E s:=OB h G λ _ _ x=>x
section
variable {X:Cx}
theorem bin {a b:Expr}{ta tb:TE}(N:PE X a ta)(hb:PE X b tb){LQ : St}{H:Hp}{R:V->V->Hp->Prop}(I:Inv X pins LQ H s)(h:ta LQ H λ x H1=>tb LQ H1 λ y H2=>R x y H2)
  {J:Type} {Q:J->Shared->Prop} {f:Value->Value->Sem J}
  (hf:∀v u G x y H2,Inv X pins LQ H2 G->RelV x v->RelV y u->R x y H2->wpAny (model X.prog X.w) X.A (f v u) Q X.xe G) :
  wpAny (model X.prog X.w) X.A (eval a X.env) (λ v D=>wpAny (model X.prog X.w) X.A (eval b X.env) (λ u B=>wpAny (model X.prog X.w) X.A (f v u) Q X.xe B) X.xe D) X.xe s:=by
 refine dC (N pins s LQ H _ I h) λ v Y ⟨x,H1,I1,r1,q1⟩=>?_
 refine dC (hb pins Y LQ H1 _ I1 q1) λ u G ⟨y,H2,Z,r2,q2⟩=>?_
 exact hf v u G x y H2 Z r1 r2 q2
inductive IW (i:Nat) (LQ : St) (H:Hp) (Q:VK):Prop
 | mk (v:_) (_:LQ[i]?=some (some v)) (_:Q v H)
def tC (v:V):TE:=λ _ H Q=>Q v H
theorem IX {pos:Pos} (Z:X.N[i]?=some x) (Y:GO X.env.scope x) (hd:(x == ("__debug__" : Str))=false:=by decide) (G:(x == ("__classdict__" : Str))=false:=by decide):PE X (.Name x pos) (IW i):=by
 intro pins s LQ H Q I h;obtain⟨v,e,h⟩:=h;obtain⟨m,hn,hl⟩:=I.loc;obtain⟨u,r,l⟩:=hl i x v Z e Y;have D:EP X pins LQ Q u s:=⟨v,H,I,r,h⟩
 rcases l with ⟨hk,hm⟩ | ⟨hk,c,J,B⟩
 ·exact wpAny_Name (wpAny_loadName_local I.ok.kind hk hn hm D) hd
 ·rcases hk with hk | hk
  ·exact wpAny_Name (wpAny_loadName_cell I.ok.kind hk J B D) hd
  ·exact wpAny_Name (wpAny_loadName_free I.ok.kind hk J B D G) hd
theorem cA {i j pos}:PE X (.Constant (.int i) j pos) (tC (.int i)):=λ _ _ _ H _ I h=>wpAny_Constant_int ⟨.int i,H,I.tok _,⟨_,rfl⟩,h⟩
theorem lK {b j pos}:PE X (.Constant (.bool b) j pos) (tC (.bl b)):=λ _ _ _ H _ I h=>Constant_bool ⟨.bl b,H,I,rfl,h⟩
theorem mL {j pos}:PE X (.Constant .none j pos) (tC .eu):=λ _ _ _ H _ I h=>Constant_none ⟨.eu,H,I,rfl,h⟩
theorem dA {x j pos}:PE X (.Constant (.str x) j pos) (tC (.str x)):=λ _ _ _ H _ I h=>Calls.Constant_str ⟨.str x,H,I.tok _,⟨_,rfl⟩,h⟩
def Gl (X:Cx)(x:Str):Prop:=X.env.kindOf x=some .globalImplicit
theorem vD {LQ : St}{H:Hp}{pos:Pos}{Q:Z0}(I:Inv X pins LQ H s)(B:Gl X x)(hm:X.mg x=some u)(h:Q u s)
  (hd:(x == ("__debug__" : Str))=false:=by decide):wpAny (model X.prog X.w) X.A (eval (.Name x pos) X.env) Q E s :=
 Calls.Name_function_global I.ok.kind B (Calls.loadGlobal_global (by rw[I.ok.glob];exact I.mod.glob.keeps I.bk) hm h) hd
theorem jJ {LQ : St}{H:Hp}{pos:Pos}{Q:Z0}(I:Inv X pins LQ H s)(D:Gl X x)(hm:X.mg x=none)(B:bootBuiltins x=some u)(h:Q u s)
  (hn:x ≠ "__name__" := by decide) (hd:(x == ("__debug__" : Str))=false:=by decide):wpAny (model X.prog X.w) X.A (eval (.Name x pos) X.env) Q E s:=by
 obtain⟨G,h1,h2⟩:=I.mod.blt;exact Calls.Name_function_global I.ok.kind D (Calls.loadGlobal_builtin (by rw[I.ok.glob];exact I.mod.glob.keeps I.bk) hm (by rw[I.ok.blt];exact h1.keeps I.bk) ((h2 x hn).trans B) h) hd
theorem j4 {v:V}  {pos:Pos} (B:Gl X x) (hm:X.mg x=some u) (r:RelV v u) (hd:(x == ("__debug__" : Str))=false:=by decide):PE X (.Name x pos) (tC v) :=
 λ _ _ _ H _ I h=>vD I B hm ⟨v,H,I,r,h⟩ hd
variable {a b:Expr}{ta tb:TE}{pos:Pos}
def PC (X:Cx)(op:CmpOp)(a b:Expr)(t:TE):Prop :=
 ∀(pins:Z1) (s:Shared) (LQ : St) (H:Hp) (Q:VK),Inv X pins LQ H s->t LQ H Q ->
  wpAny (model X.prog X.w) X.A (eval a X.env) (λ v s₁=>wpAny (model X.prog X.w) X.A (eval b X.env) (λ u s₂=>wpAny (model X.prog X.w) X.A (compareOp op v u) (EP X pins LQ Q) X.xe s₂) X.xe s₁) X.xe s
theorem yy (b:Expr)(h:op≠.In)(h2:op≠.NotIn):behindInMarks op b=false:=by
 have D:(op == CmpOp.In)=false:=by cases op<;>first | rfl | exact absurd rfl h
 have B:(op == CmpOp.NotIn)=false:=by cases op<;>first | rfl | exact absurd rfl h2
 cases b<;>simp[behindInMarks,D,B]
def K0 (ta:TE):TE:=λ LQ H Q=>ta LQ H λ x H1=>Q (.bl (decide (x=.eu))) H1
def Kc (ta:TE):TE:=λ LQ H Q=>ta LQ H λ x H1=>Q (.bl (!decide (x=.eu))) H1
theorem RelV.yz {x:V}{v:Value}(r:RelV x v):(v == Value.none)=decide (x=.eu):=by
 cases x with
 | eu=>cases r;rfl
 | bl _=>cases r;rfl
 | int _=>obtain⟨t,rfl⟩:=r;rfl
 | str _=>obtain⟨t,rfl⟩:=r;rfl
 | oi _=>obtain⟨t,rfl⟩:=r;rfl
 | CV _=>obtain⟨t,rfl⟩:=r;rfl
 | ref _=>cases r;rfl
 | ty _=>cases r;rfl
theorem j9 {j pos'}(D:PE X a ta):PC X .Is a (.Constant .none j pos') (K0 ta):=by
 intro pins s LQ H Q I h;refine dC (D pins s LQ H _ I h) λ v J ⟨x,H1,G,B,q1⟩=>?_
 exact Constant_none (is_none_gen ⟨.bl _,H1,G,by rw[B.yz];rfl,q1⟩)
theorem vE {j pos'}(D:PE X a ta):PC X .IsNot a (.Constant .none j pos') (Kc ta):=by
 intro pins s LQ H Q I h;refine dC (D pins s LQ H _ I h) λ v J ⟨x,H1,G,B,q1⟩=>?_
 exact Constant_none (isnot_none_gen ⟨.bl _,H1,G,by rw[B.yz];rfl,q1⟩)
inductive Kd (Q:(Bool->Hp->Prop)) (x:V) (H1:Hp):Prop
 | mk (c:_) (_:x=.bl c) (_:Q c H1)
def tB (t:TE):TT:=λ LQ H Q=>t LQ H λ x H1=>Kd Q x H1
theorem C0 {t:TE}(h:PC X op a b t)(h1:behindInMarks op b=false:=by first | exact yy _ ⋯ ⋯ | rfl):PE X (.Compare a [op] [b] pos) t:=λ pins s LQ H Q I B=>wpAny_Compare1 (h pins s LQ H Q I B) h1
theorem jm {t:TE}(h:PC X op a b t)(h1:behindInMarks op b=false:=by first | exact yy _ ⋯ ⋯ | rfl):PT X (.Compare a [op] [b] pos) (tB t):=by
 intro pins s LQ H Q I D;refine wpAny_isTrue_Compare1 (dC (h pins s LQ H _ I D) λ v N h1=>dC h1 λ u J h2=>dC h2 λ c Y ⟨x,H1,B,G,q1⟩=>?_) h1;obtain⟨d,rfl,q⟩:=q1;cases G;exact OS ⟨H1,B,q⟩
theorem qv {t:TE}(h:PE X e t)(N:∀B,isTrue e X.env B=(do let v <-B;standAt e.pos;holding [v] (truthy v)):=by intro _;rfl):PT X e (tB t):=by
 intro pins s LQ H Q I G;refine isTrue_plain (dC (h pins s LQ H _ I G) λ v Y ⟨x,H1,D,J,q1⟩=>?_) (N _);obtain⟨d,rfl,q⟩:=q1;cases J;exact OS ⟨H1,D,q⟩
variable {tA tB':TT}{rest:List Expr}
def K1 (t u:TT):TT:=λ LQ H Q=>t LQ H λ c H1=>if c=true then u LQ H1 Q else Q false H1
def Lx (t u:TT):TT:=λ LQ H Q=>t LQ H λ c H1=>if c=true then Q true H1 else u LQ H1 Q
def K2 (t:TT):TT:=λ LQ H Q=>t LQ H λ c H1=>Q (!c) H1
theorem oo (B:PT X a tA):PW X (.BoolOp .And [a] pos) tA:=by
 intro G pins s LQ H Q I h;refine isTrue_and (dC (B pins s LQ H Q I h) λ c D e=>?_);cases c with
 | true=>exact isTrue_and_nil e
 | false=>exact e
theorem yA (B:PT X a tA):PW X (.BoolOp .Or [a] pos) tA:=by
 intro G pins s LQ H Q I h;refine isTrue_or (dC (B pins s LQ H Q I h) λ c D e=>?_);cases c with
 | false=>exact isTrue_or_nil e
 | true=>exact e
theorem qw (D:PT X a tA)(hb:PW X (.BoolOp .And (b::rest) pos) tB'):PW X (.BoolOp .And (a::b::rest) pos) (K1 tA tB'):=by
 intro J pins s LQ H Q I h;refine isTrue_and (dC (D pins s LQ H _ I h) λ c G ⟨H1,B,q1⟩=>?_);cases c with
 | true=>exact hb J pins G LQ H1 Q B q1
 | false=>exact⟨H1,B,q1⟩
theorem Bt (D:PT X a tA)(hb:PW X (.BoolOp .Or (b::rest) pos) tB'):PW X (.BoolOp .Or (a::b::rest) pos) (Lx tA tB'):=by
 intro J pins s LQ H Q I h;refine isTrue_or (dC (D pins s LQ H _ I h) λ c G ⟨H1,B,q1⟩=>?_);cases c with
 | true=>exact⟨H1,B,q1⟩
 | false=>exact hb J pins G LQ H1 Q B q1
theorem IY (B:PT X a tA):PT X (.UnaryOp .Not a pos) (K2 tA):=by
 intro pins s LQ H Q I h;exact isTrue_not (B pins s LQ H (λ c H1=>Q (!c) H1) I h)
inductive ET (tb:TE) (LQ : St) (Q:VK) (x:V) (H1:Hp):Prop
 | mk (c:_) (_:x=.bl c) (_:if c=true then tb LQ H1 Q else Q (.bl false) H1)
def Ke (ta tb:TE):TE:=λ LQ H Q=>ta LQ H λ x H1=>ET tb LQ Q x H1
inductive Hl (tb:TE) (LQ : St) (Q:VK) (x:V) (H1:Hp):Prop
 | mk (c:_) (_:x=.bl c) (_:if c=true then Q (.bl true) H1 else tb LQ H1 Q)
def K3 (ta tb:TE):TE:=λ LQ H Q=>ta LQ H λ x H1=>Hl tb LQ Q x H1
theorem qx {op}{t:TE}(h:PE X a t):PE X (.BoolOp op [a] pos) t:=λ pins s LQ H Q I B=>BoolOp_one (h pins s LQ H Q I B)
theorem C1 (D:PE X a ta)(hb:PE X (.BoolOp .And (b::rest) pos) tb):PE X (.BoolOp .And (a::b::rest) pos) (Ke ta tb):=by
 intro pins s LQ H Q I h;refine BoolOp_and (dC (D pins s LQ H _ I h) λ v J ⟨x,H1,B,G,q1⟩=>?_);obtain⟨c,rfl,q1⟩:=q1;cases G;refine OS ?_;cases c with
 | true=>exact hb pins J LQ H1 Q B q1
 | false=>exact⟨.bl false,H1,B,rfl,q1⟩
theorem Bu (D:PE X a ta)(hb:PE X (.BoolOp .Or (b::rest) pos) tb):PE X (.BoolOp .Or (a::b::rest) pos) (K3 ta tb):=by
 intro pins s LQ H Q I h;refine BoolOp_or (dC (D pins s LQ H _ I h) λ v J ⟨x,H1,B,G,q1⟩=>?_);obtain⟨c,rfl,q1⟩:=q1;cases G;refine OS ?_;cases c with
 | false=>exact hb pins J LQ H1 Q B q1
 | true=>exact⟨.bl true,H1,B,rfl,q1⟩
def Ly (t:TT)(ta tb:TE):TE:=λ LQ H Q=>t LQ H λ c H1=>if c=true then ta LQ H1 Q else tb LQ H1 Q
theorem gW (J:PT X c tA)(G:PE X a ta)(hb:PE X b tb):PE X (.IfExp c a b pos) (Ly tA ta tb):=by
 intro pins s LQ H Q I h;refine wpAny_IfExp (dC (J pins s LQ H _ I h) λ d B ⟨H1,D,q1⟩=>?_);cases d with
 | true=>exact G pins B LQ H1 Q D q1
 | false=>exact hb pins B LQ H1 Q D q1
end
def cN (K:LV)(H:Hp)(a:Addr)(xs:List V):Prop :=
 Rd H a (.lst xs) \/
  ∃(o:Obj) (its:Array Value) (n:Nat),K.lookup a=some o/\o.cls=.type "list" /\ o.dict=none/\o.data=.seq its n/\its.size<=sizeLine/\Vals xs its.toList
def cE (K:LV)(H:Hp)(a:Addr)(xs:List V):Prop :=
 Rd H a (.tup xs) \/
  ∃(o:Obj) (its:Array Value) (n:Nat),K.lookup a=some o/\o.cls=.type "tuple" /\ o.data=.seq its n/\its.size<=sizeLine/\Vals xs its.toList
def K4:Value->Option V
 | .none=>some .eu
 | .bool b=>some (.bl b)
 | .int i _=>some (.int i)
 | .str x _=>some (.str x)
 | .bytes b _=>some (.oi b)
 | .float b _=>some (.CV b)
 | .ref a=>some (.ref a)
 | .type n=>some (.ty n)
 | _=>none
theorem RelV.abs {x:V}(r:RelV x u):K4 u=some x:=by
 cases x with
 | eu=>cases r;rfl
 | bl _=>cases r;rfl
 | int _=>obtain⟨t,rfl⟩:=r;rfl
 | str _=>obtain⟨t,rfl⟩:=r;rfl
 | oi _=>obtain⟨t,rfl⟩:=r;rfl
 | CV _=>obtain⟨t,rfl⟩:=r;rfl
 | ref _=>cases r;rfl
 | ty _=>cases r;rfl
theorem RelV.inj {x y:V}{u:Value}(r:RelV x u)(q:RelV y u):x=y:=Mf.inj (r.abs.symm.trans q.abs)
theorem Vals.inj:∀{xs ys:List V} {us:List Value},Vals xs us->Vals ys us->xs=ys
 | _,_,_,.nil,.nil=>rfl
 | _,_,_,.cons r t,.cons r' t'=>by rw[r.inj r',Vals.inj t t']
section
variable {X:Cx}{pins:Z1}{LQ : St}{H:Hp}{s:Shared}{a:Addr}{xs ys:List V}
theorem cN.of {K:LV}(h:H a=some (.lst xs)):cN K H a xs:=.inl (.inl h)
theorem cE.of {K:LV}(h:H a=some (.tup xs)):cE K H a xs:=.inl (.inl h)
theorem Inv.list (I:Inv X pins LQ H s)(h:cN X.K H a xs):∃its:List Value,Vals xs its/\PlainL s.heap a its.toArray/\xs.length<=sizeLine:=by
 rcases h with h | ⟨o,its,n,G,B,hd,D,hz,r⟩
 ·obtain⟨z,its,n,r,e⟩:=h.ok I.de;exact⟨its,r,⟨_,n,e,rfl,rfl,rfl⟩,z⟩
 ·exists its.toList,r,⟨o,n,I.lP a o G,B,hd,by simpa using D⟩;have e:=r.length;simp only[MD] at e;omega
theorem Inv.tuple (I:Inv X pins LQ H s)(h:cE X.K H a xs):∃its:List Value,Vals xs its/\IsTup s.heap a its.toArray/\xs.length<=sizeLine:=by
 rcases h with h | ⟨o,its,n,G,B,D,hz,r⟩
 ·obtain⟨z,its,r,o,e,c,n,d,_⟩:=h.ok I.de;exact⟨its,r,⟨o,e,c,n,d⟩,z⟩
 ·exists its.toList,r,⟨o,I.lP a o G,B,n,by simpa using D⟩;have e:=r.length;simp only[MD] at e;omega
theorem Inv.yB (I:Inv X pins LQ H s)(h:cN X.K H a xs)(h':cN X.K H a ys):xs=ys:=by
 obtain⟨its,r,⟨o,n,e,_,_,d⟩,_⟩:=I.list h;obtain⟨its',D,⟨o',G,B,_,_,d'⟩,_⟩:=I.list h';rw[e] at B;cases B;rw[d] at d';injection d' with d1 _
 have:its=its':=by simpa using congrArg Array.toList d1
 subst this;exact r.inj D
theorem Inv.nj (I:Inv X pins LQ H s)(h:cE X.K H a xs)(h':cE X.K H a ys):xs=ys:=by
 obtain⟨its,r,⟨o,e,_,n,d⟩,_⟩:=I.tuple h;obtain⟨its',D,⟨o',B,_,G,d'⟩,_⟩:=I.tuple h';rw[e] at B;cases B;rw[d] at d';injection d' with d1 _
 have:its=its':=by simpa using congrArg Array.toList d1
 subst this;exact r.inj D
end
abbrev Cx.nT (X:Cx)(E:Z0):Cx:={ X with xe:=E }
abbrev Cx.An (X:Cx):Cx:=X.nT λ _ _=>False
theorem Cx.Ok.nT {X:Cx}(ok:X.Ok)(E:Z0):(X.nT E).Ok :=
 ⟨ok.mod,ok.kind,ok.glob,ok.blt,ok.above,ok.inj,ok.has,ok.CZ,ok.hd,ok.frames,ok.GP,ok.KD,ok.bs,ok.uz,ok.yt,ok.Bs,ok.me,ok.yu⟩
theorem Cx.Ok.lQ {X:Cx}(ok:(X.nT E).Ok):X.Ok :=
 ⟨ok.mod,ok.kind,ok.glob,ok.blt,ok.above,ok.inj,ok.has,ok.CZ,ok.hd,ok.frames,ok.GP,ok.KD,ok.bs,ok.uz,ok.yt,ok.Bs,ok.me,ok.yu⟩
section
variable {X:Cx}{pins:Z1}{LQ : St}{H:Hp}{s:Shared}{E:Z0}
theorem Inv.nT (I:Inv X pins LQ H s)(E:Z0):Inv (X.nT E) pins LQ H s:=⟨I.ok.nT E,I.os,I.bare,I.base,I.loc,I.cell,I.free,I.jy,I.pin,I.de,I.len⟩
theorem Inv.lQ (I:Inv (X.nT E) pins LQ H s):Inv X pins LQ H s:=⟨I.ok.lQ,I.os,I.bare,I.base,I.loc,I.cell,I.free,I.jy,I.pin,I.de,I.len⟩
theorem SP.lQ {D:Ends}{f:Flow}{s':Shared}(h:SP (X.nT E) pins D f s'):SP X pins D f s':=by
 cases f with
 | next=>obtain⟨B,H',I,q⟩:=h;exact⟨B,H',I.lQ,q⟩
 | brk=>obtain⟨B,H',I,q⟩:=h;exact⟨B,H',I.lQ,q⟩
 | cont=>obtain⟨B,H',I,q⟩:=h;exact⟨B,H',I.lQ,q⟩
 | ret u=>obtain⟨v,B,H',I,r,q⟩:=h;exact⟨v,B,H',I.lQ,r,q⟩
theorem ni.An {st:List Stmt}{t:TS}(h:ni X.An st t):ni X st t:=λ pins s LQ H D I B =>
 OB (h pins s LQ H D (I.nT _) B) (λ _ _ q=>q.lQ) λ _ _ z=>False.elim z
end
section
variable {X:Cx}{st:Stmt}{rest:List Stmt}{t u:TS}{e:Expr}{te:TE}{pos:Pos}
def Kf:TS:=λ D LQ H=>D.nx LQ H
def eD (t u:TS):TS:=λ D LQ H=>t { D with nx:=u D } LQ H
theorem du:ni X [] Kf:=λ _ _ LQ H _ I h=>OZ ⟨LQ,H,I,h⟩
theorem cw (h1:PS X st t)(h2:ni X rest u):ni X (st::rest) (eD t u):=by
 intro pins s LQ H D I h;refine wpAny_execs_cons (dC (h1 pins s LQ H { D with nx:=u D } I h) λ f G q=>?_);cases f with
 | next =>
  obtain⟨B,H',J,q⟩:=q;exact h2 pins G B H' D J q
 | ret v=>exact q
 | brk=>exact q
 | cont=>exact q
theorem cB (h1:PS X st t):ni X [st] t:=by
 intro pins s LQ H D I h;refine wpAny_execs_cons (dC (h1 pins s LQ H D I h) λ f B q=>?_);cases f with
 | next=>exact OZ q
 | ret v=>exact q
 | brk=>exact q
 | cont=>exact q
theorem Inv.quiet {LQ : St}{H:Hp}(I:Inv X pins LQ H s):interactive X.env=false:=by simp[interactive,I.ok.kind]
def Kg (te:TE):TS:=λ D LQ H=>te LQ H λ _ H1=>D.nx LQ H1
theorem eJ (B:PE X e te)(G:swapsWith e none pos.line X.env=pure false:=by rfl):PS X (.Expr e pos) (Kg te):=by
 intro pins s LQ H D I h;exact wpAny_Expr_any (dC (B pins s LQ H _ I h) λ v Y ⟨x,H1,J,N,q1⟩=>⟨LQ,H1,J,q1⟩) I.quiet G
def K5 (te:TE):TS:=λ D LQ H=>te LQ H D.rt
theorem cK (G:PE X e te):PS X (.Return (some e) pos) (K5 te):=by
 intro pins s LQ H D I h;exact wpAny_Return_some (dC (G pins s LQ H _ I h) λ v N ⟨x,H1,J,B,q1⟩=>⟨x,LQ,H1,J,B,q1⟩)
def K6 (c:TT)(t u:TS):TS:=λ D LQ H=>c LQ H λ b H1=>if b=true then t D LQ H1 else u D LQ H1
theorem dJ {a b:List Stmt}{tc:TT}(N:PT X c tc)(J:ni X a t)(hb:ni X b u):PS X (.If c a b pos) (K6 tc t u):=by
 intro pins s LQ H D I h;refine wpAny_If (dC (N pins s LQ H _ I h) λ d G ⟨H1,B,q1⟩=>?_);cases d with
 | true=>exact J pins G LQ H1 D B q1
 | false=>exact hb pins G LQ H1 D B q1
def IZ:TS:=λ _ _ _=>False
theorem EU:PS X st IZ:=λ _ _ _ _ _ _ h=>h.elim
end
abbrev TG:=V->St->Hp->(St->Hp->Prop)->Prop
abbrev yC:=List V->St->Hp->(St->Hp->Prop)->Prop
def PG (X:Cx)(target:Expr)(t:TG):Prop :=
 ∀(pins:Z1) (s:Shared) (LQ : St) (H:Hp) (v:V) (u:Value) (Q:St->Hp->Prop),Inv X pins LQ H s->RelV v u->t v LQ H Q ->
  wpAny (model X.prog X.w) X.A (assign target X.env u) (λ _ s'=>∃σ' H',Inv X pins σ' H' s'/\Q σ' H') X.xe s
def GR (X:Cx)(ts:List Expr)(t:yC):Prop :=
 ∀(pins:Z1) (s:Shared) (LQ : St) (H:Hp) (vs:List V) (us:List Value) (Q:St->Hp->Prop),Inv X pins LQ H s->Vals vs us->t vs LQ H Q ->
  wpAny (model X.prog X.w) X.A (assignInOrder ((assignEach ts X.env).map (·.2)) us) (λ _ s'=>∃σ' H',Inv X pins σ' H' s'/\Q σ' H') X.xe s
abbrev EV:=V->V->V->Hp->(Hp->Prop)->Prop
def EW (X:Cx)(t:EV):Prop :=
 ∀(pins:Z1) (s:Shared) (LQ : St) (H:Hp) (o i v:V) (ov iv u:Value) (Q:Hp->Prop),Inv X pins LQ H s->RelV o ov->RelV i iv->RelV v u->t o i v H Q ->
  wpAny (model X.prog X.w) X.A (setItem ov iv u) (λ _ s'=>∃H',Inv X pins LQ H' s'/\Q H') X.xe s
abbrev I0:=V->V->Hp->VK->Prop
def KG (X:Cx)(op:Operator)(t:I0):Prop :=
 ∀(pins:Z1) (s:Shared) (LQ : St) (H:Hp) (x y:V) (v u:Value) (Q:VK),Inv X pins LQ H s->RelV x v->RelV y u->t x y H Q ->
  wpAny (model X.prog X.w) X.A (inplaceOp op v u) (EP X pins LQ Q) X.xe s
section
variable {X:Cx}{pos:Pos}
def rQ (i:Nat):TG:=λ v LQ H Q=>Q (LQ.set i (some v)) H
theorem Hm (B:X.N.Nodup)(hi:X.N[i]?=some x)(hx:Loc X.env.scope x)(hf:X.fn x=true\/X.env.scope.names.lookup x=some .local:=by first | exact .inl rfl | exact .inr rfl | assumption):PG X (.Name x pos) (rQ i):=by
 intro pins s LQ H v u Q I r h;exact wpAny_assign_Name (mK I B hi hx r (λ s' D=>⟨_,H,D,h⟩) hf)
def K7:yC:=λ vs LQ H Q=>vs=[]/\Q LQ H
inductive Kh (t:TG) (u:yC) (vs:List V) (LQ : St) (H:Hp) (Q:(St->Hp->Prop)):Prop
 | mk (v r:_) (_:vs=v::r) (_:t v LQ H λ σ' H'=>u r σ' H' Q)
theorem eX:GR X [] K7:=by
 intro pins s LQ H vs us Q I r h;obtain⟨e,h⟩:=h;subst e;cases r;exact assignInOrder_nil ⟨LQ,H,I,h⟩
theorem cR {t:TG}{u:yC}(h1:PG X e t)(h2:GR X es u)
  (G:(assignEach (e::es) X.env).map (·.2)=assign e X.env::(assignEach es X.env).map (·.2):=by rfl):GR X (e::es) (Kh t u):=by
 intro pins s LQ H vs us Q I r h;obtain⟨v,Y,D,h⟩:=h;subst D;cases r with
 | cons r rr =>
  rw[G];refine assignInOrder_cons (dC (h1 pins s LQ H _ _ _ I r h) λ _ N ⟨B,H1,J,q1⟩=>?_);exact h2 pins N B H1 _ _ Q J rr q1
inductive EX (K:LV) (n:Nat) (t:yC) (v:V) (LQ : St) (H:Hp) (Q:(St->Hp->Prop)):Prop
 | mk (a xs:_) (_:v=.ref a) (_:cE K H a xs) (_:xs.length=n) (_:t xs LQ H Q)
theorem fw {k:Nat}{t:yC}{n:Nat}(J:X.calm=true)(h:GR X es t)
  (hn:(assignEach es X.env).length=n:=by rfl) (B:(assignEach es X.env).findIdx? (·.1)=none:=by rfl):PG X (.Tuple es k pos) (EX X.K n t):=by
 intro pins s LQ H v u Q I r D;obtain⟨a,xs,N,hq,hl,D⟩:=D;subst N;cases r;obtain⟨its,G,Y,hz⟩:=I.tuple hq;refine assign_Tuple_tuple (I.ok.hd J) Y (by simp[hn,<-hl,G.length]) B λ h' hx=>?_
 have Z:Inv X pins LQ H { s with heap:=h' }:=I.kept (t':=s.toks) λ b o e=>hx b o (L5 (L0 e)) e
 exact h pins _ LQ H xs _ Q Z (by simpa using G) D
def K8 (to ti:TE)(t:EV):TG:=λ v LQ H Q=>to LQ H λ o H1=>ti LQ H1 λ i H2=>t o i v H2 λ H3=>Q LQ H3
theorem oq {o i:Expr}{to G:TE}{t:EV}(ho:PE X o to)(hi:PE X i G)(hs:EW X t)
  (J:∀v,assign (.Subscript o i pos) X.env v=(do
   let B <-holding [v] (eval o X.env)
   let D <-holding [v,B] (eval i X.env)
   standAt pos
   holding [v,B,D] (setItem B D v)
   release [v,B,D] []):=by intro _;rfl):PG X (.Subscript o i pos) (K8 to G t):=by
 intro pins s LQ H v u Q I r h;rw[J];refine Oz (OC (dC (ho pins s LQ H _ I h) λ B Y ⟨x,H1,I1,r1,q1⟩=>?_));refine Oz (OC (dC (hi pins Y LQ H1 _ I1 q1) λ D s2 ⟨y,H2,Z,r2,q2⟩=>?_));refine Oz (OM (Oz (OC (dC (hs pins s2 LQ H2 x y v B D u _ Z r1 r2 r q2) λ _ s3 ⟨N,I3,q3⟩=>?_))));exact wpAny_release ⟨LQ,N,I3,q3⟩
def Bv (te:TE)(g:TG):TS:=λ D LQ H=>te LQ H λ x H1=>g x LQ H1 D.nx
theorem fz {te:TE}{g:TG}(Z:PE X e te)(N:PG X tg g)(B:swapsWithSole [tg] e pos.line X.env=pure false:=by rfl)(J:swappedStores [tg] e X.env=pure none:=by rfl)
  (h1:(assignEach [tg] X.env).map (·.2)=[assign tg X.env]:=by rfl):PS X (.Assign [tg] e pos) (Bv te g):=by
 intro pins s LQ H D I h;refine wpAny_Assign_stores (dC (Z pins s LQ H _ I h) λ v s1 ⟨x,H1,G,Y,q1⟩=>?_) B J;rw[h1];exact dC (N pins s1 LQ H1 x v _ G Y q1) λ _ s2 q=>q
theorem Ja {te:TE}(J:X.N.Nodup)(hi:X.N[i]?=some x)(hx:Loc X.env.scope x)(Z:PE X e te)(B:swapsWith e (some (.Name x pos')) pos.line X.env=pure false:=by rfl)(hf:X.fn x=true\/X.env.scope.names.lookup x=some .local:=by first | exact .inl rfl | exact .inr rfl | assumption) :
  PS X (.Assign [.Name x pos'] e pos) (Bv te (rQ i)):=by
 intro pins s LQ H D I h;refine wpAny_Assign_Name (dC (Z pins s LQ H _ I h) λ v s1 ⟨y,H1,G,Y,q1⟩=>?_) B;exact mK G J hi hx Y (λ s2 I2=>⟨_,H1,I2,q1⟩) hf
inductive Hn (i:Nat) (j:Nat) (D:Ends) (LQ : St) (vs:List V) (H1:Hp):Prop
 | mk (v w:_) (_:vs=[v,w]) (_:D.nx ((LQ.set i (some v)).set j (some w)) H1)
def K9 (i j:Nat)(ta:TA):TS:=λ D LQ H=>ta LQ H λ vs H1=>Hn i j D LQ vs H1
theorem C2 {i j:Nat}{y:Str}{a b:Expr}{ta:TA}{px Z pt:Pos}{kt k2 pt2}(hc:X.calm=true)(hN:X.N.Nodup)(hi:X.N[i]?=some x)(hj:X.N[j]?=some y)(a0:i≠j)
  (hx:X.env.scope.names.lookup x=some .local) (hy:X.env.scope.names.lookup y=some .local) (ha:PA X [a,b] ta)
  (hw:swappedStores [.Tuple [.Name x px,.Name y Z] kt pt] (.Tuple [a,b] k2 pt2) X.env=pure (some [x,y]))
  (hs:swapsWithSole [.Tuple [.Name x px,.Name y Z] kt pt] (.Tuple [a,b] k2 pt2) pos.line X.env=pure false:=by rfl) :
  PS X (.Assign [.Tuple [.Name x px,.Name y Z] kt pt] (.Tuple [a,b] k2 pt2) pos) (K9 i j ta):=by
 intro pins s LQ H D I h;rw[exec_Assign_arm];refine Oz (OM ?_);rw[hs];refine Oz (OA ?_);rw[if_neg ⋯];refine Oz (Tuple_ (dC (ha _ pins s LQ H _ I h) λ us B ⟨vs,H1,I1,r1,q1⟩=>?_));obtain⟨v,w,e1,q1⟩:=q1;subst e1;obtain⟨G,J,rfl,rv,a1⟩:∃G J,us=[G,J]/\RelV v G/\RelV w J:=by
  cases r1 with
  | cons p q =>
   cases q with
   | cons p' q' =>
    cases q';exact⟨_,_,rfl,p,p'⟩
 refine OD ?_ (by show 2<=sizeLine;decide);have I2:Inv X pins LQ H1 { B with heap:=B.heap.push { cls:=.type "tuple",data:=.seq [G,J].toArray } }:=I1.kept (t':=B.toks) λ b o e=>L3 _ e
 rw[hw];refine Oz (OA ?_);show wpAny (model X.prog X.w) X.A (do rule "assign.swapped-stores";let items <-unpackItems (.ref B.heap.objs.size) 2 none;assignInOrder [λ v=>bindName X.env y v,λ v=>bindName X.env x v] items.reverse;pure Flow.next) _ _ _;refine Oz (OI (Oz (unpackItems_tuple (items:=#[G,J]) (I.ok.hd hc) (IsTup.new B.heap _) λ h' Y=>?_)));have I3:=I2.kept (h':=h') (t':=B.toks) λ b o e=>Y b o (L5 (L0 e)) e
 show wpAny _ _ (assignInOrder [λ v=>bindName X.env y v,λ v=>bindName X.env x v] [J,G] >>= λ _=>pure Flow.next) _ _ _;refine Oz (assignInOrder_cons (wpAny_bindName (mK I3 hN hj (.inl hy) a1 (λ s2 I4=>?_) (.inr hy))));refine assignInOrder_cons (wpAny_bindName (mK I4 hN hi (.inl hx) rv (λ s3 I5=>assignInOrder_nil (OA ?_)) (.inr hx)));rw[List.set_comm _ _ (Ne.symm a0)] at I5;exact⟨_,H1,I5,q1⟩
inductive La (i:Nat) (te:TE) (ti:I0) (D:Ends) (LQ : St) (H:Hp):Prop
 | mk (x:_) (_:LQ[i]?=some (some x)) (_:te LQ H λ y H1=>ti x y H1 λ z H2=>D.nx (LQ.set i (some z)) H2)
theorem Jc {i:Nat}{te:TE}{op:Operator}{Z:I0}(hN:X.N.Nodup)(hi:X.N[i]?=some x)(hx:Loc X.env.scope x)(he:PE X e te)(ho:KG X op Z)(hf:X.fn x=true\/X.env.scope.names.lookup x=some .local:=by first | exact .inl rfl | exact .inr rfl | assumption) :
  PS X (.AugAssign (.Name x pos') op e pos) (La i te Z):=by
 intro pins s LQ H D I h;obtain⟨v,e1,h⟩:=h;obtain⟨m,hn,hl⟩:=I.loc;have Y:GO X.env.scope x:=by rcases hx with k | k;exact .inl k;exact .inr (.inl k)
 obtain⟨u,r,l⟩:=hl i x v hi e1 Y;refine wpAny_AugAssign_Name ?_;have go:wpAny (model X.prog X.w) X.A (eval e X.env) (λ w J=>wpAny (model X.prog X.w) X.A (inplaceOp op u w) (λ r G=>wpAny (model X.prog X.w) X.A (storeName X.env x r) (λ _=>SP X pins D .next) X.xe G) X.xe J) X.xe s:=by
  refine dC (he pins s LQ H _ I h) λ w s1 ⟨y,H1,I1,r1,q1⟩=>?_
  refine dC (ho pins s1 LQ H1 v y u w _ I1 r r1 q1) λ z s2 ⟨zv,H2,I2,r2,q2⟩=>?_
  exact mK I2 hN hi hx r2 (λ s3 I3=>⟨_,H2,I3,q2⟩) hf
 rcases l with ⟨hk,hm⟩ | ⟨hk,c,hc,B⟩
 ·exact wpAny_loadName_local I.ok.kind hk hn hm go
 ·rcases hk with hk | hk
  ·exact wpAny_loadName_cell I.ok.kind hk hc B go
  ·rcases hx with k | k
   ·have:X.env.scope.names.lookup x=some .free:=hk;rw[k] at this;cases this
   ·have:X.env.scope.names.lookup x=some .free:=hk;rw[k] at this;cases this
inductive Lz (f:Int->Int->Int) (x:V) (y:V) (H:Hp) (Q:VK):Prop
 | mk (i j:_) (_:x=.int i) (_:y=.int j) (_:Q (.int (f i j)) H)
theorem Jd:KG X .Add (Lz λ i j=>i+j):=by
 intro pins s LQ H x y v u Q I G B h;obtain⟨i,j,D,J,q⟩:=h;subst D;subst J;obtain⟨t,rfl⟩:=G;obtain⟨t',rfl⟩:=B;exact iadd_int ⟨.int _,H,I.tok _,⟨_,rfl⟩,q⟩
end
section
variable {X:Cx}{pos:Pos}
def Je (c:TT)(tb:TS):TS:=λ D LQ H=>∃W:Nat->St->Hp->Prop,(∃m,W m LQ H)/\∀m LQ H,W m LQ H ->
 c LQ H λ b H1=>if b=true then ∃N:St->Hp->Prop,(∀σ' H',N σ' H'->∃m',m' < m/\W m' σ' H')/\tb { D with nx:=N,ct:=N,bk:=D.nx } LQ H1 else D.nx LQ H1
theorem mM {J:List Stmt}{tc:TT}{tb:TS}(hp:PassesOwn (model X.prog X.w) X.A X.env X.xe)(hc:PT X c tc)(hb:ni X J tb):PS X (.While c J [] pos) (Je tc tb):=by
 intro pins s LQ H D I h;obtain⟨W,⟨m0,w0⟩,a0⟩:=h;refine wpAny_While (codeAny_whileLoop (λ n s'=>∃Y H',Inv X pins Y H' s'/\W n Y H') ?_ m0 ⟨LQ,H,I,w0⟩);rintro n s1 ⟨G,H1,I1,w1⟩;refine OP hp (dC (hc pins s1 G H1 _ I1 (a0 n G H1 w1)) λ b s2 ⟨H2,I2,q2⟩=>?_);cases b with
 | true =>
  obtain⟨N,hN,q2⟩:=q2;rw[if_pos rfl];refine OP hp (dC (hb pins s2 G H2 _ I2 q2) λ f s3 q3=>?_);cases f with
  | next =>
   obtain⟨B,Z,I3,n3⟩:=q3;obtain⟨m',hm,w3⟩:=hN B Z n3;exact⟨m',hm,B,Z,I3,w3⟩
  | cont =>
   obtain⟨B,Z,I3,n3⟩:=q3;obtain⟨m',hm,w3⟩:=hN B Z n3;exact⟨m',hm,B,Z,I3,w3⟩
  | brk=>exact q3
  | ret v=>exact q3
 | false =>
  rw[if_neg Mv];exact OZ ⟨G,H2,I2,q2⟩
end
structure It where
 go:Nat->Hp->Prop
 wM:Nat->Hp->V->Hp->Prop
 stop:Nat->Hp->Prop
def jQ (X:Cx)(pins:Z1)(H:Hp)(b:Addr):Prop :=
 H b=none/\b≠X.env.locals/\b∉X.fs/\(b∈X.ex\/X.ie.heap.objs.size<=b)/\(∀x c,X.env.cells.lookup x=some c->c≠b)/\∀p∈X.pn++pins,p.1≠b
theorem Inv.qy {X:Cx}{LQ : St}{H H':Hp}(I:Inv X pins LQ H s)(hb:s.heap.objs.size<=b)(hn:H' b=none):jQ X pins H' b:=by
 refine⟨hn,ML (Mo I.lt hb),I.KZ hb,.inr (Ma I.sz hb),λ x c e z=>?_,λ p hp z=>?_⟩
 ·obtain⟨v,q⟩:=I.cell x c e;exact absurd (Mo q.lt (by rw[z];exact hb)) (Mq _)
 ·exact absurd (Mo (L0 (I.pin p hp).1) (by rw[z];exact hb)) (Mq _)
structure Turn (P:Program) (w:World) (K:LV) (tg:Expr) (J:It) (fp:List Addr) (it:Addr) (tn:Nat->Heap->Prop):Prop where
 mem:it∈fp
 obj:∀i h,tn i h->∀b∈fp,∃o,h.get? b=some o/\∀v,o.data≠.cell v
 keep:∀i h h',tn i h->(∀b∈fp,∀o,h.get? b=some o->h'.get? b=some o)->tn i h'
 item:∀(X:Cx),X.prog=P->X.w=w->X.K=K->X.calm=true->∀(i:Nat) (pins:Z1) (s:Shared) (LQ : St) (H:Hp) (E:Z0),Inv X pins LQ H s->(∀b∈fp,jQ X pins H b)->tn i s.heap->J.go i H ->
  wpAny (model P w) X.A (pyNext (.ref it)) (λ r s1=>∃u,r=some u /\
   wpAny (model P w) X.A (letOwnedTupleGo tg (.ref it) u) (λ _ s2=>∃x H',Inv X pins LQ H' s2/\RelV x u/\J.wM i H x H'/\tn (i+1) s2.heap/\∀b∈fp,H' b=none) E s1) E s
 done:∀(X:Cx),X.prog=P->X.w=w->X.K=K->X.calm=true->∀(i:Nat) (pins:Z1) (s:Shared) (LQ : St) (H:Hp) (E:Z0),Inv X pins LQ H s->(∀b∈fp,jQ X pins H b)->tn i s.heap->J.stop i H ->
  wpAny (model P w) X.A (pyNext (.ref it)) (λ r s1=>r=none/\Inv X pins LQ H s1) E s
 self:∀(A:Around) (i:Nat) (s:Shared) (Q:Z0) (E:Z0),tn i s.heap->Q (.ref it) s->wpAny (model P w) A (pyIter (.ref it)) Q E s
abbrev TI:=St->Hp->(It->Hp->Prop)->Prop
def KH (X:Cx)(pins:Z1)(LQ : St)(tg:Expr)(R:It->Hp->Prop)(itv:Value)(s2:Shared):Prop :=
 ∃(it:Addr) (fp:List Addr) (tn:Nat->Heap->Prop) (J:It) (H':Hp),itv=.ref it/\Inv X pins LQ H' s2/\Turn X.prog X.w X.K tg J fp it tn/\tn 0 s2.heap/\(∀b∈fp,jQ X pins H' b)/\R J H'
def PI (X:Cx)(tg iter:Expr)(wi:TI):Prop :=
 ∀(pins:Z1) (s:Shared) (LQ : St) (H:Hp) (R:It->Hp->Prop),Inv X pins LQ H s->wi LQ H R ->
  wpAny (model X.prog X.w) X.A (eval iter X.env) (λ v s1=>wpAny (model X.prog X.w) X.A (pyIter v) (KH X pins LQ tg R) X.xe s1) X.xe s
theorem Bw {s:Shared}{D:Addr}{n:String}{vs:Array Value}(ho:s.heap.get? D=some o)(G:o.cls=.type n)(hd:o.data=.fields vs)
    (hn:["enumerate", "zip", "dict_itemiterator", "dict_reverseitemiterator", "odict_iterator", "itertools.zip_longest", "itertools.pairwise"].contains n=false) (B:Q () s):wpAny M A (letOwnedTupleGo tg (.ref D) u) Q E s:=by
  unfold letOwnedTupleGo;cases tg<;>first
    | exact OA B
    | (cases u<;>first
        | exact OA B
        | (refine Oz (OT ho ?_)
           rw[G,hd];show wpAny M A (if (["enumerate", "zip", "dict_itemiterator", "dict_reverseitemiterator", "odict_iterator", "itertools.zip_longest", "itertools.pairwise"].contains n&&vs[0]? == some (rawInt _))=true then _ else _) Q E s;rw[if_neg (by intro h;rw[hn,NR] at h;cases h)];exact OA B))
def Ao (K:LV)(a:Addr):It :=
 ⟨λ i H=>∃xs x,cN K H a xs/\xs[i]?=some x,λ i H x H'=>H' = H/\∀xs,cN K H a xs->xs[i]?=some x,λ i H=>∃xs,cN K H a xs/\xs.length<=i⟩
def Ap (K:LV)(a:Addr):It :=
 ⟨λ i H=>∃xs x,cE K H a xs/\xs[i]?=some x,λ i H x H'=>H' = H/\∀xs,cE K H a xs->xs[i]?=some x,λ i H=>∃xs,cE K H a xs/\xs.length<=i⟩
def yD (lo:Int)(n:Nat):It:=⟨λ i _=>i<n,λ i H x H'=>H' = H/\x=.int (lo+i),λ i _=>n<=i⟩
theorem C3 (a B:Addr):Turn P w K tg (Ao K a) [B] B (λ i h=>h.IsListIter B a i) where
 mem:=by simp
 obj:=λ i h st b hb=>by
  have e:b=B:=by simpa using hb
  subst e;obtain⟨o,e,c,d⟩:=st;exact⟨o,e,λ v z=>by rw[d] at z;cases z⟩
 keep:=λ i h h' st k=>st.at λ o e=>k B (by simp) o e
 item:=by
  intro X hP N G hc i pins s LQ H E I hf st hg;subst hP N G;obtain⟨xs,x,hq,hx⟩:=hg;obtain⟨its,Z,p,hz⟩:=I.list hq;obtain⟨u,hu,ru⟩:=Z.get hx;obtain⟨f0,f1,f2,f3,J,Y⟩:=hf B (by simp);refine wpAny_pyNext_list_item st p.isList (x:=u) (by simpa using hu) λ h' D sb=>?_
  have I1:Inv X pins LQ H { s with heap:=h' }:=I.turned (t':=s.toks) (λ b o hb e=>(sb.2 b hb).trans e) f0 f1 f3 J Y;obtain⟨o,e,c,d⟩:=id D;exact⟨u,rfl,Bw (s:={ s with heap:=h' }) e c d ⋯ ⟨x,H,I1,ru,⟨rfl,λ ys hy=>by rw[I.yB hy hq];exact hx⟩,D,λ b hb=>(hf b hb).1⟩⟩
 done:=by
  intro X hP N G hc i pins s LQ H E I hf st hg;subst hP N G;obtain⟨xs,hq,hx⟩:=hg;obtain⟨its,Z,p,hz⟩:=I.list hq;obtain⟨f0,f1,f2,f3,J,Y⟩:=hf B (by simp);have hl:=Z.length;exact wpAny_pyNext_list_end (I.ok.hd hc) st p.isList (by simp;omega) λ h' eb=>⟨rfl,I.turned (t':=s.toks) (λ b o hb e=>eb b o hb e) f0 f1 f3 J Y⟩
 self:=λ _ _ _ _ _ st h=>wpAny_pyIter_listiter st h
theorem Bx (a B:Addr):Turn P w K tg (Ap K a) [B] B (λ i h=>h.IsTupleIter B a i) where
 mem:=by simp
 obj:=λ i h st b hb=>by
  have e:b=B:=by simpa using hb
  subst e;obtain⟨o,e,c,d⟩:=st;exact⟨o,e,λ v z=>by rw[d] at z;cases z⟩
 keep:=λ i h h' st k=>st.at λ o e=>k B (by simp) o e
 item:=by
  intro X hP N G hc i pins s LQ H E I hf st hg;subst hP N G;obtain⟨xs,x,hq,hx⟩:=hg;obtain⟨its,Z,p,hz⟩:=I.tuple hq;obtain⟨u,hu,ru⟩:=Z.get hx;obtain⟨f0,f1,f2,f3,J,Y⟩:=hf B (by simp);refine wpAny_pyNext_tuple_item st (show s.heap.IsTuple a its.toArray from p) (x:=u) (by simpa using hu) λ h' D sb=>?_
  have I1:Inv X pins LQ H { s with heap:=h' }:=I.turned (t':=s.toks) (λ b o hb e=>(sb.2 b hb).trans e) f0 f1 f3 J Y;obtain⟨o,e,c,d⟩:=id D;exact⟨u,rfl,Bw (s:={ s with heap:=h' }) e c d ⋯ ⟨x,H,I1,ru,⟨rfl,λ ys hy=>by rw[I.nj hy hq];exact hx⟩,D,λ b hb=>(hf b hb).1⟩⟩
 done:=by
  intro X hP N G hc i pins s LQ H E I hf st hg;subst hP N G;obtain⟨xs,hq,hx⟩:=hg;obtain⟨its,Z,p,hz⟩:=I.tuple hq;obtain⟨f0,f1,f2,f3,J,Y⟩:=hf B (by simp);have hl:=Z.length;exact wpAny_pyNext_tuple_end (I.ok.hd hc) st (show s.heap.IsTuple a its.toArray from p) (by simp;omega) λ h' eb=>⟨rfl,I.turned (t':=s.toks) (λ b o hb e=>eb b o hb e) f0 f1 f3 J Y⟩
 self:=λ _ _ _ _ _ st h=>wpAny_pyIter_tupleiter st h
theorem By (B:Addr)(lo:Int)(n:Nat):Turn P w K tg (yD lo n) [B] B (λ i h=>IsRangeIter h B (lo+(i:Nat)*1) ((n:Int)-(i:Nat)) 1) where
 mem:=by simp
 obj:=λ i h st b hb=>by
  have e:b=B:=by simpa using hb
  subst e;exact⟨_,st,λ v z=>by
   have z':Data.fields _=Data.cell v:=z;cases z'⟩
 keep:=λ i h h' st k=>k B (by simp) _ st
 item:=by
  intro X hP N G hc i pins s LQ H E I hf st hg;subst hP N G;obtain⟨f0,f1,f2,Z,J,Y⟩:=hf B (by simp);have W:=Walks.range (prog:=X.prog) (w:=X.w) (I.ok.hd hc) B lo 1 n;refine W.item i s _ _ hg st λ v h' tk hv D kk=>?_
  obtain⟨t,rfl⟩:=hv;have I1:Inv X pins LQ H { s with heap:=h',toks:=tk }:=I.turned (λ b o hb e=>kk b o (by simpa using hb) e) f0 f1 Z J Y;refine⟨_,rfl,Bw (s:={ s with heap:=h',toks:=tk }) (n := "range_iterator") D rfl rfl ⋯ ⟨.int (lo+i),H,I1,⟨t,?_⟩,⟨rfl,rfl⟩,D,λ b hb=>(hf b hb).1⟩⟩;rw[Int.mul_one]
 done:=by
  intro X hP N G hc i pins s LQ H E I hf st hg;subst hP N G;obtain⟨f0,f1,f2,Z,J,Y⟩:=hf B (by simp);exact wpAny_pyNext_range_end (I.ok.hd hc) st (by have:n<=i:=hg;omega) λ h' eb=>⟨rfl,I.turned (t':=s.toks) (λ b o hb e=>eb b o hb e) f0 f1 Z J Y⟩
 self:=λ _ _ _ _ _ st h=>wpAny_pyIter_rangeiter st h
section
variable {X:Cx}{tg:Expr}
inductive EY (K:LV) (R:(It->Hp->Prop)) (x:V) (H1:Hp):Prop
 | mk (a:_) (_:x=.ref a) (_:(∃xs,cN K H1 a xs)) (_:R (Ao K a) H1)
def Ki (K:LV)(tl:TE):TI:=λ LQ H R=>tl LQ H λ x H1=>EY K R x H1
inductive Ho (K:LV) (R:(It->Hp->Prop)) (x:V) (H1:Hp):Prop
 | mk (a:_) (_:x=.ref a) (_:(∃xs,cE K H1 a xs)) (_:R (Ap K a) H1)
def Jf (K:LV)(tl:TE):TI:=λ LQ H R=>tl LQ H λ x H1=>Ho K R x H1
theorem kK {tl:TE}(J:PE X l tl):PI X tg l (Ki X.K tl):=by
 intro pins s LQ H R I h;refine dC (J pins s LQ H _ I h) λ v D ⟨x,H1,B,G,q1⟩=>?_
 obtain⟨a,e,⟨xs,hq⟩,q⟩:=q1;subst e;cases G;obtain⟨its,N,p,hz⟩:=B.list hq;refine wpAny_pyIter_list p.isList ?_;refine⟨D.heap.objs.size,[D.heap.objs.size],_,_,H1,rfl,B.kept (t':=D.toks) λ b o e=>L3 _ e,C3 a _,⟨_,L7 _ rfl,rfl,rfl⟩,λ b hb=>?_,q⟩;have e:b=D.heap.objs.size:=by simpa using hb
 subst e;exact B.qy (LW _) (B.de.fresh (LW _))
theorem hH {tl:TE}(J:PE X l tl):PI X tg l (Jf X.K tl):=by
 intro pins s LQ H R I h;refine dC (J pins s LQ H _ I h) λ v B ⟨x,H1,D,G,q1⟩=>?_
 obtain⟨a,e,⟨xs,hq⟩,q⟩:=q1;subst e;cases G;obtain⟨its,N,p,hz⟩:=D.tuple hq;refine OQ (show B.heap.IsTuple a its.toArray from p) ?_;refine⟨B.heap.objs.size,[B.heap.objs.size],_,_,H1,rfl,D.kept (t':=B.toks) λ b o e=>L3 _ e,Bx a _,⟨_,L7 _ rfl,rfl,rfl⟩,λ b hb=>?_,q⟩;have e:b=B.heap.objs.size:=by simpa using hb
 subst e;exact D.qy (LW _) (D.de.fresh (LW _))
theorem EZ {LQ : St}{H:Hp}{R:It->Hp->Prop}{lo hi:Int}{t u v:Tok}{tk:Nat}(I:Inv X pins LQ H s)(h1:-(2 ^ 62)<=lo)(h2:lo<2 ^ 62)(J:-(2 ^ 62)<=hi)(G:hi<2 ^ 62)
  (q:R (yD lo (hi-lo).toNat) H):wpAny (model X.prog X.w) X.A (pyIter (.ref s.heap.objs.size)) (KH X pins LQ tg R) E { s with heap:=s.heap.push { cls:=.type "range",data:=.fields #[.int lo t,.int hi u,.int 1 v] },toks:=tk }:=by
 refine wpAny_pyIter_range (IsRange.new ..) (small_one h1 h2 J G) ?_;have B:Inv X pins LQ H { s with heap:=s.heap.push { cls:=.type "range",data:=.fields #[.int lo t,.int hi u,.int 1 v] },toks:=tk }:=I.kept λ b o e=>L3 _ e
 refine⟨(s.heap.push { cls:=.type "range",data:=.fields #[.int lo t,.int hi u,.int 1 v] }).objs.size,[(s.heap.push { cls:=.type "range",data:=.fields #[.int lo t,.int hi u,.int 1 v] }).objs.size],_,_,H,rfl,
  B.kept (t':=tk) λ b o e=>L3 _ e,By _ lo (hi-lo).toNat,?_,λ b hb=>?_,q⟩
 ·have D:lo+((0:Nat):Int)*1=lo:=by simp
  have N:(((hi-lo).toNat:Nat):Int)-((0:Nat):Int)=Builtin.Range.rangeSize lo hi 1:=by rw[rangeSize_one];split<;>omega
  show IsRangeIter _ _ (lo+((0:Nat):Int)*1) ((((hi-lo).toNat:Nat):Int)-((0:Nat):Int)) 1;rw[D,N];exact L7 _ rfl
 ·have e:b=(s.heap.push { cls:=.type "range",data:=.fields #[.int lo t,.int hi u,.int 1 v] }).objs.size:=by simpa using hb
  subst e;exact B.qy (LW _) (B.de.fresh (LW _))
inductive E1 (R:(It->Hp->Prop)) (vs:List V) (H1:Hp):Prop
 | mk (j:Int) (_:vs=[.int j]) (_:-(2 ^ 62)<=j) (_:j<2 ^ 62) (_:R (yD 0 j.toNat) H1)
def Kj (ta:TA):TI:=λ LQ H R=>ta LQ H λ vs H1=>E1 R vs H1
theorem fE {a:Expr} {ta:TA} {p pos:Pos} (J:Gl X "range") (hm:X.mg "range" = none) (B:PA X [a] ta) (D:starEach [a] X.env=[(false,eval a X.env)]:=by rfl):PI X tg (.Call (.Name "range" p) [a] [] pos) (Kj ta):=by
 intro pins s LQ H R I h;refine Call_ (jJ I J hm boot_range (PyProof.Rows.callWith_type1 (dC (B pos pins s LQ H _ I h) λ us Y ⟨vs,H1,G,N,q1⟩=>?_) D rfl));obtain⟨j,e,q1,q2,q⟩:=q1;subst e;cases N with
 | cons r rr =>
  cases rr;obtain⟨t,rfl⟩:=r;exact call_range_1 (EZ G ⋯ ⋯ q1 q2 (by simpa using q))
def Lb (wi:TI)(g:TG)(tb:TS):TS:=λ D LQ H=>wi LQ H λ J H1=>∃W:Nat->Nat->St->Hp->Prop,(∃m,W 0 m LQ H1)/\∀i m LQ H,W i m LQ H ->
 (J.stop i H/\D.nx LQ H)\/(J.go i H/\∃N:St->Hp->Prop,(∀σ' H',N σ' H'->∃m',m' < m/\W (i+1) m' σ' H')/\∀x H',J.wM i H x H'->g x LQ H' λ σ2 H2=>tb { D with nx:=N,ct:=N,bk:=D.nx } σ2 H2)
def ou (fp:List Addr)(h:Heap):List (Addr×Obj):=fp.filterMap λ b=>(h.get? b).map λ o=>(b,o)
theorem jA (hb:b∈fp)(e:h.get? b=some o):(b,o)∈ou fp h:=Oj.mpr ⟨b,hb,by rw[e];rfl⟩
theorem C4 {p:Addr×Obj}(hp:p∈ou fp h):p.1∈fp/\h.get? p.1=some p.2:=by
 obtain⟨b,hb,e⟩:=Oj.mp hp;cases q:h.get? b with
 | none=>rw[q] at e;cases e
 | some o =>
  rw[q] at e;have B:(b,o)=p:=Mf.inj e;subst B;exact⟨hb,q⟩
theorem Inv.pinned {LQ : St}{H:Hp}(I:Inv X pins LQ H s)(hf:∀b∈fp,jQ X pins H b)(ho:∀b∈fp,∃o,s.heap.get? b=some o/\∀v,o.data≠.cell v):Inv X (pins++ou fp s.heap) LQ H s :=
 I.Am λ p hp=>(Mh.mp hp).elim (λ z=>I.pin p (Mm _ z)) λ z=>by
  obtain⟨hb,e⟩:=C4 z;obtain⟨f0,f1,D,_⟩:=hf p.1 hb;obtain⟨o,B,d⟩:=ho p.1 hb;rw[e] at B;cases B;exact⟨e,f0,f1,D,d⟩
theorem Inv.jR {pl:Z1}{LQ : St}{H:Hp}(I:Inv X (pins++pl) LQ H s):Inv X pins LQ H s:=I.Am λ p hp=>I.pin p (Mm _ (MF _ hp))
theorem gu {a0:Expr}{a2:List Stmt}{wi:TI}{g:TG}{tb:TS}{pos:Pos}(hp:PassesOwn (model X.prog X.w) X.A X.env X.xe)(hc:X.calm=true)(hi:PI X tg a0 wi)(hg:PG X tg g)(hb:ni X a2 tb)
  (hs:∀x,foldedSetIterable a0 X.env x=pure x:=by intro _;rfl):PS X (.For tg a0 a2 [] pos) (Lb wi g tb):=by
 intro pins s LQ H D I h;refine wpAny_For (dC (hi pins s LQ H _ I h) λ v s1 h1=>dC h1 λ ab s2 h2=>?_) hs;obtain⟨it,fp,tn,J,H2,e,I2,T,a8,f2,W,⟨m0,w0⟩,a5⟩:=h2;subst e;have Z:∀{H':Hp},(∀b∈fp,H' b=none)->∀b∈fp,jQ X pins H' b:=λ hn b hb=>⟨hn b hb,(f2 b hb).2⟩
 refine codeAny_forLoop_any (λ n s'=>∃i Y H',Inv X pins Y H' s'/\tn i s'.heap/\(∀b∈fp,H' b=none)/\W i n Y H') ?_ m0 ⟨0,LQ,H2,I2,a8,λ b hb=>(f2 b hb).1,w0⟩;rintro n s3 ⟨i,a1,H3,I3,a6,a4,w3⟩
 rcases a5 i n a1 H3 w3 with ⟨stop,qn⟩ | ⟨go,N,hN,step⟩
 ·refine OP hp (dC (T.done X rfl rfl rfl hc i pins s3 a1 H3 X.xe I3 (Z a4) a6 stop) λ r s4 ⟨hr,I4⟩=>?_);subst hr;exact OZ ⟨a1,H3,I4,qn⟩
 ·refine OP hp (dC (T.item X rfl rfl rfl hc i pins s3 a1 H3 X.xe I3 (Z a4) a6 go) λ r s4 ⟨u,hr,h4⟩=>?_);subst hr;refine OP hp (dC h4 λ _ s5 ⟨x,H5,I5,r5,y5,a3,a9⟩=>?_);have aa:=I5.pinned (Z a9) (T.obj _ _ a3);refine OP hp (dC (hg _ s5 a1 H5 x u _ aa r5 (step x H5 y5)) λ _ s6 ⟨a7,H6,I6,q6⟩=>?_);refine OP hp (dC (hb _ s6 a7 H6 _ I6 q6) λ f s7 q7=>?_);have G:∀{B:St} {H7:Hp},Inv X (pins++ou fp s5.heap) B H7 s7->N B H7->∃m,m<n/\∃i Y H',Inv X pins Y H' s7/\tn i s7.heap/\(∀b∈fp,H' b=none)/\W i m Y H':=λ {B H7} I7 n7=>by
   obtain⟨m',hm,w7⟩:=hN B H7 n7;refine⟨m',hm,i+1,B,H7,I7.jR,T.keep _ _ _ a3 λ b hb o e=>(I7.pin (b,o) (Mm _ (Mm _ (jA hb e)))).1,λ b hb=>?_,w7⟩;obtain⟨o,e,d⟩:=T.obj _ _ a3 b hb;exact (I7.pin (b,o) (Mm _ (Mm _ (jA hb e)))).2.1
  cases f with
  | next=>obtain⟨B,H7,I7,n7⟩:=q7;exact G I7 n7
  | cont=>obtain⟨B,H7,I7,n7⟩:=q7;exact G I7 n7
  | brk=>obtain⟨B,H7,I7,q7⟩:=q7;exact⟨B,H7,I7.jR,q7⟩
  | ret v=>obtain⟨x7,B,H7,I7,r7,q7⟩:=q7;exact⟨x7,B,H7,I7.jR,r7,q7⟩
end
theorem E3 {K:LV}{a:Addr}{xs:List V}{g:TG}{tb:TS}{D:Ends}{LQ : St}{H:Hp}(B:Nat->St->Hp->Prop)(h0:B 0 LQ H)(hl:∀i LQ H,i<=xs.length->B i LQ H->cN K H a xs)
  (Z:∀i x LQ H,xs[i]?=some x->B i LQ H->g x LQ H λ J H2=>tb { D with nx:=B (i+1),ct:=B (i+1),bk:=D.nx } J H2) (hd:∀LQ H,B xs.length LQ H->D.nx LQ H) :
  ∃W:Nat->Nat->St->Hp->Prop,(∃m,W 0 m LQ H)/\∀i m LQ H,W i m LQ H ->
   ((Ao K a).stop i H/\D.nx LQ H)\/((Ao K a).go i H/\∃N:St->Hp->Prop,(∀G H',N G H'->∃Y,Y<m/\W (i+1) Y G H')/\∀x H',(Ao K a).wM i H x H'->g x LQ H' λ J H2=>tb { D with nx:=N,ct:=N,bk:=D.nx } J H2):=by
 exists λ i m LQ H=>m=xs.length-i/\i<=xs.length/\B i LQ H,⟨xs.length,by simp,Me _,h0⟩;rintro i m LQ H ⟨rfl,hi,p⟩;have q:=hl i LQ H hi p;by_cases hlt:i<xs.length
 ·refine .inr ⟨⟨xs,xs[i],q,by simp[hlt]⟩,B (i+1),λ G H' p'=>⟨xs.length-(i+1),by omega,rfl,hlt,p'⟩,λ x H' y=>?_⟩;obtain⟨e,y⟩:=y;subst e;exact Z i x LQ _ (y xs q) p
 ·have e:i=xs.length:=by omega
  subst e;exact .inl ⟨⟨xs,q,LW _⟩,hd LQ H p⟩
theorem kL {K:LV}{a:Addr}{xs:List V}{g:TG}{tb:TS}{D:Ends}{LQ : St}{H:Hp}(B:Nat->St->Hp->Prop)(h0:B 0 LQ H)(hl:∀i LQ H,i<=xs.length->B i LQ H->cE K H a xs)
  (Z:∀i x LQ H,xs[i]?=some x->B i LQ H->g x LQ H λ J H2=>tb { D with nx:=B (i+1),ct:=B (i+1),bk:=D.nx } J H2) (hd:∀LQ H,B xs.length LQ H->D.nx LQ H) :
  ∃W:Nat->Nat->St->Hp->Prop,(∃m,W 0 m LQ H)/\∀i m LQ H,W i m LQ H ->
   ((Ap K a).stop i H/\D.nx LQ H)\/((Ap K a).go i H/\∃N:St->Hp->Prop,(∀G H',N G H'->∃Y,Y<m/\W (i+1) Y G H')/\∀x H',(Ap K a).wM i H x H'->g x LQ H' λ J H2=>tb { D with nx:=N,ct:=N,bk:=D.nx } J H2):=by
 exists λ i m LQ H=>m=xs.length-i/\i<=xs.length/\B i LQ H,⟨xs.length,by simp,Me _,h0⟩;rintro i m LQ H ⟨rfl,hi,p⟩;have q:=hl i LQ H hi p;by_cases hlt:i<xs.length
 ·refine .inr ⟨⟨xs,xs[i],q,by simp[hlt]⟩,B (i+1),λ G H' p'=>⟨xs.length-(i+1),by omega,rfl,hlt,p'⟩,λ x H' y=>?_⟩;obtain⟨e,y⟩:=y;subst e;exact Z i x LQ _ (y xs q) p
 ·have e:i=xs.length:=by omega
  subst e;exact .inl ⟨⟨xs,q,LW _⟩,hd LQ H p⟩
theorem iz {lo:Int}{n:Nat}{g:TG}{tb:TS}{D:Ends}{LQ : St}{H:Hp}(J:Nat->St->Hp->Prop)(h0:J 0 LQ H)
  (Z:∀i LQ H,i<n->J i LQ H->g (.int (lo+i)) LQ H λ G H2=>tb { D with nx:=J (i+1),ct:=J (i+1),bk:=D.nx } G H2) (hd:∀LQ H,J n LQ H->D.nx LQ H) :
  ∃W:Nat->Nat->St->Hp->Prop,(∃m,W 0 m LQ H)/\∀i m LQ H,W i m LQ H ->
   ((yD lo n).stop i H/\D.nx LQ H)\/((yD lo n).go i H/\∃N:St->Hp->Prop,(∀B H',N B H'->∃Y,Y<m/\W (i+1) Y B H')/\∀x H',(yD lo n).wM i H x H'->g x LQ H' λ G H2=>tb { D with nx:=N,ct:=N,bk:=D.nx } G H2):=by
 exists λ i m LQ H=>m=n-i/\i<=n/\J i LQ H,⟨n,by simp,Me _,h0⟩;rintro i m LQ H ⟨rfl,hi,p⟩;by_cases hlt:i<n
 ·refine .inr ⟨hlt,J (i+1),λ B H' p'=>⟨n-(i+1),by omega,rfl,hlt,p'⟩,λ x H' y=>?_⟩;obtain⟨e,y⟩:=y;subst e y;exact Z i LQ _ hlt p
 ·have e:i=n:=by omega
  subst e;exact .inl ⟨LW _,hd LQ H p⟩
abbrev R2:=V->V->Hp->VK->Prop
def iK (X:Cx)(f:Value->Value->Sem Value)(r:R2):Prop :=
 ∀(pins:Z1) (s:Shared) (LQ : St) (H:Hp) (x y:V) (v u:Value) (Q:VK),Inv X pins LQ H s->RelV x v->RelV y u->r x y H Q ->
  wpAny (model X.prog X.w) X.A (f v u) (EP X pins LQ Q) X.xe s
def Jg (X:Cx)(f:Value->Sem Value)(r:V->Hp->VK->Prop):Prop :=
 ∀(pins:Z1) (s:Shared) (LQ : St) (H:Hp) (x:V) (v:Value) (Q:VK),Inv X pins LQ H s->RelV x v->r x H Q ->
  wpAny (model X.prog X.w) X.A (f v) (EP X pins LQ Q) X.xe s
def il (X:Cx)(f:Value)(r:List V->Hp->VK->Prop):Prop :=
 ∀(pins:Z1) (s:Shared) (LQ : St) (H:Hp) (xs:List V) (us:List Value) (Q:VK),Inv X pins LQ H s->Vals xs us->r xs H Q ->
  wpAny (model X.prog X.w) X.A (call f us) (EP X pins LQ Q) X.xe s
def Lc (X:Cx)(r:V->Hp->(Bool->Hp->Prop)->Prop):Prop :=
 ∀(pins:Z1) (s:Shared) (LQ : St) (H:Hp) (x:V) (v:Value) (Q:Bool->Hp->Prop),Inv X pins LQ H s->RelV x v->r x H Q ->
  wpAny (model X.prog X.w) X.A (truthy v) (TP X pins LQ Q) X.xe s
def C5 (r:R2)(ta tb:TE):TE:=λ LQ H Q=>ta LQ H λ x H1=>tb LQ H1 λ y H2=>r x y H2 Q
def LA (r:V->Hp->VK->Prop)(ta:TE):TE:=λ LQ H Q=>ta LQ H λ x H1=>r x H1 Q
inductive rI (C:Int->Int->Prop) (g:Int->Int->V) (x:V) (y:V) (H:Hp) (Q:VK):Prop
 | mk (i j:_) (_:x=.int i) (_:y=.int j) (_:C i j) (_:Q (g i j) H)
inductive yE (g:Int->Int->V) (x:V) (y:V) (H:Hp) (Q:VK):Prop
 | mk (i j:_) (_:x=.int i) (_:y=.int j) (_:Q (g i j) H)
inductive rU (g:Int->V) (x:V) (H:Hp) (Q:VK):Prop
 | mk (i:_) (_:x=.int i) (_:Q (g i) H)
section
variable {X:Cx}{a b c:Expr}{ta tb tc:TE}{pos:Pos}
theorem E4 (N:PE X a ta)(hb:PE X b tb){LQ : St}{H:Hp}{R:V->V->Hp->Prop}(I:Inv X pins LQ H s)
  (h:ta LQ H λ x H1=>tb LQ H1 λ y H2=>R x y H2) {Q:Z0} 
  (hf:∀v u G x y H2,Inv X pins LQ H2 G->RelV x v->RelV y u->R x y H2->wpAny (model X.prog X.w) X.A (f v u) Q X.xe G) :
  wpAny (model X.prog X.w) X.A (eval a X.env) (λ v D=>wpAny (model X.prog X.w) X.A (eval b X.env) (λ u B=>wpAny (model X.prog X.w) X.A (f v u) Q X.xe B) X.xe D) X.xe s:=by
 refine dC (N pins s LQ H _ I h) λ v s1 ⟨x,H1,Y,Z,q1⟩=>?_
 refine dC (hb pins s1 LQ H1 _ Y q1) λ u G ⟨y,H2,I2,J,q2⟩=>?_
 exact hf v u G x y H2 I2 Z J q2
theorem dt {op:Operator}{r:R2}(ho:iK X (binaryOp op) r)(B:PE X a ta)(hb:PE X b tb):PE X (.BinOp a op b pos) (C5 r ta tb):=by
 intro pins s LQ H Q I h;exact wpAny_BinOp (E4 B hb I h λ v u G x y H2 J D N q=>ho pins G LQ H2 x y v u Q J D N q)
theorem GS {op:UnaryOp}{r:V->Hp->VK->Prop}(ho:Jg X (unaryOp op) r)(D:PE X a ta):PE X (.UnaryOp op a pos) (LA r ta):=by
 intro pins s LQ H Q I h;exact UnaryOp_ (dC (D pins s LQ H _ I h) λ v G ⟨x,H1,J,B,q1⟩=>ho pins G LQ H1 x v Q J B q1)
theorem Aq {C:Int->Int->Prop}
  (B:∀(i j:Int) (t u:Tok) (s:Shared) (Q:Z0) (E:Z0),C i j->Q (.int (g i j) s.toks) { s with toks:=s.toks+1 }->wpAny (model X.prog X.w) X.A (f (.int i t) (.int j u)) Q E s) :
  iK X f (rI C λ i j=>.int (g i j)):=by
 intro pins s LQ H x y v u Q I G J h;obtain⟨i,j,rfl,rfl,D,q⟩:=h;obtain⟨t,rfl⟩:=G;obtain⟨t',rfl⟩:=J;exact B i j t t' s _ _ D ⟨.int (g i j),H,I.tok _,⟨_,rfl⟩,q⟩
theorem Jh (B:∀(i j:Int) (t u:Tok) (s:Shared) (Q:Z0) (E:Z0),Q (.int (g i j) s.toks) { s with toks:=s.toks+1 }->wpAny (model X.prog X.w) X.A (f (.int i t) (.int j u)) Q E s) :
  iK X f (yE λ i j=>.int (g i j)):=by
 intro pins s LQ H x y v u Q I D G h;obtain⟨i,j,rfl,rfl,q⟩:=h;obtain⟨t,rfl⟩:=D;obtain⟨t',rfl⟩:=G;exact B i j t t' s _ _ ⟨.int (g i j),H,I.tok _,⟨_,rfl⟩,q⟩
theorem E5 {g:Int->Int->Bool}
  (B:∀(i j:Int) (t u:Tok) (s:Shared) (Q:Z0) (E:Z0),Q (.bool (g i j)) s->wpAny (model X.prog X.w) X.A (f (.int i t) (.int j u)) Q E s) :
  iK X f (yE λ i j=>.bl (g i j)):=by
 intro pins s LQ H x y v u Q I D G h;obtain⟨i,j,rfl,rfl,q⟩:=h;obtain⟨t,rfl⟩:=D;obtain⟨t',rfl⟩:=G;exact B i j t t' s _ _ ⟨.bl (g i j),H,I,rfl,q⟩
def Ld (i j:Int):Prop:=0<j/\j<1073741824
def Le (i j:Int):Prop:=0<=j/\j<=1000000/\i.natAbs<2 ^ 64
def E6 (i j:Int):Prop:=(-(2 ^ 64)<i/\i<2 ^ 64)\/(-(2 ^ 64)<j/\j<2 ^ 64)
theorem E6.ok {i j:Int}(h:E6 i j):IntMulOk i j:=by
 rcases h with ⟨h1,h2⟩ | ⟨h1,h2⟩
 ·exact .of_left (intBits_le_64 h1 h2)
 ·exact .of_right (intBits_le_64 h1 h2)
theorem fH:iK X (binaryOp .Add) (yE λ i j=>.int (i+j)):=Jh λ _ _ _ _ _ _ _ q=>add_int q
theorem gJ:iK X (binaryOp .Sub) (yE λ i j=>.int (i-j)):=Jh λ _ _ _ _ _ _ _ q=>sub_int q
theorem mN:iK X (binaryOp .Mult) (rI E6 λ i j=>.int (i*j)):=Aq λ _ _ _ _ _ _ _ B q=>mul_int q B.ok
theorem ow:iK X (binaryOp .FloorDiv) (rI Ld λ i j=>.int (i / j)):=Aq λ i j _ _ _ _ _ B q=>by
 have h1:(0:Int)<j:=B.1;have h2:j<1073741824:=B.2;exact floordiv_int ⋯ (by rw[Int.fdiv_eq_ediv_of_nonneg i ⋯];exact q) (.inl (PyProof.noPylong_small ⋯))
theorem kc:iK X (binaryOp .Mod) (rI (λ _ j=>0<j) λ i j=>.int (i % j)):=Aq λ i j _ _ _ _ _ B q=>by
 have h1:(0:Int)<j:=B;exact mod_int' ⋯ (by rw[Int.fmod_eq_emod_of_nonneg i ⋯];exact q)
theorem uA:iK X (binaryOp .Pow) (rI Le λ i j=>.int (i ^ j.toNat)):=Aq λ _ _ _ _ _ _ _ B q=>pow_int_small B.1 B.2.1 B.2.2 q
theorem LB {f:Value->Sem Value}{g:Int->Int}
  (B:∀(i:Int) (t:Tok) (s:Shared) (Q:Z0) (E:Z0),Q (.int (g i) s.toks) { s with toks:=s.toks+1 }->wpAny (model X.prog X.w) X.A (f (.int i t)) Q E s) :
  Jg X f (rU λ i=>.int (g i)):=by
 intro pins s LQ H x v Q I D h;obtain⟨i,rfl,q⟩:=h;obtain⟨t,rfl⟩:=D;exact B i t s _ _ ⟨.int (g i),H,I.tok _,⟨_,rfl⟩,q⟩
theorem C6:Jg X (unaryOp .USub) (rU λ i=>.int (-i)):=LB λ _ _ _ _ _ q=>neg_int q
end
def Ji:V->V->Bool
 | .eu,.eu=>true | .eu,.int _=>true | .int _,.eu=>true | .eu,.bl _=>true | .bl _,.eu=>true | .eu,.str _=>true | .str _,.eu=>true
 | .int _,.int _=>true | .bl _,.bl _=>true | .str _,.str _=>true | .oi _,.oi _=>true
 | .int _,.str _=>true | .str _,.int _=>true | .bl _,.str _=>true | .str _,.bl _=>true
 | _,_=>false
def LC:R2:=λ x y H Q=>Ji x y=true/\Q (.bl (decide (x=y))) H
theorem Ar {i j:Int}:decide (V.int i=V.int j)=(i == j):=by
 rw[NS];simp
theorem Jj {i j:Bool}:decide (V.bl i=V.bl j)=(i == j):=by
 rw[NS];simp
theorem Hq {i j:Str}:decide (V.str i=V.str j)=(i == j):=by
 rw[NS];simp
theorem Hr {i j:Array UInt8}:decide (V.oi i=V.oi j)=(i.toList == j.toList):=by
 rw[NS];cases i;cases j;simp
section
variable {X:Cx}{a b c:Expr}{ta tb tc:TE}{pos:Pos}
theorem ig {LQ : St}{H:Hp}{Q:VK}{k B:Bool}(I:Inv X pins LQ H s)(q:Q (.bl k) H)(e:k=B):EP X pins LQ Q (.bool B) s:=by
 subst e;exact⟨.bl k,H,I,rfl,q⟩
theorem eF:iK X (compareOp .Eq) LC:=by
 intro pins s LQ H x y v u Q I G B h;obtain⟨D,q⟩:=h;cases x with
 | eu =>
  cases G;cases y with
  | eu=>cases B;exact PySem.EqNone.eq_none_none (ig I q (by simp))
  | bl j=>cases B;exact PySem.EqNone.eq_none_bool (ig I q (by simp))
  | int j=>obtain⟨t',rfl⟩:=B;exact PySem.EqNone.eq_none_int (ig I q (by simp))
  | str j=>obtain⟨t',rfl⟩:=B;exact PySem.EqNone.eq_none_str (ig I q (by simp))
  | _=>exact absurd (show false=true from D) Mv
 | bl i =>
  cases G;cases y with
  | eu=>cases B;exact PySem.EqNone.eq_bool_none (ig I q (by simp))
  | bl j=>cases B;exact eq_bool (ig I q Jj)
  | str j=>obtain⟨t',rfl⟩:=B;exact PySem.EqMixed.eq_bool_str (ig I q (by simp))
  | _=>exact absurd (show false=true from D) Mv
 | int i =>
  obtain⟨t,rfl⟩:=G;cases y with
  | eu=>cases B;exact PySem.EqNone.eq_int_none (ig I q (by simp))
  | int j=>obtain⟨t',rfl⟩:=B;exact eq_int (ig I q Ar)
  | str j=>obtain⟨t',rfl⟩:=B;exact PySem.EqMixed.eq_int_str (ig I q (by simp))
  | _=>exact absurd (show false=true from D) Mv
 | str i =>
  obtain⟨t,rfl⟩:=G;cases y with
  | eu=>cases B;exact PySem.EqNone.eq_str_none (ig I q (by simp))
  | bl j=>cases B;exact PySem.EqMixed.eq_str_bool (ig I q (by simp))
  | int j=>obtain⟨t',rfl⟩:=B;exact PySem.EqMixed.eq_str_int (ig I q (by simp))
  | str j=>obtain⟨t',rfl⟩:=B;exact eq_str (ig I q Hq)
  | _=>exact absurd (show false=true from D) Mv
 | oi i =>
  obtain⟨t,rfl⟩:=G;cases y with
  | oi j=>obtain⟨t',rfl⟩:=B;exact PySem.W.eq_bytes (ig I q Hr)
  | _=>exact absurd (show false=true from D) Mv
 | _=>cases y<;>exact absurd (show false=true from D) Mv
theorem jh:iK X (compareOp .Lt) (yE λ i j=>.bl (decide (i<j))):=E5 λ _ _ _ _ _ _ _ q=>lt_int q
theorem Bz:iK X (compareOp .LtE) (yE λ i j=>.bl (decide (i<=j))):=E5 λ _ _ _ _ _ _ _ q=>le_int q
theorem yg:iK X (compareOp .Gt) (yE λ i j=>.bl (decide (j<i))):=E5 λ _ _ _ _ _ _ _ q=>gt_int q
theorem cX (b:Expr)(h:op≠.In:=by decide)(h2:op≠.NotIn:=by decide):behindInMarks op b=false:=by
 have D:(op == CmpOp.In)=false:=by cases op<;>first | rfl | exact absurd rfl h
 have B:(op == CmpOp.NotIn)=false:=by cases op<;>first | rfl | exact absurd rfl h2
 cases b<;>simp[behindInMarks,D,B]
theorem kM {r:R2}(ho:iK X (compareOp op) r)(B:PE X a ta)(hb:PE X b tb)(hm:behindInMarks op b=false):PE X (.Compare a [op] [b] pos) (C5 r ta tb):=by
 intro pins s LQ H Q I h;exact wpAny_Compare1 (E4 B hb I h λ v u G x y H2 J D N q=>ho pins G LQ H2 x y v u Q J D N q) hm
inductive E7 (Q:(Bool->Hp->Prop)) (x:V) (H':Hp):Prop
 | mk (k:_) (_:x=.bl k) (_:Q k H')
def Kk (t:TE):TT:=λ LQ H Q=>t LQ H λ x H'=>E7 Q x H'
theorem cP {r:R2}(ho:iK X (compareOp op) r)(D:PE X a ta)(hb:PE X b tb)(hm:behindInMarks op b=false):PT X (.Compare a [op] [b] pos) (Kk (C5 r ta tb)):=by
 intro pins s LQ H Q I h;refine wpAny_isTrue_Compare1 (dC (D pins s LQ H _ I h) λ v s1 ⟨x,H1,N,Z,q1⟩=>dC (hb pins s1 LQ H1 _ N q1) λ u J ⟨y,H2,I2,B,q2⟩ =>
  dC (ho pins J LQ H2 x y v u _ I2 Z B q2) λ c s3 ⟨z,G,Y,r3,k,e,q3⟩=>?_) hm
 subst e;cases r3;exact OS ⟨G,Y,q3⟩
def Jk (K:LV)(x:V)(H:Hp)(k:Bool):Prop :=
 match x with
 | .eu=>k=false
 | .bl b=>k=b
 | .int i=>k=(i != 0)
 | .str y=>y.length<=sizeLine/\k=((y.length:Int) != 0)
 | .oi y=>y.size<=sizeLine/\k=((y.size:Int) != 0)
 | .ref p=>(∃xs,cN K H p xs/\k = !xs.isEmpty)\/(∃xs,cE K H p xs/\k = !xs.isEmpty)\/∃kvs,H p=some (.dK kvs)/\k = !kvs.isEmpty
 | _=>False
theorem BA {B:Type}{kvs:List (B×V)}{vs:List (B×Value)}(r:KV kvs vs):(!vs.isEmpty) = !kvs.isEmpty:=by
 cases r<;>rfl
theorem uB {xs:List V}{its:List Value}(r:Vals xs its):(!its.toArray.isEmpty) = !xs.isEmpty:=by
 cases r<;>simp
theorem mO:(sizeLine:Nat)<2 ^ 63:=by rw[sizeLine_eq];decide
theorem Jl:Lc X (λ x H Q=>∃k,Jk X.K x H k/\Q k H):=by
 intro pins s LQ H x v Q I G h;obtain⟨k,e,q⟩:=h;have Z:=mO;have Y:sizeLine=16777216:=sizeLine_eq;cases x with
 | eu =>
  cases G;have B:k=false:=e;subst B;exact truthy_none ⟨H,I,q⟩
 | bl b =>
  cases G;have B:k=b:=e;subst B;exact OS ⟨H,I,q⟩
 | int i =>
  obtain⟨t,rfl⟩:=G;have B:k=(i != 0):=e;subst B;exact PySem.P.truthy_int ⟨H,I,q⟩
 | str y =>
  obtain⟨t,rfl⟩:=G;obtain⟨N,B⟩:y.length<=sizeLine/\k=((y.length:Int) != 0):=e;subst B;exact PySem.P.truthy_str ⋯ ⟨H,I.tok _,q⟩
 | oi y =>
  obtain⟨t,rfl⟩:=G;obtain⟨N,B⟩:y.size<=sizeLine/\k=((y.size:Int) != 0):=e;subst B;exact PySem.W.truthy_bytes ⋯ ⟨H,I.tok _,q⟩
 | ref p =>
  cases G;have B:(∃xs,cN X.K H p xs/\k = !xs.isEmpty)\/(∃xs,cE X.K H p xs/\k = !xs.isEmpty)\/∃kvs,H p=some (.dK kvs)/\k = !kvs.isEmpty:=e
  rcases B with ⟨xs,hx,B⟩ | ⟨xs,hx,B⟩ | ⟨kvs,hx,B⟩
  ·subst B;obtain⟨its,r,pl,hz⟩:=I.list hx;have D:=r.length;exact wpAny_truthy_list pl.isList (by simp only[Mi];omega) ⟨H,I.tok _,by rw[uB r];exact q⟩
  ·subst B;obtain⟨its,r,pl,hz⟩:=I.tuple hx;have D:=r.length;exact truthy_tuple pl (by simp only[Mi];omega) ⟨H,I.tok _,by rw[uB r];exact q⟩
  ·subst B;obtain⟨hz,J,vs,r,m⟩:kvs.length<=sizeLine/\(p == sysModules)=false/\∃vs,KV kvs vs/\s.heap.DictOf (dm X.prog X.w) p vs:=I.de p _ hx;have D:kvs.length=vs.length:=Paired.length r;exact wpAny_truthy_dict J m ⋯ ⟨H,I.tok _,by rw[BA r];exact q⟩
 | _=>exact (show False from e).elim
theorem E8 (D:PE X a ta)(N:∀B,isTrue a X.env B=(do let v <-B;standAt a.pos;holding [v] (truthy v))) :
  PT X a (λ LQ H Q=>ta LQ H λ x H'=>∃k,Jk X.K x H' k/\Q k H'):=by
 intro pins s LQ H Q I h;exact isTrue_plain (dC (D pins s LQ H _ I h) λ v Y ⟨x,H1,G,J,q1⟩=>Jl pins Y LQ H1 x v Q G J q1) (N _)
theorem BB:iK X (binaryOp .Add) (λ x y H Q=>∃i j,x=.str i/\y=.str j/\i.length+j.length<=sizeLine/\Q (.str (i++j)) H):=by
 intro pins s LQ H x y v u Q I B D h;obtain⟨i,j,rfl,rfl,hz,q⟩:=h;obtain⟨t,rfl⟩:=B;obtain⟨t',rfl⟩:=D;exact add_str (λ t' tk=>⟨.str (i++j),H,I.tok _,⟨_,rfl⟩,q⟩) hz
theorem vals1 {x:V}(r:Vals [x] us):∃u,us=[u]/\RelV x u:=by
 cases r with
 | cons r1 r2=>cases r2;exact⟨_,rfl,r1⟩
theorem vals2 {x y:V}(r:Vals [x,y] us):∃u B,us=[u,B]/\RelV x u/\RelV y B:=by
 cases r with
 | cons r1 r2 =>
  cases r2 with
  | cons r3 r4=>cases r4;exact⟨_,_,rfl,r1,r3⟩
theorem wN (B:X.calm=true):il X (.builtin "max") (λ xs H Q=>∃i j,xs=[.int i,.int j]/\Q (.int (if j > i then j else i)) H):=by
 intro pins s LQ H xs us Q I r h;obtain⟨i,j,rfl,q⟩:=h;obtain⟨u,D,rfl,⟨t,rfl⟩,⟨t',rfl⟩⟩:=vals2 r;refine max_two_ints (I.ok.hd B) λ h' tk k=>⟨_,H,I.kept k,?_,q⟩
 by_cases hj:j > i
 ·rw[if_pos hj,if_pos hj];exact⟨_,rfl⟩
 ·rw[if_neg hj,if_neg hj];exact⟨_,rfl⟩
theorem wO (B:X.calm=true):il X (.builtin "min") (λ xs H Q=>∃i j,xs=[.int i,.int j]/\Q (.int (if j<i then j else i)) H):=by
 intro pins s LQ H xs us Q I r h;obtain⟨i,j,rfl,q⟩:=h;obtain⟨u,D,rfl,⟨t,rfl⟩,⟨t',rfl⟩⟩:=vals2 r;refine min_two_ints (I.ok.hd B) λ h' tk k=>⟨_,H,I.kept k,?_,q⟩
 by_cases hj:j<i
 ·rw[if_pos hj,if_pos hj];exact⟨_,rfl⟩
 ·rw[if_neg hj,if_neg hj];exact⟨_,rfl⟩
theorem wQ:il X (.type "int") (λ xs H Q=>(∃i,xs=[.int i]/\Q (.int i) H)\/∃k,xs=[.bl k]/\Q (.int (if k then 1 else 0)) H):=by
 intro pins s LQ H xs us Q I r h
 rcases h with ⟨i,rfl,q⟩ | ⟨k,rfl,q⟩
 ·obtain⟨u,rfl,t,rfl⟩:=vals1 r;exact call_int_int ⟨.int i,H,I,⟨_,rfl⟩,q⟩
 ·obtain⟨u,rfl,B⟩:=vals1 r;cases B;exact call_int_bool ⟨.int (if k then 1 else 0),H,I.tok _,⟨_,rfl⟩,q⟩
end
structure tK (h:Heap) (x dx C:Addr) (mA:Z2):Prop where
 obj:h.get? x=some (M3 C dx)
 ns:h.Ns1 dx mA
 ne:dx≠x
theorem C7 (n:h.Ns1 dx mA):∃od,h.get? dx=some od/\∀name,NT name od=some (mA name):=by
 obtain⟨o,es,ep,ho,hd,G,_,hm⟩:=n;refine⟨o,ho,λ name=>?_⟩;have e:=hm name;unfold nsFind findBy at e;rw[<-Array.find?_toList] at e;unfold NT;rw[hd];dsimp only;split
 ·rename_i y q
  rw[q] at e;exact congrArg some e
 ·rename_i q
  rw[q] at e;have a:es.toList.any (·.refKey)=false:=by
   rw[List.any_eq_false];intro y J;obtain⟨z,t,B⟩:=G y (Array.mem_toList_iff.mp J);simp[DictEntry.refKey,B]
  have D:¬es.toList.any (·.refKey)=true:=by rw[a];exact Mv
  rw[if_neg D];exact congrArg some e
theorem tK.look {x:Addr}(I:tK h x dx C mA):∃od,PySem.W.InstAt h x (M3 C dx) C (some od)/\∀name,NT name od=some (mA name) :=
 let ⟨od,ho,hl⟩:=C7 I.ns
 ⟨od,⟨I.obj,rfl,rfl,ho⟩,hl⟩
section
variable {prog:Program}{w:World}{A:Around}{E:Z0}{s:Shared}{K:LV}{x dx C f:Addr}{mA:Z2}{name:Str}{v:Value}
theorem get_map {B:Bool}{Q:Z0}(X:K.In s.heap)(I:tK s.heap x dx C mA)(G:Nk K C name=true)(hh:Ny K C=true)
  (N:Mp K (.ref C) name=some none) (Y:mA name=some v) (D:PySem.W.handedIn v=true) (h:Q v { s with toks:=s.toks+1 }) :
  wpAny (model prog w) A (getAttr (.ref x) name B) Q E s:=by
 obtain⟨od,J,Z⟩:=I.look;exact PySem.W.get_value X J (Ol G).1 (PySem.W.findObj_own hh N rfl (by rw[Z,Y])) D h
theorem E9 {Q:Value×List Value->Shared->Prop}(X:K.In s.heap)(I:tK s.heap x dx C mA)(B:Nk K C name=true)
  (hf:Mp K (.ref C) name=some (some (.ref f))) (N:Nz K (.ref f)=true) (D:mA name=none) (h:Q (.ref f,[.ref x]) s) :
  wpAny (model prog w) A (getMethod (.ref x) name pl) Q E s:=by
 obtain⟨od,J,G⟩:=I.look;exact PySem.W.method_fn X J (Ol B).1 (Ol B).2 hf (beq_iff_eq.mp N) (by show (NT name od).map (·.isSome)=some false;rw[G,D];rfl) h
theorem Hs {ns:List Str}(X:K.In s.heap)(I:tK s.heap x dx C mA)
  (hs:Mp K (.ref C) "__setattr__" = some (some (.builtin "object.__setattr__"))) (hp:NU K C=true) (ht:PySem.W.takerIn K C name=some none) (hh:Ny K C=true)
  (hw:PySem.Within mA ns) (hsz:ns.length<=sizeLine)
  (h:∀h',tK h' x dx C (λ y=>if y=name then some v else mA y)->Mx dx s.heap h'->Q () { s with heap:=h',toks:=s.toks+2 }) :
  wpAny (model prog w) A (setAttr (.ref x) name v) Q E s:=by
 obtain⟨od,J,hl⟩:=I.look;refine PySem.W.set_plain X J hs (PySem.W.osa_open (s:={ s with toks:=s.toks+1 }) (r:=none) X J hp ht λ b=>?_);obtain⟨cd,hc,Z⟩:=PySem.W.any_some hh;have hx:s.heap.get? x=some ⟨.ref C,some dx,.plain,#[]⟩:=I.obj;refine Oz (OA (Oz (Oz (wpAny_loadPart hx (Oz (PySem.W.Looks.here (s:={ s with toks:=s.toks+1 }) (PySem.W.looks_clsIn X hc) ?_))))));rw[Z];refine OA (a:=some dx) (Oz (OA (Oz ?_)));refine wpAny_nsSet1 (s:={ s with toks:=s.toks+1 }) I.ns λ h' D B=>?_
 obtain⟨oD,a1,a0,Y,N,G⟩:=D.count (PySem.Within.cons name v hw);refine Oz (wpAny_lookBehind Y (by rw[N];exact pastItsLine_dict (Ma G (by rw[Ms];omega))) ?_);exact OA (h _ ⟨(B.2 _ (Ne.symm I.ne)).trans I.obj,D,I.ne⟩ B)
theorem Fb {R:Result->Shared->Prop}{vs:List Value}(X:K.In s.heap)(hm:NA K C=true)
  (hi:Mp K (.ref C) "__init__" = some (some (.ref f))) (hf:PySem.W.typeIn K (.ref f)=some (.type "function"))
  (h:codeAny (model prog w) (A.under (.builtin "type.__call__" ⟨.ref C::vs,B⟩)) (.call (.ref f) ⟨.ref (s.heap.objs.size+1)::vs,B⟩) (PySem.W.InitBack (s.heap.objs.size+1) R)
   { s with heap:=(s.heap.push MW).push (M3 C s.heap.objs.size) }) :
  codeAny (model prog w) A (.call (.ref C) ⟨vs,B⟩) R s:=by
 obtain⟨hh,g,d,t,os⟩:=s;exact PySem.W.make_core (PySem.W.makes_of X hm) (PySem.W.looks_findIn X hi) (λ self=>PySem.W.bind_fn X self hf) (.inl rfl) h
end
def fA (f:Str)(v:V):List (Str×V)->List (Str×V)
 | []=>[(f,v)]
 | (g,x)::r=>if g=f then (g,v)::r else (g,x)::fA f v r
theorem sS (f g:Str)(v:V):∀fs:List (Str×V),(fA f v fs).lookup g=if g=f then some v else fs.lookup g
 | []=>by
  show MP g [(f,v)]=_;by_cases h:g=f
  ·have hb:(g == f)=true:=beq_iff_eq.mpr h;simp only[MP,hb,if_pos h]
  ·have hb:(g == f)=false:=beq_eq_false_iff_ne.mpr h;simp only[MP,hb,if_neg h]
 | (k,x)::r=>by
  have B:=sS f g v r;rw[show fA f v ((k,x)::r)=(if k=f then (k,v)::r else (k,x)::fA f v r) from rfl];by_cases hk:k=f
  ·rw[if_pos hk];by_cases h:g=k
   ·have hb:(g == k)=true:=beq_iff_eq.mpr h;simp only[MP,hb,if_pos (h.trans hk)]
   ·have hb:(g == k)=false:=beq_eq_false_iff_ne.mpr h;simp only[MP,hb,if_neg (λ e:g=f=>h (e.trans hk.symm))]
  ·rw[if_neg hk];by_cases h:g=k
   ·have hb:(g == k)=true:=beq_iff_eq.mpr h;simp only[MP,hb,if_neg (λ e:g=f=>hk (h.symm.trans e))]
   ·have hb:(g == k)=false:=beq_eq_false_iff_ne.mpr h;simp only[MP,hb];exact B
theorem qA (f:Str)(v:V):∀fs:List (Str×V),f∈(fA f v fs).map (·.1)/\∀g,g∈fs.map (·.1)->g∈(fA f v fs).map (·.1)
 | []=>⟨by simp[fA],λ g h=>by simp at h⟩
 | (k,x)::r=>by
  obtain⟨D,B⟩:=qA f v r;rw[show fA f v ((k,x)::r)=(if k=f then (k,v)::r else (k,x)::fA f v r) from rfl];by_cases hk:k=f
  ·rw[if_pos hk];subst hk;exact⟨by simp,λ g h=>by simpa using h⟩
  ·rw[if_neg hk];refine⟨?_,λ g h=>?_⟩
   ·rw[Mt];exact Mc _ D
   ·rw[Mt] at h ⊢
    rcases LZ.mp h with e | e
    ·exact LZ.mpr (.inl e)
    ·exact Mc _ (B g e)
theorem sT (f:Str)(v:V):∀fs:List (Str×V),(fA f v fs).length<=fs.length+1
 | []=>by simp[fA]
 | (k,x)::r=>by
  have B:=sT f v r;rw[show fA f v ((k,x)::r)=(if k=f then (k,v)::r else (k,x)::fA f v r) from rfl];by_cases hk:k=f
  ·rw[if_pos hk,Ms,Ms];omega
  ·rw[if_neg hk,Ms,Ms];omega
theorem jc.some_of {v:V}{o:Option Value}(r:jc (some v) o):∃u,o=some u/\RelV v u:=by
 cases o with
 | none=>exact (show False from r).elim
 | some u=>exact⟨u,rfl,r⟩
theorem jc.none_of {o:Option Value}(r:jc none o):o=none:=by
 cases o with
 | none=>rfl
 | some u=>exact (show False from r).elim
theorem C8 {v:V}(r:RelV v u):PySem.W.handedIn u=true:=by
 cases v with
 | eu=>cases (show u=Value.none from r);rfl
 | bl b=>cases (show u=Value.bool b from r);rfl
 | int i=>obtain⟨t,e⟩:=(show ∃t,u=Value.int i t from r);cases e;rfl
 | str x=>obtain⟨t,e⟩:=(show ∃t,u=Value.str x t from r);cases e;rfl
 | oi b=>obtain⟨t,e⟩:=(show ∃t,u=Value.bytes b t from r);cases e;rfl
 | CV b=>obtain⟨t,e⟩:=(show ∃t,u=Value.float b t from r);cases e;rfl
 | ref a=>cases (show u=Value.ref a from r);rfl
 | ty n=>cases (show u=Value.type n from r);rfl
section
variable {P:Program}{w:World}{H H':Hp}{h h':Heap}{a C dx:Addr}{fs fs':List (Str×V)}
theorem vF (de:ia P w H h)(e:H a=some (.ins C dx fs)):∃mA,tK h a dx C mA/\(∀f,jc (fs.lookup f) (mA f))/\PySem.Within mA (fs.map (·.1))/\fs.length<=1000/\H dx=some (.own a):=by
 obtain⟨d,z,ne,ob,mA,n,r,q⟩:=(show ff P w H h a (.ins C dx fs) from de a _ e);exact⟨mA,⟨ob,n,ne⟩,r,q,z,d⟩
end
structure nq (K:LV) (C:Addr):Prop where
 pg:Nk K C Str.empty=true
 hd:Ny K C=true
 po:NU K C=true
 sa:Mp K (.ref C) "__setattr__" = some (some (.builtin "object.__setattr__"))
theorem nq.get (c:nq K C)(f:Str):Nk K C f=true:=c.pg
def gK (K:LV)(C:Addr)(f:Str):Prop:=Mp K (.ref C) f=some none
theorem gK.Kl {f:Str}(n:gK K C f):PySem.W.takerIn K C f=some none:=by
 unfold PySem.W.takerIn;rw[show Mp K (.ref C) f=some none from n];rfl
structure Meth (K:LV) (C:Addr) (m:Str) (f:Addr):Prop where
 at_:Mp K (.ref C) m=some (some (.ref f))
 fn:Nz K (.ref f)=true
 kp:MQ K (.ref f)=true
section
variable {X:Cx}{pins:Z1}{LQ : St}{H:Hp}{s:Shared}{a C dx:Addr}{fs:List (Str×V)}{f:Str}{v:V}{A:Around}{E:Z0}
theorem uC {b:Bool}{Q:Z0}(I:Inv X pins LQ H s)(e:H a=some (.ins C dx fs))(c:nq X.K C)(n:gK X.K C f)(l:fs.lookup f=some v)
  (h:∀u s',Inv X pins LQ H s'->RelV v u->Q u s'):wpAny (model X.prog X.w) A (getAttr (.ref a) f b) Q E s:=by
 obtain⟨mA,O,r,_,_,_⟩:=vF I.de e;obtain⟨u,D,B⟩:=jc.some_of (v:=v) (o:=mA f) (by rw[<-l];exact r f);exact get_map I.lP O (c.get f) c.hd n D (C8 B) (h u _ (I.tok _) B)
theorem uD {m:Str}{g:Addr}{Q:Value×List Value->Shared->Prop}(I:Inv X pins LQ H s)(e:H a=some (.ins C dx fs))(c:nq X.K C)(k:Meth X.K C m g)(l:fs.lookup m=none)
  (h:Q (.ref g,[.ref a]) s):wpAny (model X.prog X.w) A (getMethod (.ref a) m pl) Q E s:=by
 obtain⟨mA,O,r,_,_,_⟩:=vF I.de e;have hn:mA m=none:=jc.none_of (by rw[<-l];exact r m);exact E9 I.lP O (c.get m) k.at_ k.fn hn h
theorem uE {y:V}(I:Inv X pins LQ H s)(e:H a=some (.ins C dx fs))(c:nq X.K C)(n:gK X.K C f)(Y:fs.length<1000)(J:RelV y u)
  (h:∀s',Inv X pins LQ (upd H a (.ins C dx (fA f y fs))) s'->Q () s'):wpAny (model X.prog X.w) A (setAttr (.ref a) f u) Q E s:=by
 obtain⟨mA,O,r,D,_,ho⟩:=vF I.de e;have hz:(fs.map (·.1)).length<=sizeLine:=by rw[LU,sizeLine_eq];omega
 refine Hs I.lP O c.sa c.po n.Kl c.hd D hz λ h' B G=>h _ ?_
 have hd:∃o,h'.get? dx=some o:=let ⟨o,_,_,e',_⟩:=B.ns;⟨o,e'⟩
 refine I.write (x:=a) (e:=dx) (by rw[e];exact True.intro) (.inr ho) (λ b q hb z=>(G.2 b hb).trans z) hd ?_;refine⟨by rw[cx O.ne];exact ho,?_,O.ne,B.obj,_,B.ns,λ g=>?_,λ g N=>?_⟩
 ·have:=sT f y fs;omega
 ·show jc ((fA f y fs).lookup g) (if g=f then some u else mA g);rw[sS];by_cases q:g=f
  ·rw[if_pos q,if_pos q];exact J
  ·rw[if_neg q,if_neg q];exact r g
 ·by_cases q:g=f
  ·rw[q];exact (qA f y fs).1
  ·refine (qA f y fs).2 g (D g λ z=>N ?_);show (if g=f then some u else mA g)=none;rw[if_neg q];exact z
theorem Inv.made (I:Inv X pins LQ H s):Inv X pins LQ (upd (upd H s.heap.objs.size (.own (s.heap.objs.size+1))) (s.heap.objs.size+1) (.ins C s.heap.objs.size []))
  { s with heap:=(s.heap.push MW).push (M3 C s.heap.objs.size) }:=by
 have B:(s.heap.push MW).get? s.heap.objs.size=some MW:=L7 s.heap rfl;have J:((s.heap.push MW).push (M3 C s.heap.objs.size)).get? (s.heap.objs.size+1)=some (M3 C s.heap.objs.size):=by
  have:=L7 (s.heap.push MW) (o:=M3 C s.heap.objs.size) rfl
  rwa [Ml] at this
 have Y:(s.heap.push MW).Ns s.heap.objs.size (λ _=>none):=⟨MW,#[],_,B,rfl,(λ e G=>absurd G (by simp)),λ _=>rfl⟩;have N:=I.laid (a:=s.heap.objs.size) (o:=.own (s.heap.objs.size+1)) (h':=s.heap.push MW) (t':=s.toks) (λ b u q=>L3 _ q) (LW _) ⟨_,B⟩;refine N.laid (a:=s.heap.objs.size+1) (o:=.ins C s.heap.objs.size []) (t':=s.toks) (λ b u q=>L3 _ q) (Nat.le_of_eq (Ml _ _)) ?_;have ne:s.heap.objs.size≠s.heap.objs.size+1:=L5 (MG _);refine⟨by rw[cx ne,cu],Me _,ne,J,λ _=>none,(Heap.Ns1.of_empty Y).at λ o q=>L3 _ q,λ _=>True.intro,λ y D=>absurd rfl D⟩
theorem Ht {prog:Program}{env:Env}{f:Str}{pos:Pos}{s:Shared}{Q:Z0}(hb:attributeBase e f env (eval e env)=eval e env)
  (h:wpAny (model prog w) A (eval e env) (λ o B=>wpAny (model prog w) A (getAttr o f true) Q E B) E s):wpAny (model prog w) A (eval (.Attribute e f pos) env) Q E s :=
 Attribute_any_ h (by rw[arm_eval_Attribute,hb])
end
inductive Hu (K:LV) (f:Str) (Q:VK) (x:V) (H1:Hp):Prop
 | mk (a C dx fs v:_) (_:x=.ref a) (_:H1 a=some (.ins C dx fs)) (_:nq K C) (_:gK K C f) (_:fs.lookup f=some v) (_:Q v H1)
def Jm (K:LV)(ta:TE)(f:Str):TE:=λ LQ H Q=>ta LQ H λ x H1=>Hu K f Q x H1
inductive Hv (K:LV) (f:Str) (D:Ends) (LQ : St) (y:V) (x:V) (H2:Hp):Prop
 | mk (a C dx fs:_) (_:x=.ref a) (_:H2 a=some (.ins C dx fs)) (_:nq K C) (_:gK K C f) (_:fs.length<1000) (_:D.nx LQ (upd H2 a (.ins C dx (fA f y fs))))
def Lf (K:LV)(ta tv:TE)(f:Str):TS:=λ D LQ H=>tv LQ H λ y H1=>ta LQ H1 λ x H2=>Hv K f D LQ y x H2
def Jn (X:Cx)(op:Operator)(rd:V->V->Hp->VK->Prop):Prop :=
 ∀(pins:Z1) (s:Shared) (LQ : St) (H:Hp) (x y:V) (u v:Value) (Q:VK),Inv X pins LQ H s->RelV x u->RelV y v->rd x y H Q->wpAny (model X.prog X.w) X.A (inplaceOp op u v) (EP X pins LQ Q) X.xe s
inductive BC (f:Str) (D:Ends) (LQ : St) (a:Addr) (C:Addr) (z:V) (H3:Hp):Prop
 | mk (dx' fs':_) (_:H3 a=some (.ins C dx' fs')) (_:fs'.length<1000) (_:D.nx LQ (upd H3 a (.ins C dx' (fA f z fs'))))
inductive BD (K:LV) (tv:TE) (rd:V->V->Hp->VK->Prop) (f:Str) (D:Ends) (LQ : St) (x:V) (H1:Hp):Prop
 | mk (a C dx fs v:_) (_:x=.ref a) (_:H1 a=some (.ins C dx fs)) (_:nq K C) (_:gK K C f) (_:fs.lookup f=some v) (_:tv LQ H1 λ y H2=>rd v y H2 λ z H3=>BC f D LQ a C z H3)
def Hw (K:LV)(ta tv:TE)(rd:V->V->Hp->VK->Prop)(f:Str):TS:=λ D LQ H=>ta LQ H λ x H1=>BD K tv rd f D LQ x H1
section
variable {X:Cx}{o e value:Expr}{f:Str}{pos pos' tpos:Pos}{ta tv:TE}
theorem dZ (N:PE X e ta)(hb:attributeBase e f X.env (eval e X.env)=eval e X.env):PE X (.Attribute e f pos) (Jm X.K ta f):=by
 intro pins s LQ H Q I h;refine Ht hb (dC (N pins s LQ H _ I h) λ u s1 ⟨x,H1,G,B,a,C,dx,fs,v,ex,J,c,n,l,q⟩=>?_);subst ex;obtain rfl:u=Value.ref a:=B;exact uC G J c n l λ Z s2 Y D=>⟨v,H1,Y,D,q⟩
theorem iA (B:PE X o ta)(J:PE X value tv)(N:swapsWith value (some (.Attribute o f pos')) pos.line X.env=pure false):PS X (.Assign [.Attribute o f pos'] value pos) (Lf X.K ta tv f):=by
 intro pins s LQ H D I h;refine plainObj_wpAny_Assign_Attribute (dC (J pins s LQ H _ I h) λ u s1 ⟨y,H1,Y,ry,q⟩=>dC (B pins s1 LQ H1 _ Y q) λ Z s2 ⟨x,H2,I2,G,a,C,dx,fs,ex,ea,c,n,l,q2⟩=>?_) N;subst ex;obtain rfl:Z=Value.ref a:=G;exact uE I2 ea c n l ry λ s3 I3=>⟨LQ,_,I3,q2⟩
theorem wR {op:Operator}{rd:V->V->Hp->VK->Prop}(J:PE X o ta)(N:PE X value tv)(G:Jn X op rd):PS X (.AugAssign (.Attribute o f tpos) op value pos) (Hw X.K ta tv rd f):=by
 intro pins s LQ H D I h;refine wpAny_AugAssign_AttributeAny (dC (J pins s LQ H _ I h) λ ov s1 ⟨x,H1,I1,rx,a,C,dx,fs,v,ex,ea,c,n,l,q⟩=>?_);subst ex;obtain rfl:ov=Value.ref a:=rx;refine uC I1 ea c n l λ u s2 Z ru=>dC (N pins s2 LQ H1 _ Z q) λ w3 s3 ⟨y,H2,I3,ry,q3⟩=>dC (G pins s3 LQ H2 v y u w3 _ I3 ru ry q3) λ w4 s4 ⟨z,H3,I4,rz,Y,fs',B,l',q4⟩=>?_
 exact uE I4 B c n l' rz λ s5 I5=>⟨LQ,_,I5,q4⟩
inductive Lg  (x:V) (y:V) (H:Hp) (Q:VK):Prop
 | mk (i j:_) (_:x=.int i) (_:y=.int j) (_:Q (.int (i+j)) H)
theorem C9:Jn X .Add Lg:=by
 rintro pins s LQ H x y u v Q I B D ⟨i,j,rfl,rfl,q⟩;obtain⟨t,rfl⟩:=(show ∃t,u=Value.int i t from B);obtain⟨t',rfl⟩:=(show ∃t',v=Value.int j t' from D);exact PyProof.Rows.iadd_int ⟨.int (i+j),H,I.tok _,⟨_,rfl⟩,q⟩
end
section
variable {X:Cx}{pins:Z1}{LQ : St}{H:Hp}{s:Shared}{A:Around}{E:Z0}{Q:Z0}{c:Value}{b:Bool}
end
structure fP (k:Nat) (A:Around):Prop where
 hd:A.handled=none
 dp:A.depth+3*k+5<recursionLimit
 un:A.units+16*k+200<cLine
theorem fP.mono {k:Nat}(r:fP k A)(h:j<=k):fP j A:=⟨r.hd,by have:=r.dp;omega,by have:=r.un;omega⟩
theorem fP.deeper {k:Nat}{A:Around}(r:fP (k+1) A)(env:Env):fP k (A.deeper env) :=
 ⟨r.hd,by have:=r.dp;show A.depth+1+3*k+5<_;omega,by have:=r.un;show A.units+3+16*k+200<_;omega⟩
theorem BE:(A.under (.builtin "type.__call__" ⟨.ref C::us,B⟩)).depth=A.depth+1:=by
 first | rfl | simp[Around.under,Code.weight,Code.isCreation,Code.isGuard,Code.isCaller,Code.frames,Code.isFrame,guardIds]
theorem BF:(A.under (.builtin "type.__call__" ⟨.ref C::us,B⟩)).units=A.units+1:=by
 first | rfl | simp[Around.under,Code.cUnits,Code.frames,Code.isFrame]
theorem fP.make {k:Nat}  (r:fP (k+1) A) (C:Addr) (us:List Value) (B:List (Str×Value)):fP k (A.under (.builtin "type.__call__" ⟨.ref C::us,B⟩)) :=
 ⟨r.hd,by have:=r.dp;rw[BE];omega,by have:=r.un;rw[BF];omega⟩
theorem fP.depth {k:Nat}{A:Around}(r:fP k A):A.depth<recursionLimit:=by have:=r.dp;omega
theorem fP.units {k:Nat}{A:Around}(r:fP k A):A.units+64<cLine:=by have:=r.un;omega
def oZ:TA:=λ _ H Q=>Q [] H
def iq (ta:TE)(tr:TA):TA:=λ LQ H Q=>ta LQ H λ x H1=>tr LQ H1 λ xs H2=>Q (x::xs) H2
section
variable {X:Cx}{e:Expr}{es:List Expr}{te:TE}{t:TA}{pos:Pos}
theorem fg:PA X [] oZ:=λ _ _ _ _ H Q I h=>Calls.spliced_nil ⟨[],H,I,.nil,h⟩
theorem eE (D:PE X e te)(Z:PA X es t)(G:starEach (e::es) X.env=(false,eval e X.env)::starEach es X.env:=by rfl):PA X (e::es) (iq te t):=by
 intro pos pins s LQ H Q I h;rw[G];show wpAny _ _ (spliced ((false,eval e X.env)::backTo pos (starEach es X.env))) _ _ s;refine Calls.spliced_cons (dC (D pins s LQ H _ I h) λ u Y ⟨x,H1,J,N,q1⟩=>?_);exact dC (Z pos pins Y LQ H1 _ J q1) λ us s2 ⟨xs,H2,I2,B,q2⟩=>⟨x::xs,H2,I2,.cons N B,q2⟩
def Lh (t:TA):TE:=λ LQ H Q=>t LQ H λ xs H1=>xs.length<=sizeLine/\∀p,H1 p=none->Q (.ref p) (upd H1 p (.tup xs))
def Li (t:TA):TE:=λ LQ H Q=>t LQ H λ xs H1=>xs.length<=sizeLine/\∀p,H1 p=none->Q (.ref p) (upd H1 p (.lst xs))
theorem dH {x1}(h:PA X es t):PE X (.Tuple es x1 pos) (Lh t):=by
 intro pins s LQ H Q I hq;refine wpAny_Tuple_spliced (dC (h pos pins s LQ H _ I hq) λ us B ⟨xs,H1,D,r,z,q⟩=>⟨by rw[<-r.length];exact z,?_⟩);have hf:H1 B.heap.objs.size=none:=D.de.fresh (LW _);refine⟨.ref B.heap.objs.size,upd H1 B.heap.objs.size (.tup xs),D.laid (t':=B.toks) (λ b u e=>L3 _ e) (LW _) ?_,rfl,q _ hf⟩;exact⟨z,us,r,⟨_,L7 _ rfl,rfl,_,rfl,rfl⟩⟩
theorem fh (h:PA X es t):PE X (.List es pos) (Li t):=by
 intro pins s LQ H Q I hq;refine wpAny_List_spliced (dC (h pos pins s LQ H _ I hq) λ us B ⟨xs,H1,D,r,z,q⟩=>⟨by rw[<-r.length];exact z,?_⟩);have hf:H1 B.heap.objs.size=none:=D.de.fresh (LW _);refine⟨.ref B.heap.objs.size,upd H1 B.heap.objs.size (.lst xs),D.laid (t':=B.toks) (λ b u e=>L3 _ e) (LW _) ?_,rfl,q _ hf⟩;exact⟨z,us,0,r,L7 _ rfl⟩
end
abbrev Sp:=List V->Hp->VK->XK->Prop
abbrev qB:=List Env->Hp->Shared->XK->Value->Shared->Prop
structure tL (P:Program) (w:World) (K:LV) (mg:Z2) (base:Heap) (A:Around) (outer:List Env) (s:Shared) (H:Hp):Prop where
 frames:A.frames=some outer
 mod:Mod K mg base
 bs:∀b o,base.get? b=some o->s.heap.get? b=some o/\H b=none
 uz:base.objs.size<=s.heap.objs.size
 me:s.heap.FunFrames base outer
 yu:∀b∈qr outer,H b=none
 de:ia P w H s.heap
 bare:AllBare s.gens
def CE (outer:List Env)(P:Program)(w:World)(H:Hp)(s:Shared)(Q:VK)(u:Value)(s':Shared):Prop :=
 ∃v H',s'.os=s.os/\AllBare s'.gens/\Un (qr outer) [] H H' s.heap s'.heap/\ia P w H' s'.heap/\RelV v u/\Q v H'
def CR (CX:qB)(outer:List Env)(P:Program)(w:World)(H:Hp)(s:Shared)(Q:VK)(E:XK)(r:Result)(s':Shared):Prop :=
 match r with
 | .ok (.ret u)=>CE outer P w H s Q u s'
 | .ok _=>False
 | .error e=>CX outer H s E e s'
structure dB (P:Program) (w:World) (K:LV) (mg:Z2) (base:Heap) (CX:qB) (k:Nat) (f:Addr) (fd:FuncData) (ps:List Str) (sp:Sp):Prop where
 len:∀vs H Q E,sp vs H Q E->vs.length=ps.length
 run:∀(A:Around) (outer:List Env) (s:Shared) (H:Hp) (args:Args) (us:List Value) (vs:List V) (Q:VK) (E:XK),fP k A->tL P w K mg base A outer s H->BindsTo s fd args (ps.zip us)->Vals vs us->sp vs H Q E ->
  codeAny (model P w) A (.call (.ref f) args) (CR CX outer P w H s Q E) s
theorem tL.make {H:Hp}(e:tL P w K mg base A outer s H)(C:Addr)(us:List Value)(B:List (Str×Value)) :
  tL P w K mg base (A.under (.builtin "type.__call__" ⟨.ref C::us,B⟩)) outer s H:=⟨by first | exact e.frames | (simpa [Around.under,Code.envs,Code.isFrame,pushEnvs] using e.frames),e.mod,e.bs,e.uz,e.me,e.yu,e.de,e.bare⟩
section
variable {X:Cx}{pins:Z1}{LQ : St}{H:Hp}{s s':Shared}
theorem Inv.Jo (I:Inv X pins LQ H s):tL X.prog X.w X.K X.mg X.base X.A X.stack s H :=
 ⟨I.ok.frames,I.ok.mod,I.bs,Ma I.ok.uz I.sz,I.stack,I.Al,I.de,I.bare⟩
theorem Inv.after {Q:VK}(I:Inv X pins LQ H s)(h:CE X.stack X.prog X.w H s Q u s'):EP X pins LQ Q u s':=by
 obtain⟨v,H',os,bare,un,de,r,q⟩:=h;obtain⟨hh,g,d,t,B⟩:=s';obtain rfl:B=s.os:=os;exact⟨v,H',I.call (h':=hh) (g':=g) (d':=d) (t':=t) (ch:=[]) un de bare (λ b z=>absurd z (by simp)),r,q⟩
end
def BG (sp:Sp)(dvs:List V)(E:XK)(t:TA):TE:=λ LQ H Q=>t LQ H λ vs H1=>sp (vs++dvs) H1 Q E
inductive Fc (C:Addr) (m:Str) (sp:Sp) (dvs:List V) (E:XK) (t:TA) (LQ : St) (Q:VK) (x:V) (H1:Hp):Prop
 | mk (a dx fs:_) (_:x=.ref a) (_:H1 a=some (.ins C dx fs)) (_:fs.lookup m=none) (_:t LQ H1 λ vs H2=>sp (x::(vs++dvs)) H2 Q E)
def yh (C:Addr)(m:Str)(sp:Sp)(dvs:List V)(E:XK)(ta:TE)(t:TA):TE:=λ LQ H Q=>ta LQ H λ x H1=>Fc C m sp dvs E t LQ Q x H1
def GU (C:Addr)(sp:Sp)(dvs:List V)(E:XK)(t:TA):TE:=λ LQ H Q=>t LQ H λ vs H1=>∀x dx,H1 x=none->H1 dx=none->dx≠x ->
 sp (.ref x::(vs++dvs)) (upd (upd H1 dx (.own x)) x (.ins C dx [])) (λ v H2=>v=.eu/\Q (.ref x) H2) E
def Binds (K:LV)(fd:FuncData)(ps:List Str)(ds:List Value):Prop :=
 ∀(s:Shared) (us:List Value),K.In s.heap->(us++ds).length=ps.length->BindsTo s fd ⟨us,[]⟩ (ps.zip (us++ds))
theorem Binds.all {fd:FuncData}(h:∀us:List Value,us.length=ps.length->bindArgs fd ⟨us,[]⟩=pure (ps.zip us)):Binds K fd ps []:=λ s us _ B=>by
 rw[Nb] at B ⊢;exact .of_eq (h us B)
def Passes (CX:qB)(X:Cx)(E:XK):Prop:=∀(pins:Z1) (LQ : St) (H:Hp) (s:Shared) (e:Value) (s':Shared),Inv X pins LQ H s->CX X.stack H s E e s'->X.xe e s'
section
variable {X:Cx}{CX:qB}{k:Nat}{f C:Addr}{fd:FuncData}{ps:List Str}{sp:Sp}{dvs:List V}{ds:List Value}{E:XK}{x m:Str}{p pos apos:Pos}{e o:Expr}{es:List Expr}{ta:TE}{t:TA}
theorem yF {LQ : St}{H:Hp}{Q:VK}{us:List Value}{vs:List V}(F:dB X.prog X.w X.K X.mg X.base CX k f fd ps sp)(D:fP k X.A)(hb:Binds X.K fd ps ds)(hd:Vals dvs ds)(hx:Passes CX X E)
  (I:Inv X pins LQ H s) (r:Vals vs us) (h:sp (vs++dvs) H Q E):wpAny (model X.prog X.w) X.A (call (.ref f) us) (EP X pins LQ Q) X.xe s:=by
 have B:Vals (vs++dvs) (us++ds):=r.append hd;have G:(us++ds).length=ps.length:=by rw[<-B.length];exact F.len _ _ _ _ h
 refine wpAny_call (OJ (F.run X.A X.stack s H ⟨us,[]⟩ (us++ds) (vs++dvs) Q E D I.Jo (hb s us I.lP G) B h) λ r s' hq=>?_);cases r with
 | error e=>exact hx pins LQ H s e s' I hq
 | ok fl =>
  cases fl with
  | ret u=>exact I.after hq
  | next=>exact False.elim hq
  | brk=>exact False.elim hq
  | cont=>exact False.elim hq
theorem Hx (F:dB X.prog X.w X.K X.mg X.base CX k f fd ps sp)(hr:fP k X.A)(Y:Gl X x)(hm:X.mg x=some (.ref f))(N:MQ X.K (.ref f)=true)(hb:Binds X.K fd ps ds)(hd:Vals dvs ds)(hx:Passes CX X E)
  (J:PA X (e::es) t) (B:(x == ("__debug__" : Str))=false:=by decide) (Z:starEach (e::es) X.env=(false,eval e X.env)::starEach es X.env:=by rfl) (D:(backTo pos (starEach es X.env)).any (·.1)=false:=by rfl) :
  PE X (.Call (.Name x p) (e::es) [] pos) (BG sp dvs E t):=by
 intro pins s LQ H Q I h;refine OL (vD I Y hm ?_ B);refine Om (h₀:=X.base) I.ok.mod.om N (dC (J pos pins s LQ H _ I h) λ us s1 ⟨vs,H1,G,r,q⟩=>⟨G.lP,?_⟩) Z D;exact yF F hr hb hd hx G r q
theorem Hy (Y:PE X o ta)(c:nq X.K C)(hm:Meth X.K C m f)(F:dB X.prog X.w X.K X.mg X.base CX k f fd ps sp)(hr:fP k X.A)(hb:Binds X.K fd ps ds)(hd:Vals dvs ds)(hx:Passes CX X E)(N:PA X (e::es) t)
  (D:starEach (e::es) X.env=(false,eval e X.env)::starEach es X.env:=by rfl) (B:(backTo pos (starEach es X.env)).any (·.1)=false:=by rfl)
  (ht:eval (.Call (.Attribute o m apos) (e::es) [] pos) X.env=(do
   let ov <-eval o X.env
   standAt apos.atName
   let (f,first) <-holding [ov] (getMethod ov m pl)
   callWith pos f first (backTo pos (starEach (e::es) X.env)) (backToKw pos (keywordEach [] X.env))):=by rfl) :
  PE X (.Call (.Attribute o m apos) (e::es) [] pos) (yh C m sp dvs E ta t):=by
 intro pins s LQ H Q I h;refine PySem.W.methodCall_KW (pl:=pl) (dC (Y pins s LQ H _ I h) λ u Z ⟨x,H1,J,rx,a,dx,fs,ex,ea,l,q⟩=>?_) ht;subst ex;obtain rfl:u=Value.ref a:=rx;refine uD J ea c hm l ?_;refine Om (first:=[.ref a]) (h₀:=X.base) I.ok.mod.om hm.kp (dC (N pos pins Z LQ H1 _ J q) λ us s2 ⟨vs,H2,G,r,q2⟩=>⟨G.lP,?_⟩) D B;exact yF (us:=.ref a::us) (vs:=.ref a::vs) F hr hb hd hx G (.cons rfl r) q2
theorem Fd (J:PE X o ta)(c:nq X.K C)(hm:Meth X.K C m f)(F:dB X.prog X.w X.K X.mg X.base CX k f fd ps sp)(Y:fP k X.A)(hb:Binds X.K fd ps ds)(hd:Vals dvs ds)(hx:Passes CX X E)
  (G:eval (.Call (.Attribute o m apos) [] [] pos) X.env=(do
   let ov <-eval o X.env
   standAt apos.atName
   let (f,first) <-holding [ov] (getMethod ov m pl)
   callWith pos f first (backTo pos (starEach [] X.env)) (backToKw pos (keywordEach [] X.env))):=by rfl) :
  PE X (.Call (.Attribute o m apos) [] [] pos) (yh C m sp dvs E ta oZ):=by
 intro pins s LQ H Q I h;refine PySem.W.methodCall_KW (pl:=pl) (dC (J pins s LQ H _ I h) λ u Z ⟨x,H1,B,D,a,dx,fs,ex,N,l,q⟩=>?_) G;subst ex;obtain rfl:u=Value.ref a:=D;refine uD B N c hm l ?_;exact PySem.W.callWith_K0 (first:=[.ref a]) B.lP hm.kp (yF (us:=[.ref a]) (vs:=[.ref a]) F Y hb hd hx B (.cons rfl .nil) q)
structure Mk (K:LV) (C f:Addr):Prop where
 makes:NA K C=true
 init:Mp K (.ref C) "__init__" = some (some (.ref f))
 fn:Nz K (.ref f)=true
 kp:MQ K (.ref C)=true
theorem Fe {LQ : St}{H:Hp}{Q:VK}{vs:List V}(M:Mk X.K C f)(F:dB X.prog X.w X.K X.mg X.base CX k f fd ps sp)(N:fP (k+1) X.A)(hb:Binds X.K fd ps ds)(hd:Vals dvs ds)
  (hx:Passes CX X E) (I:Inv X pins LQ H s) (r:Vals vs us)
  (h:∀x dx,H x=none->H dx=none->dx≠x->sp (.ref x::(vs++dvs)) (upd (upd H dx (.own x)) x (.ins C dx [])) (λ v H2=>v=.eu/\Q (.ref x) H2) E) :
  wpAny (model X.prog X.w) X.A (call (.ref C) us) (EP X pins LQ Q) X.xe s:=by
 have hq:=h (s.heap.objs.size+1) s.heap.objs.size (I.de.fresh (MJ _)) (I.de.fresh (LW _)) (L5 (MG _));have D:=Inv.made (C:=C) I;have G:Vals (V.ref (s.heap.objs.size+1)::(vs++dvs)) (Value.ref (s.heap.objs.size+1)::(us++ds)):=.cons rfl (r.append hd);have Z:(Value.ref (s.heap.objs.size+1)::us++ds).length=ps.length:=by
  have e:=G.length;rw[F.len _ _ _ _ hq] at e;exact e.symm
 refine wpAny_call (Fb (f:=f) I.lP M.makes M.init (beq_iff_eq.mp M.fn) (OJ (F.run _ X.stack _ _ ⟨Value.ref (s.heap.objs.size+1)::us,[]⟩ (Value.ref (s.heap.objs.size+1)::(us++ds)) _ _ E (N.make C us [])
  (D.Jo.make C us []) (hb _ (Value.ref (s.heap.objs.size+1)::us) D.lP Z) G hq) λ r s' B=>?_))
 cases r with
 | error e=>exact hx pins LQ _ _ e s' D B
 | ok fl =>
  cases fl with
  | ret u =>
   obtain⟨v,H',J,Y,ev,q3⟩:=D.after B;subst ev;exact⟨Y,⟨V.ref (s.heap.objs.size+1),H',J,rfl,q3⟩⟩
  | next=>exact False.elim B
  | brk=>exact False.elim B
  | cont=>exact False.elim B
theorem Hz (M:Mk X.K C f)(F:dB X.prog X.w X.K X.mg X.base CX k f fd ps sp)(Z:fP (k+1) X.A)(N:Gl X x)(hm:X.mg x=some (.ref C))(hb:Binds X.K fd ps ds)(hd:Vals dvs ds)(hx:Passes CX X E)
  (J:PA X (e::es) t) (B:(x == ("__debug__" : Str))=false:=by decide) (Y:starEach (e::es) X.env=(false,eval e X.env)::starEach es X.env:=by rfl) (D:(backTo pos (starEach es X.env)).any (·.1)=false:=by rfl) :
  PE X (.Call (.Name x p) (e::es) [] pos) (GU C sp dvs E t):=by
 intro pins s LQ H Q I h;refine OL (vD I N hm ?_ B);refine Om (h₀:=X.base) I.ok.mod.om M.kp (dC (J pos pins s LQ H _ I h) λ us s1 ⟨vs,H1,G,r,q⟩=>⟨G.lP,?_⟩) Y D;exact Fe M F Z hb hd hx G r q
end
section
variable {X:Cx}{CX:qB}{k:Nat}{f C:Addr}{fd:FuncData}{ps ks:List Str}{sp:Sp}{E:XK}{x m:Str}{p pos apos kpos:Pos}{e o:Expr}{es:List Expr}{kws:List Keyword}{te ta:TE}{t tk:TA}{nm:Option Str}
variable {g:List Value->List Value->List Value}{gV:List V->List V->List V}
end
structure cQ (N P:List Str) (sc:Scope):Prop where
 kind:sc.kind=.function
 co:sc.isCoroutine=false
 gen:sc.isGenerator=false
 nd:N.Nodup
 pre:N.take P.length=P
 par:∀x∈P,sc.names.lookup x=some .local\/sc.names.lookup x=some .cell
 Jp:∀y∈sc.names,y.2≠.free
theorem wU {B:Str->Option NameKind}{x:Str}:∀{binds:List (Str×Value)} {m:Z2},(∀v,(x,v)∉binds)->bindL B binds m x=m x
 | [],_,_=>rfl
 | (n,v)::r,m,h=>by
  unfold bindL;rw[wU λ w D=>h w (Mc _ D)];split
  ·have:x≠n:=by rintro rfl;exact h v L9
   simp[this]
  ·rfl
theorem wV {B:Str->Option NameKind}{x:Str}:∀{binds:List (Str×Value)} {m:Z2},(∀v,(x,v)∉binds)->bindC B binds m x=m x
 | [],_,_=>rfl
 | (n,v)::r,m,h=>by
  unfold bindC;rw[wV λ w D=>h w (Mc _ D)];split
  ·rfl
  ·have:x≠n:=by rintro rfl;exact h v L9
   simp[this]
theorem wW {B:Str->Option NameKind}{x:Str}{v:Value}:∀{P:List Str} {vs:List Value} {i:Nat} {m:Z2},P.Nodup->P[i]?=some x->vs[i]?=some v->B x=some .local ->
  bindL B (P.zip vs) m x=some v
 | [],_,_,_,_,h,_,_=>by simp at h
 | _::_,[],_,_,_,_,h,_=>by simp at h
 | p::P,w::vs,0,m,nd,h1,h2,hk=>by
  simp at h1 h2;subst h1;subst h2;show bindL B ((p,w)::P.zip vs) m p=_;unfold bindL;rw[wU λ v D=>(M5.mp nd).1 (NV D).1,if_pos hk];simp
 | p::P,w::vs,i+1,m,nd,h1,h2,hk=>by
  show bindL B ((p,w)::P.zip vs) m x=_;unfold bindL;exact wW (i:=i) (M5.mp nd).2 (by simpa using h1) (by simpa using h2) hk
theorem wX {B:Str->Option NameKind}{x:Str}{v:Value}:∀{P:List Str} {vs:List Value} {i:Nat} {m:Z2},P.Nodup->P[i]?=some x->vs[i]?=some v->B x≠some .local ->
  bindC B (P.zip vs) m x=some v
 | [],_,_,_,_,h,_,_=>by simp at h
 | _::_,[],_,_,_,_,h,_=>by simp at h
 | p::P,w::vs,0,m,nd,h1,h2,hk=>by
  simp at h1 h2;subst h1;subst h2;show bindC B ((p,w)::P.zip vs) m p=_;unfold bindC;rw[wV λ v D=>(M5.mp nd).1 (NV D).1,if_neg hk];simp
 | p::P,w::vs,i+1,m,nd,h1,h2,hk=>by
  show bindC B ((p,w)::P.zip vs) m x=_;unfold bindC;exact wX (i:=i) (M5.mp nd).2 (by simpa using h1) (by simpa using h2) hk
def start (N:List Str)(vs:List V):St:=vs.map some++NW (N.length-vs.length) none
def tM (CX:qB)(P:Program)(w:World)(K:LV)(mg:Z2)(base:Heap)(N:List Str)(qual:Str)(scope:Scope)(f:Addr)(cd:Value)(A:Around)(outer:List Env)(s:Shared)(H:Hp)(E:XK):Cx where
 prog:=P
 w:=w
 K:=K
 mg:=mg
 base:=base
 A:=A.deeper (envOfC qual scope s.heap.objs.size f cd)
 N:=N
 ie:=s
 yr:=H
 env:=envOfC qual scope s.heap.objs.size f cd
 outer:=outer
 stack:=envOfC qual scope s.heap.objs.size f cd::outer
 ex:=[]
 calm:=true
 fn:=λ _=>true
 pn:=[]
 xe:=λ e s'=>wpAny (model P w) (A.deeper (envOfC qual scope s.heap.objs.size f cd)) (leaving (envOfC qual scope s.heap.objs.size f cd) e) (λ _ s''=>CX outer H s E e s'') (λ e' s''=>CX outer H s E e' s'') s'
theorem yG {B:Scope}{n:Nat}(h:B.names.lookup x=some .cell):∃c,(cellsFrom n B.names []).lookup x=some c:=by
 have q:=PySem.W.cellsFrom_some B.names n [] (.inl h);exact Option.isSome_iff_exists.mp q
theorem Dc {CX:qB}{B:Str}{f:Addr}{Y:Value}{s1:Shared}{H:Hp}{E:XK}{vs:List V}
  (S:cQ N ps scope) (hd:A.handled=none) (D:tL P w K mg base A outer s H) (hl:vs.length=ps.length) (r:Vals vs us)
  (x:InCallC s s.heap.objs.size (bindL (envOfC B scope s.heap.objs.size f Y).kindOf (ps.zip us) λ _=>none) (cellsFrom (s.heap.objs.size+1) scope.names []) (bindC (envOfC B scope s.heap.objs.size f Y).kindOf (ps.zip us) λ _=>none) s1) :
  Inv (tM CX P w K mg base N B scope f Y A outer s H E) [] (start N vs) H s1:=by
 have a0:ps.length<=N.length:=by have:=congrArg Nc S.pre;rw[Mu] at this;omega
 obtain⟨h1,tk,rfl,Z⟩:=x.done;have G:∀b:Addr,b∉(tM CX P w K mg base N B scope f Y A outer s H E).ex:=λ b z=>absurd (show b∈([]:List Addr) from z) (by simp)
 refine⟨⟨D.mod,S.kind,rfl,rfl,LW _,λ y z c h1 h2=>?_,λ y hy=>?_,λ y c _ h=>?_,λ _=>hd,Around.frames_deeper D.frames,.inr ⟨rfl,rfl⟩,λ b z=>absurd z (G b),D.bs,D.uz,λ b _ _=>G b,λ b z=>absurd z (G b),D.me,D.yu⟩,
  rfl,D.bare,Un.kept Z,⟨_,x.toInCall.ns,λ i y v h1 h2 h3=>?_⟩,λ y c h=>⟨_,x.cell y c h⟩,D.de.fresh (LW _),λ y c h=>?_,λ p hp=>absurd (show p∈([]:Z1) from hp) (by simp),D.de.kept Z,?_⟩
 ·exact name_of_addr x.apart (PySem.mem_of_lookup h1) (PySem.mem_of_lookup h2)
 ·have hy:scope.names.lookup y=some .cell\/scope.names.lookup y=some .free:=hy
  rcases hy with hy | hy
  ·exact yG hy
  ·exact absurd rfl (S.Jp _ (PySem.mem_of_lookup hy))
 ·exact Mr (x.above y c (PySem.mem_of_lookup h))
 ·have hi:i<vs.length:=by
   unfold start at h2;by_cases hi:i<vs.length
   ·exact hi
   ·rw[M6 (by simpa using hi)] at h2;rw[Oo] at h2;split at h2<;>cases h2
  have ha:vs[i]?=some v:=by
   unfold start at h2;rw[MM (by simpa using hi),L6] at h2;cases e:vs[i]? with
   | none=>rw[e] at h2;cases h2
   | some a=>rw[e] at h2;cases h2;rfl
  obtain⟨u,hu,rv⟩:=r.get ha;have hp:ps[i]?=some y:=by
   rw[<-S.pre,List.getElem?_take_of_lt ⋯];exact h1
  have J:ps.Nodup:=by rw[<-S.pre];exact S.nd.sublist (List.take_sublist _ _)
  exists u,rv
  rcases S.par y (L8 hp) with k | k
  ·exact .inl ⟨k,wW J hp hu k⟩
  ·obtain⟨c,e⟩:=yG (n:=s.heap.objs.size+1) k;refine .inr ⟨.inl k,c,e,?_⟩;have q:=x.cell y c e;rw[wX J hp hu (by show scope.names.lookup y≠_;rw[k];decide)] at q;exact q
 ·exact D.de.fresh (Mr (x.above y c (PySem.mem_of_lookup h)))
 ·unfold start;show _=N.length;rw[LY,LU,Nl];omega
theorem GV {CX:qB}{k:Nat}{f:Addr}{name B:Str}{G:Arguments}{Y:List Stmt}{dV kV a4 pm D ct oc:Value}{an od:Option Addr}
  {a5:Z3}  {sp:Sp} (lk:K.lookup f=some ⟨oc,od,.func (MC name B G Y scope dV kV a4 pm an D ct),a5⟩) (a7:Nd K D B=true) (S:cQ N ps scope)
  (len:∀vs H Q E,sp vs H Q E->vs.length=ps.length)
  (a1:∀(A:Around) (outer:List Env) (s:Shared) (H:Hp) (vs:List V) (Q:VK) (E:XK),fP k (A.deeper (envOfC B scope s.heap.objs.size f D))->sp vs H Q E ->
   ∃t,ni (tM CX P w K mg base N B scope f D A outer s H E) Y t/\t { nx:=λ _ H'=>Q .eu H',rt:=Q } (start N vs) H) :
  dB P w K mg base CX (k+1) f (MC name B G Y scope dV kV a4 pm an D ct) ps sp:=by
 refine⟨len,λ A outer s H args us vs Q E hr e0 hb r a3=>?_⟩;have hl:=len _ _ _ _ a3;have KX:K.In s.heap:=e0.mod.om.keeps λ b o e=>(e0.bs b o e).1
 have a6:s.heap.NoLimit:=e0.mod.nolimit.keeps λ b o e=>(e0.bs b o e).1
 have a0:∀y∈ps.zip us,scope.names.lookup y.1=some .local\/(scope.names.lookup y.1=some .cell/\((cellsFrom (s.heap.objs.size+1) scope.names []).lookup y.1).isSome=true):=λ ⟨n,v⟩ hy=>by
  rcases S.par n (NV hy).1 with q | q
  ·exact .inl q
  ·exact .inr ⟨q,PySem.W.cellsFrom_some _ _ _ (.inl q)⟩
 refine codeAny_call_function hr.depth (KX _ _ lk) rfl S.co S.gen rfl (PySem.W.codeRec_of KX a7) (hb _ _ _ _ ?_);refine wpAny_newFunctionEnv_cells S.kind a0 λ env he s1 x=>?_
 subst he;refine⟨a6.keeps x.toInCall.keep,codeAny_func ?_⟩;obtain⟨t,ht,hq⟩:=a1 A outer s H vs Q E (hr.deeper _) a3;have I:Inv (tM CX P w K mg base N B scope f D A outer s H E) [] (start N vs) H s1:=Dc S hr.hd e0 hl r x;refine OB (ht [] s1 (start N vs) H _ I hq) (λ fl s' hs=>?_) λ e s' hs=>hs
 have a2:∀{Z:St} {H':Hp} {v:V} {u:Value},Inv (tM CX P w K mg base N B scope f D A outer s H E) [] Z H' s'->RelV v u->Q v H'->CE outer P w H s Q u s' :=
  λ {Z H' v u} J rv q=>⟨v,H',J.os,J.bare,J.base,J.de,rv,q⟩
 cases fl with
 | ret u =>
  obtain⟨v,Z,H',J,rv,q⟩:=hs;exact a2 J rv q
 | next =>
  obtain⟨Z,H',J,q⟩:=hs;exact a2 (v:=V.eu) (u:=Value.none) J rfl q
 | brk =>
  obtain⟨_,_,_,q⟩:=hs;exact False.elim q
 | cont =>
  obtain⟨_,_,_,q⟩:=hs;exact False.elim q
section
variable {X:Cx}{x:Str}{p pos:Pos}{e:Expr}{es:List Expr}{t:TA}{id T:String}{r:List V->Hp->VK->Prop}
def Jq (r:List V->Hp->VK->Prop)(t:TA):TE:=λ LQ H Q=>t LQ H λ vs H1=>r vs H1 Q
theorem cY (J:il X (.builtin id) r) (Z:Gl X x) (hm:X.mg x=none) (N:bootBuiltins x=some (.builtin id)) (G:PA X (e::es) t) (hn:x ≠ "__name__" := by decide) (B:(x == ("__debug__" : Str))=false:=by decide)
  (he:starEach (e::es) X.env=(false,eval e X.env)::starEach es X.env:=by rfl) (D:(backTo pos (starEach es X.env)).any (·.1)=false:=by rfl):PE X (.Call (.Name x p) (e::es) [] pos) (Jq r t):=by
 intro pins s LQ H Q I h;refine OL (jJ I Z hm N ?_ hn B);exact PyProof.Rows.callWith_builtin1 (dC (G pos pins s LQ H _ I h) λ us s1 ⟨vs,H1,Y,r1,q1⟩=>J pins s1 LQ H1 vs us Q Y r1 q1) he D
theorem cZ (J:il X (.type T) r) (Z:Gl X x) (hm:X.mg x=none) (N:bootBuiltins x=some (.type T)) (G:PA X (e::es) t) (hn:x ≠ "__name__" := by decide) (B:(x == ("__debug__" : Str))=false:=by decide)
  (he:starEach (e::es) X.env=(false,eval e X.env)::starEach es X.env:=by rfl) (D:(backTo pos (starEach es X.env)).any (·.1)=false:=by rfl):PE X (.Call (.Name x p) (e::es) [] pos) (Jq r t):=by
 intro pins s LQ H Q I h;refine OL (jJ I Z hm N ?_ hn B);exact PyProof.Rows.callWith_type1 (dC (G pos pins s LQ H _ I h) λ us s1 ⟨vs,H1,Y,r1,q1⟩=>J pins s1 LQ H1 vs us Q Y r1 q1) he D
theorem BH (G:il X (.type T) r) (D:Gl X x) (hm:X.mg x=none) (J:bootBuiltins x=some (.type T)) (hn:x ≠ "__name__" := by decide) (B:(x == ("__debug__" : Str))=false:=by decide) :
  PE X (.Call (.Name x p) [] [] pos) (Jq r oZ):=by
 intro pins s LQ H Q I h;refine OL (jJ I D hm J ?_ hn B);exact PyProof.Rows.callWith_type0 (G pins s LQ H [] [] Q I .nil h)
end
end L2
namespace HT
open PySem PyProof.Rows
variable {lo hi:Option Int}{t sl:Addr}{Q:Z0}
section
open PySem.SeqAt
open PySem.AutoSeq1 (wpAny_loadPart')
open PySem.MeetsSeq PySem.MeetsSeq2 PySem.MeetsSeq3
end
section
variable {prog:Program}{w:World}{A:Around}{E:Z0}{s:Shared}
theorem HB {b:Addr}{vs B:List Value}(ht:IsTup s.heap t vs.toArray)(hb:IsTup s.heap b B.toArray)(hv:vs≠[])
  (h1:B=[]->Q (.ref t) s) (h2:B≠[]->Q (.ref s.heap.objs.size) { s with heap:=s.heap.push { cls:=.type "tuple",data:=.seq (vs++B).toArray } })
  (hsz:vs.length+B.length<=sizeLine):wpAny (model prog w) A (binaryOp .Add (.ref t) (.ref b)) Q E s:=by
 obtain⟨⟨cls,dd,data,sl⟩,ho,hc,n,hd⟩:=id ht;obtain⟨⟨a0,G,Z,J⟩,D,N,n2,Y⟩:=id hb;simp only at hc hd N Y;subst hc hd N Y;have e:vs.toArray++B.toArray=(vs++B).toArray:=by simp
 by_cases hw:B=[]
 ·exact concat_meets ⟨_,ho,rfl⟩ ⟨_,D,rfl⟩ noFill_tuple_add seq_tuple_add PySem.F.slot_tuple_add PySem.F.entry_tuple_add (PySem.F.args_tuple_add_2 _ _)
   (tuple_addW1 t b vs.toArray B.toArray n n2 dd G sl J (by simpa using hv) (by simp[hw])) ⟨ho,D,h1 hw⟩
 ·refine concat_meets ⟨_,ho,rfl⟩ ⟨_,D,rfl⟩ noFill_tuple_add seq_tuple_add PySem.F.slot_tuple_add PySem.F.entry_tuple_add (PySem.F.args_tuple_add_2 _ _)
   (tuple_addW2 t b vs.toArray B.toArray n n2 dd G sl J (by simpa using hv) (by simpa using hw) (by rw[Mi,Mi];exact hsz)) ⟨ho,D,?_⟩
  rw[e];exact h2 hw
def fb (n d:Nat):Option Int->Nat
 | none=>d
 | some v=>if v<0 then (v+(n:Int)).toNat else min v.toNat n
theorem tN (n d:Nat):fb n d none=d:=rfl
theorem rR (n d k:Nat):fb n d (some (k:Int))=min k n:=by
 show (if (k:Int)<0 then ((k:Int)+(n:Int)).toNat else min (k:Int).toNat n)=min k n;rw[if_neg ⋯,M7]
theorem Jr (n d:Nat)(hd:d<=n)(o:Option Int):fb n d o<=n:=by
 cases o with
 | none=>exact hd
 | some v =>
  show (if v<0 then (v+(n:Int)).toNat else min v.toNat n)<=n;by_cases hv:v<0
  ·rw[if_pos hv];omega
  ·rw[if_neg hv];exact Nat.min_le_right _ _
theorem As (v:Int)(n d:Nat):(if v<0 then max (v+(n:Int)) 0 else min v (n:Int))=((fb n d (some v):Nat):Int):=by
 show (if v<0 then max (v+(n:Int)) 0 else min v (n:Int))=(((if v<0 then (v+(n:Int)).toNat else min v.toNat n):Nat):Int);by_cases hv:v<0
 ·simp only[if_pos hv];omega
 ·simp only[if_neg hv];omega
theorem BI (lo hi:Option Int)(n:Nat):Builtin.Slice.sliceAdjust lo hi 1 (n:Int)=(((fb n 0 lo:Nat):Int),((fb n n hi:Nat):Int)):=by
 have h1:¬((1:Int)<0):=by omega
 unfold Builtin.Slice.sliceAdjust;simp only[h1,if_false];refine Prod.ext ?_ ?_
 ·cases lo with
  | none=>rfl
  | some v=>exact As v n 0
 ·cases hi with
  | none=>rfl
  | some v=>exact As v n n
theorem BJ (i j:Nat):Builtin.Slice.slicePlaces (i:Int) (j:Int) 1=j-i:=by
 unfold Builtin.Slice.slicePlaces;have h1:(1:Int) > 0:=by omega
 simp only[h1,if_true,Int.ediv_one];split<;>omega
theorem uF {v:Value}{o:Option Int}{Q:Option Int->Shared->Prop}(p:IsPart v o)(h:Q o s):wpAny (model prog w) A (Builtin.Slice.slicePartIndex v) Q E s:=by
 cases p with
 | none=>exact slicePart_none h
 | int i t=>exact slicePart_int h
theorem mP {G J:Value}{n:Nat}{Q:Int×Int×Nat->Shared->Prop}(Z:s.heap.IsSliceOf sl G J .none)(pl:IsPart G lo)(N:IsPart J hi)
  (h:Q (((fb n 0 lo:Nat):Int),1,fb n n hi-fb n 0 lo) s):wpAny (model prog w) A (Builtin.Slice.sliceApplied (.ref sl) (pure (n:Int))) Q E s:=by
 obtain⟨os,B,Y,D⟩:=id Z;unfold Builtin.Slice.sliceApplied Builtin.Slice.sliceFields;refine Oz (Oz (OF B D (x:=G) rfl (Oz (OF B D (x:=J) rfl (Oz (OF B D (x:=.none) rfl (OA ?_)))))));refine Oz (slicePart_none ?_);show wpAny _ _ (if ((1:Int) == 0)=true then _ else _) _ _ s;rw[if_neg ⋯];refine Oz (uF pl (Oz (uF N (Oz (OA ?_)))));show wpAny _ _ (match Builtin.Slice.sliceAdjust lo hi 1 (n:Int) with | (lo,hi)=>pure (lo,(1:Int),Builtin.Slice.slicePlaces lo hi 1)) _ _ s;rw[BI lo hi n];show wpAny _ _ (pure (((fb n 0 lo:Nat):Int),(1:Int),Builtin.Slice.slicePlaces ((fb n 0 lo:Nat):Int) ((fb n n hi:Nat):Int) 1)) _ _ s;rw[BJ];exact OA h
theorem Ff (xs:Array Value)(i k:Nat):((L1 k).filterMap λ (m:Nat)=>xs[((i:Int)+(m:Int)*1).toNat]?).toArray=((xs.toList.drop i).take k).toArray:=by
 have e:(λ (m:Nat)=>xs[((i:Int)+(m:Int)*1).toNat]?)=λ m=>xs[i+m]?:=by
  funext m
  have:((i:Int)+(m:Int)*1).toNat=i+m:=by omega
  rw[this]
 rw[e];have:=pick_run xs i k;rw[List.filterMap_map] at this;have B:((λ x=>xs[x]?) ∘ λ x=>i+x)=λ m=>xs[i+m]?:=rfl
 rw[B] at this;rw[this]
theorem sG {items:Array Value}{vl vu:Value}(D:IsTup s.heap t items)(Z:s.heap.IsSliceOf sl vl vu .none)(pl:IsPart vl lo)(pu:IsPart vu hi)
  (hw:¬(fb items.size 0 lo=0/\fb items.size items.size hi=items.size))
  (h:Q (.ref s.heap.objs.size) { s with heap:=s.heap.push { cls:=.type "tuple",data:=.seq ((items.toList.drop (fb items.size 0 lo)).take (fb items.size items.size hi-fb items.size 0 lo)).toArray } })
  (hsz:items.size<=sizeLine):wpAny (model prog w) A (getItem (.ref t) (.ref sl)) Q E s:=by
 have B:sizeOk (.seq ((items.toList.drop (fb items.size 0 lo)).take (fb items.size items.size hi-fb items.size 0 lo)).toArray):=by
  show ((items.toList.drop (fb items.size 0 lo)).take (fb items.size items.size hi-fb items.size 0 lo)).toArray.size<=sizeLine;rw[Mi,Mu,NB,MD];omega
 have hj:fb items.size items.size hi<=items.size:=Jr _ _ (LW _) hi;obtain⟨os,J,Y,a0⟩:=id Z;have G:s.TypeIs (.ref sl) "slice" := ⟨os,J,Y⟩;unfold getItem
 try with_reducible refine OC ?_
 first | refine Oz (OA ?_) | skip
 refine Oz (O7 D.typeIs ⋯ ?_);refine Oz (wpAny_callSpecial?_slot (name:=Str.ofString "__getitem__") D.typeIs PyProof.Rows.slot_tuple_getitem
  (OE PyProof.Rows.slot_tuple_getitem D.typeIs entry_tuple_getitem ?_ (args_tuple_getitem _ _)))
 show wpAny _ _ (Builtin.Tuple.tupleItemsOf (.ref t) >>= _) _ _ s;refine Oz (tupleItemsOf_ D ?_);refine Oz (ON G ?_);rw[if_pos ⋯];refine Oz (mP Z pl pu ?_);have N:¬((((fb items.size 0 lo:Nat):Int) == 0&&(1:Int) == 1&&(fb items.size items.size hi-fb items.size 0 lo) == items.size)=true):=by
  intro q;rw[MA,MA] at q;have q1:((fb items.size 0 lo:Nat):Int)=0:=eq_of_beq q.1.1;have q2:fb items.size items.size hi-fb items.size 0 lo=items.size:=eq_of_beq q.2;exact hw ⟨by omega,by omega⟩
 show wpAny _ _ (if (((fb items.size 0 lo:Nat):Int) == 0&&(1:Int) == 1&&(fb items.size items.size hi-fb items.size 0 lo) == items.size)=true then _ else _) _ _ s;rw[if_neg N,Ff]
 first
  | exact Oz (m:=Builtin.Tuple.tupleExact _) (OD (OA ⟨_,rfl,OA h⟩) B)
  | exact Oz (m:=Builtin.Tuple.tupleExact _) (OD (Oz (OA (OA ⟨_,rfl,OA h⟩))) B)
  | exact Oz (Oz (m:=Builtin.Tuple.tupleExact _) (OD (OA (OA ⟨_,rfl,OA h⟩)) B))
  | exact Oz (Oz (m:=Builtin.Tuple.tupleExact _) (OD (OA ⟨_,rfl,OA h⟩) B))
end
end HT
namespace L2
open PySem PySem.Spec PyProof.Rows
variable {s:Shared}{its:List Value}{n:Nat}{xs:List V}{u v:Value}{i:Int}{pins:Z1}{H:Hp}{x y:V}
abbrev TO:=St->Hp->(Option Int->Hp->Prop)->Prop
def PO (X:Cx)(e:Option Expr)(t:TO):Prop :=
 ∀(pins:Z1) (s:Shared) (LQ : St) (H:Hp) (Q:Option Int->Hp->Prop),Inv X pins LQ H s->t LQ H Q ->
  wpAny (model X.prog X.w) X.A (evalPart e X.env) (λ u s'=>∃o H',Inv X pins LQ H' s'/\IsPart u o/\Q o H') X.xe s
def HE:TO:=λ _ H Q=>Q none H
inductive Fg (Q:(Option Int->Hp->Prop)) (x:V) (H1:Hp):Prop
 | mk (i:_) (_:x=.int i) (_:Q (some i) H1)
def Km (t:TE):TO:=λ LQ H Q=>t LQ H λ x H1=>Fg Q x H1
section
variable {X:Cx}{e:Expr}{te:TE}{lo hi:Option Expr}{tl th:TO}{pos p2:Pos}
theorem kN:PO X none HE:=by
 intro pins s LQ H Q I h;rw[evalPart_none];exact OA ⟨none,H,I,.none,h⟩
theorem kO (h:PE X e te):PO X (some e) (Km te):=by
 intro pins s LQ H Q I D;rw[evalPart_some];refine dC (h pins s LQ H _ I D) λ u J ⟨x,H1,B,G,q1⟩=>?_
 obtain⟨i,rfl,q⟩:=q1;obtain⟨t,rfl⟩:=G;exact⟨some i,H1,B,.int i t,q⟩
def Js (X:Cx)(r:V->Option Int->Option Int->Hp->VK->Prop):Prop :=
 ∀(pins:Z1) (s:Shared) (LQ : St) (H:Hp) (x:V) (v vl vu:Value) (lo hi:Option Int) (sl:Addr) (Q:VK),Inv X pins LQ H s->RelV x v->s.heap.IsSliceOf sl vl vu .none->IsPart vl lo->IsPart vu hi->r x lo hi H Q ->
  ∃T id,typeLookup (.type T) "__getitem__" = pure (some (.builtin id))/\s.TypeIs v T/\wpAny (model X.prog X.w) X.A (getItem v (.ref sl)) (EP X pins LQ Q) X.xe s
def LD (r:V->Option Int->Option Int->Hp->VK->Prop)(te:TE)(tl th:TO):TE:=λ LQ H Q=>te LQ H λ x H1=>tl LQ H1 λ l H2=>th LQ H2 λ u H3=>r x l u H3 Q
theorem jS {r:V->Option Int->Option Int->Hp->VK->Prop}(hr:Js X r)(Z:PE X e te)(hl:PO X lo tl)(hu:PO X hi th):PE X (.Subscript e (.Slice lo hi none p2) pos) (LD r te tl th):=by
 intro pins s LQ H Q I h;refine Subscript_ (dC (Z pins s LQ H _ I h) λ v s1 ⟨x,H1,I1,r1,q1⟩=>?_);refine wpAny_Slice (dC (hl pins s1 LQ H1 _ I1 q1) λ D s2 ⟨l,H2,I2,pl,q2⟩=>dC (hu pins s2 LQ H2 _ I2 q2) λ G B ⟨u,J,I3,Y,q3⟩=>?_);rw[evalPart_none];refine OA ?_;have I4:Inv X pins LQ J { B with heap:=B.heap.push { cls:=.type "slice",data:=.fields #[D,G,.none] } }:=I3.kept (t':=B.toks) λ b ob q=>L3 _ q
 obtain⟨T,id,N,ht,hg⟩:=hr pins { B with heap:=B.heap.push { cls:=.type "slice",data:=.fields #[D,G,.none] } } LQ J x v D G l u B.heap.objs.size Q I4 r1 (Heap.IsSliceOf.new ..) pl Y q3;show wpAny (model X.prog X.w) X.A (subscriptTail e (.Slice lo hi none p2) v (.ref B.heap.objs.size)) (EP X pins LQ Q) X.xe { B with heap:=B.heap.push { cls:=.type "slice",data:=.fields #[D,G,.none] } };exact tail_any (ops:=[.ref B.heap.objs.size,v]) ht N hg (by with_unfolding_all rfl)
def jT (xs:List V)(lo hi:Option Int):List V:=(xs.drop (HT.fb xs.length 0 lo)).take (HT.fb xs.length xs.length hi-HT.fb xs.length 0 lo)
theorem zS (xs:List V)(lo hi:Option Int):(jT xs lo hi).length<=xs.length:=by
 unfold jT;rw[Mu,NB];omega
inductive Lj (K:LV) (x:V) (lo:Option Int) (hi:Option Int) (H:Hp) (Q:VK):Prop
 | mk (a xs:_) (_:x=.ref a) (_:cE K H a xs) (_:¬(HT.fb xs.length 0 lo=0/\HT.fb xs.length xs.length hi=xs.length)) (_:∀p,H p=none->Q (.ref p) (upd H p (.tup (jT xs lo hi))))
theorem Jt:Js X (Lj X.K):=by
 intro pins s LQ H x v Z vu lo hi sl Q I G J pl N h;obtain⟨a,xs,rfl,hx,Y,q⟩:=h;cases G;obtain⟨its,r,D,hz⟩:=I.tuple hx;have B:its.toArray.size=xs.length:=by rw[Mi];exact r.length.symm
 exists "tuple",_,PyProof.Rows.slot_tuple_getitem.lookup,D.typeIs;refine HT.sG D J pl N (by rw[B];exact Y) ?_ (by rw[B];exact hz);rw[B];refine⟨.ref s.heap.objs.size,_,I.laid (t':=s.toks) (o:=.tup (jT xs lo hi)) (λ b ob q=>L3 _ q) (LW _) ?_,rfl,q _ (I.de.fresh (LW _))⟩;exact⟨Ma (zS xs lo hi) hz,_,(r.drop (HT.fb xs.length 0 lo)).take (HT.fb xs.length xs.length hi-HT.fb xs.length 0 lo),⟨_,L7 _ rfl,rfl,_,rfl,rfl⟩⟩
theorem Vals.vG {us:List Value}(r:Vals xs us):us=[]↔xs=[]:=by
 cases r with
 | nil=>simp
 | cons _ _=>simp
end
def p7 (n:Nat)(i:Int):Option Nat:=if 0<=i then (if i<n then some i.toNat else none) else if -(n:Int)<=i then some (i+n).toNat else none
def iL {α : Type}(xs:List α)(i:Int):Option α:=(p7 xs.length i).bind λ j=>xs[j]?
theorem Au {j:Nat}(h:p7 n i=some j):seqIndex? i n=some j/\j<n/\-(n:Int)<=i/\i<n:=by
 unfold p7 at h;by_cases h0:0<=i
 ·rw[if_pos h0] at h;by_cases h1:i<n
  ·rw[if_pos h1] at h;have e:i.toNat=j:=Mf.inj h;exact⟨by rw[seqIndex_of h0 h1,e],by omega,by omega,h1⟩
  ·rw[if_neg h1] at h;cases h
 ·rw[if_neg h0] at h;by_cases h1:-(n:Int)<=i
  ·rw[if_pos h1] at h;have e:(i+n).toNat=j:=Mf.inj h;exact⟨by rw[seqIndex_neg ⋯ h1,e],by omega,h1,by omega⟩
  ·rw[if_neg h1] at h;cases h
theorem vH {B:Type}{xs:List B}{v:B}(h:iL xs i=some v):∃j,seqIndex? i xs.length=some j/\xs[j]?=some v/\j<xs.length/\-(xs.length:Int)<=i/\i<xs.length:=by
 unfold iL at h;cases e:p7 xs.length i with
 | none=>rw[e] at h;cases h
 | some j =>
  rw[e] at h;obtain⟨h1,h2,G,D⟩:=Au e;exact⟨j,h1,h,h2,G,D⟩
theorem dN {B:Type}{xs:List B}{j:Nat}{v:B}(h:xs[j]?=some v):iL xs (j:Int)=some v:=by
 have D:j<xs.length:=(Md.mp h).1;have e:p7 xs.length (j:Int)=some j:=by
  unfold p7;rw[if_pos ⋯,if_pos ⋯];simp
 unfold iL;rw[e];exact h
def Av (b:Expr):Prop:=∀o i,subscripted b false o i=operate [o,i] (getItem o i)
def wY (X:Cx)(r:R2):Prop :=
 ∀(value slice:Expr) (pins:Z1) (s:Shared) (LQ : St) (H:Hp) (x y:V) (v u:Value) (Q:VK),Inv X pins LQ H s->RelV x v->RelV y u->r x y H Q ->
  subscripted slice false v u=operate [v,u] (getItem v u)->wpAny (model X.prog X.w) X.A (subscriptTail value slice v u) (EP X pins LQ Q) X.xe s
def Ju (X:Cx)(id:String)(r:V->List V->Hp->VK->Prop):Prop :=
 ∀(pins:Z1) (s:Shared) (LQ : St) (H:Hp) (x:V) (xs:List V) (v:Value) (us:List Value) (Q:VK),Inv X pins LQ H s->RelV x v->Vals xs us->r x xs H Q ->
  wpAny (model X.prog X.w) X.A (call (.builtin id) (v::us)) (EP X pins LQ Q) X.xe s
section
variable {X:Cx}{a b:Expr}{ta tb:TE}{pos:Pos}
theorem Kn {r:R2}(N:wY X r)(B:PE X a ta)(hb:PE X b tb)(G:Av b):PE X (.Subscript a b pos) (C5 r ta tb):=by
 intro pins s LQ H Q I h;exact Subscript_ (E4 B hb I h λ v u J x y H2 Y D Z q=>N a b pins J LQ H2 x y v u Q Y D Z q (G _ _))
inductive Jv (K:LV) (x:V) (y:V) (H:Hp) (Q:VK):Prop
 | mk (p xs i v:_) (_:x=.ref p) (_:y=.int i) (_:cN K H p xs) (_:iL xs i=some v) (_:Q v H)
inductive Fh (K:LV) (x:V) (y:V) (H:Hp) (Q:VK):Prop
 | mk (p xs i v:_) (_:x=.ref p) (_:y=.int i) (_:cE K H p xs) (_:iL xs i=some v) (_:Q v H)
inductive Lk  (x:V) (y:V) (H:Hp) (Q:VK):Prop
 | mk (z i c:_) (_:x=.str z) (_:y=.int i) (_:z.length<=sizeLine) (_:iL z.cps.toList i=some c) (_:Q (.str ⟨#[c]⟩) H)
theorem eY:wY X (Jv X.K):=by
 intro value D pins s LQ H x y v u Q I rx ry h N;obtain⟨p,xs,i,z,rfl,rfl,hq,he,q⟩:=h;cases rx;obtain⟨t,rfl⟩:=ry;obtain⟨its,r,pl,hz⟩:=I.list hq;obtain⟨j,h1,h2,h3,Z,h5⟩:=vH he;obtain⟨w,Y,G⟩:=r.get h2;have hl:=r.length;have hn:=mO;have B:EP X pins LQ Q w s:=⟨z,H,I,G,q⟩;by_cases h0:0<=i
 ·have J:i.toNat=j:=by
   rw[seqIndex_of h0 h5] at h1;exact Mf.inj h1
  exact item_listR pl.isList h0 ⋯ (by rw[J];simpa using Y) B N
 ·have J:(i+(its.toArray.size:Int)).toNat=j:=by
   rw[seqIndex_neg ⋯ Z] at h1;rw[Mi,<-hl];exact Mf.inj h1
  exact subscriptTail_builtinR (x:=w) pl.isList.typeIs slot_list_getitem.lookup
   (wpAny_getItem_list_neg (Q:=λ r s'=>r=w/\EP X pins LQ Q r s') pl.isList ⋯ (by rw[Mi]<;>omega) ⋯ (by rw[J];simpa using Y) ⟨rfl,B⟩) N
theorem df:wY X (Fh X.K):=by
 intro value D pins s LQ H x y v u Q I Y ry h Z;obtain⟨p,xs,i,z,rfl,rfl,hq,J,q⟩:=h;cases Y;obtain⟨t,rfl⟩:=ry;obtain⟨its,r,pl,hz⟩:=I.tuple hq;obtain⟨j,h1,h2,h3,h4,h5⟩:=vH J;obtain⟨w,ew,G⟩:=r.get h2;have N:=r.length;have hn:=mO;have B:EP X pins LQ Q w s:=⟨z,H,I,G,q⟩;exact subscriptTail_builtinR (x:=w) pl.typeIs slot_tuple_getitem.lookup
  (getItem_tuple (j:=j) (Q:=λ r s'=>r=w/\EP X pins LQ Q r s') pl ⋯ ⋯ (by rw[Mi,<-N];exact h1) (by simpa using ew) ⟨rfl,B⟩) Z
theorem uG:wY X Lk:=by
  intro value B pins s LQ H x y v u Q I D ry h N;obtain⟨z,i,c,rfl,rfl,hz,Y,q⟩:=h;obtain⟨t,rfl⟩:=D;obtain⟨t',rfl⟩:=ry;obtain⟨j,h1,h2,h3,G,h5⟩:=vH Y;have hl:z.cps.toList.length=z.length:=by simp[Str.length]
  rw[hl] at h1 G h5;have hn:=mO;exact tail_any (typeIs_str s z t) slot_str_getitem.lookup (getItem_str (c:=c) (by
    have J:decide (i < -(2 ^ 63:Int))=false:=decide_eq_false ⋯;have Z:decide (i >= 2 ^ 63)=false:=decide_eq_false ⋯;rw[J,Z,Bool.or_false]) (by rw[h1];simpa using h2) ⟨.str ⟨#[c]⟩,H,I.tok _,⟨_,rfl⟩,q⟩) N
theorem BK (its:List Value)(n j:Nat)(u:Value):Obj.mapSeq (·.setIfInBounds j u) { cls:=.type "list",data:=.seq its.toArray n } = { cls:=.type "list",data:=.seq (its.set j u).toArray n }:=by
 simp[Obj.mapSeq]
theorem Inv.lst {pins:Z1}{LQ : St}{H:Hp}{s:Shared}{p:Addr}{xs:List V}(I:Inv X pins LQ H s)(h:H p=some (.lst xs)) :
  ∃(its:List Value) (n:Nat),Vals xs its/\s.heap.get? p=some { cls:=.type "list",data:=.seq its.toArray n }/\xs.length<=sizeLine:=by
 obtain⟨z,its,n,r,e⟩:=I.de p _ h;exact⟨its,n,r,e,z⟩
theorem Inv.Jw {LQ : St}{p:Addr}{ys:List V}{its':List Value}{B:Nat}{f:Obj->Obj}(I:Inv X pins LQ H s)(h:H p=some (.lst xs))
  (ho:s.heap.get? p=some { cls:=.type "list",data:=.seq its.toArray n }) (hf:f { cls:=.type "list",data:=.seq its.toArray n } = { cls:=.type "list",data:=.seq its'.toArray B }) (r:Vals ys its') (hz:ys.length<=sizeLine) (t:Nat) :
  Inv X pins LQ (upd H p (.lst ys)) { s with heap:=s.heap.update p f,toks:=t }:=by
 have e:(s.heap.update p f).get? p=some { cls:=.type "list",data:=.seq its'.toArray B }:=by
  rw[MX f ho (by rw[hf]<;>rfl),hf]
 refine I.write (x:=p) (e:=p) (by rw[h];trivial) (.inl rfl) (λ b u hb q=>(MY _ _ (Ne.symm hb)).trans q) ⟨_,e⟩ ?_;exact⟨hz,its',B,r,e⟩
inductive Ko  (o:V) (i:V) (v:V) (H:Hp) (Q:(Hp->Prop)):Prop
 | mk (p xs k j:_) (_:o=.ref p) (_:i=.int k) (_:H p=some (.lst xs)) (_:p7 xs.length k=some j) (_:Q (upd H p (.lst (xs.set j v))))
theorem set_list:EW X Ko:=by
 intro pins s LQ H o i v ov iv u Q I ro Y Z h;obtain⟨p,xs,k,j,rfl,rfl,hp,hj,q⟩:=h;cases ro;obtain⟨t,rfl⟩:=Y;obtain⟨its,n,r,ho,hz⟩:=I.lst hp;obtain⟨h1,h2,J,G⟩:=Au hj;have B:=r.length;have hn:=mO;have N:Inv X pins LQ (upd H p (.lst (xs.set j v))) { s with heap:=s.heap.update p (Obj.mapSeq (·.setIfInBounds j u)) } :=
  I.Jw hp ho (BK its n j u) (r.set Z j) (by rw[NC];exact hz) s.toks
 by_cases h0:0<=k
 ·have D:k.toNat=j:=by
   rw[seqIndex_of h0 G] at h1;exact Mf.inj h1
  exact PySem.W.ki_setAt ho h0 ⋯ (by rw[Mi,<-B];exact G) (by rw[D];exact⟨_,N,q⟩)
 ·have D:(k+(its.toArray.size:Int)).toNat=j:=by
   rw[seqIndex_neg ⋯ J] at h1;rw[Mi,<-B];exact Mf.inj h1
  exact PySem.W.ki_setBack ho ⋯ (by rw[Mi,<-B];exact J) ⋯ (by rw[D];exact⟨_,N,q⟩)
def lL:V->Bool
 | .eu=>true
 | .bl _=>true
 | .int _=>true
 | .str _=>true
 | _=>false
def wZ:V->V->Bool
 | .eu,.eu=>true
 | .bl a,.bl b=>a == b
 | .bl a,.int b=>(if a then 1 else 0) == b
 | .int a,.bl b=>a == (if b then 1 else 0)
 | .int a,.int b=>a == b
 | .str a,.str b=>a == b
 | _,_=>false
theorem Jx {A:Around}(G:RelV y u)(B:RelV x v)(J:lL y=true)(D:lL x=true):SeqAt.EqAt A s u v (wZ y x):=by
 cases y with
 | eu =>
  cases G;cases x with
  | eu=>cases B;exact SeqAt.EqAt.same _
  | bl b=>cases B;exact SeqAt.EqAt.none_bool b
  | int b=>obtain⟨t,rfl⟩:=B;exact SeqAt.EqAt.none_int b t
  | str b=>obtain⟨t,rfl⟩:=B;exact SeqAt.EqAt.none_str b t
  | _=>exact absurd (show false=true from D) Mv
 | bl a =>
  cases G;cases x with
  | eu=>cases B;exact SeqAt.EqAt.bool_none a
  | bl b=>cases B;exact SeqAt.EqAt.bool_bool a b
  | int b=>obtain⟨t,rfl⟩:=B;exact SeqAt.EqAt.bool_int a b t
  | str b=>obtain⟨t,rfl⟩:=B;exact SeqAt.EqAt.bool_str a b t
  | _=>exact absurd (show false=true from D) Mv
 | int a =>
  obtain⟨t',rfl⟩:=G;cases x with
  | eu=>cases B;exact SeqAt.EqAt.int_none a t'
  | bl b=>cases B;exact SeqAt.EqAt.int_bool a t' b
  | int b=>obtain⟨t,rfl⟩:=B;exact SeqAt.EqAt.int_int a t' b t
  | str b=>obtain⟨t,rfl⟩:=B;exact SeqAt.EqAt.int_str a t' b t
  | _=>exact absurd (show false=true from D) Mv
 | str a =>
  obtain⟨t',rfl⟩:=G;cases x with
  | eu=>cases B;exact SeqAt.EqAt.str_none a t'
  | bl b=>cases B;exact SeqAt.EqAt.str_bool a t' b
  | int b=>obtain⟨t,rfl⟩:=B;exact SeqAt.EqAt.str_int a t' b t
  | str b=>obtain⟨t,rfl⟩:=B;exact SeqAt.EqAt.str_str a t' b t
  | _=>exact absurd (show false=true from D) Mv
 | _=>exact absurd (show false=true from J) Mv
def mQ (x:V)(u:Value):Bool:=match u with
 | .none=>wZ .eu x
 | .bool b=>wZ (.bl b) x
 | .int i _=>wZ (.int i) x
 | .str z _=>wZ (.str z) x
 | _=>false
theorem Dd (r:RelV y u)(f:lL y=true):mQ x u=wZ y x:=by
 cases y with
 | eu=>cases r;rfl
 | bl b=>cases r;rfl
 | int i=>obtain⟨t,rfl⟩:=r;rfl
 | str z=>obtain⟨t,rfl⟩:=r;rfl
 | _=>exact absurd (show false=true from f) Mv
theorem ox {x:V}:∀{xs:List V} {us:List Value},Vals xs us->xs.all lL=true->us.any (mQ x)=xs.any λ y=>wZ y x
 | _,_,.nil,_=>rfl
 | y::xs,u::us,.cons r t,f=>by
  rw[List.all_cons,MA] at f;rw[ND,ND,Dd r f.1,ox t f.2]
theorem mR {A:Around}{s:Shared}{x:V}{v:Value}(D:RelV x v)(B:lL x=true):∀{xs:List V} {us:List Value},Vals xs us->xs.all lL=true->∀u∈us,SeqAt.EqAt A s u v (mQ x u)
 | _,_,.nil,_=>λ u hu=>by cases hu
 | y::xs,u::us,.cons r t,f=>λ G hu=>by
  rw[List.all_cons,MA] at f
  rcases LZ.mp hu with rfl | hu
  ·rw[Dd r f.1];exact Jx r D f.1 B
  ·exact mR D B t f.2 G hu
def w5 (x:V)(xs:List V):Bool:=xs.any λ y=>wZ y x
inductive KI (K:LV) (neg:Bool) (x:V) (y:V) (H:Hp) (Q:VK):Prop
 | mk (p xs:_) (_:y=.ref p) (_:(cN K H p xs\/cE K H p xs)) (_:lL x=true) (_:xs.all lL=true) (_:Q (.bl (if neg then !w5 x xs else w5 x xs)) H)
theorem w6:iK X (compareOp .In) (KI X.K false):=by
 intro pins s LQ H x y v u Q I G J h;obtain⟨p,xs,rfl,hq,D,fs,q⟩:=h;cases J
 rcases hq with hq | hq
 ·obtain⟨its,r,pl,hz⟩:=I.list hq;refine SeqAt.in_listAt (mQ x) pl.isList (λ w B=>mR G D r fs w (by simpa using B)) ⟨.bl _,H,I,rfl,?_⟩;rw[show its.toArray.any (mQ x)=its.any (mQ x) by simp,ox r fs];exact q
 ·obtain⟨its,r,pl,hz⟩:=I.tuple hq;refine SeqAt.in_tupleAt (mQ x) pl (λ w B=>mR G D r fs w (by simpa using B)) ⟨.bl _,H,I,rfl,?_⟩;rw[show its.toArray.any (mQ x)=its.any (mQ x) by simp,ox r fs];exact q
theorem yH:iK X (compareOp .NotIn) (KI X.K true):=by
 intro pins s LQ H x y v u Q I G J h;obtain⟨p,xs,rfl,hq,D,fs,q⟩:=h;cases J
 rcases hq with hq | hq
 ·obtain⟨its,r,pl,hz⟩:=I.list hq;refine SeqAt.notIn_listAt (mQ x) pl.isList (λ w B=>mR G D r fs w (by simpa using B)) ⟨.bl _,H,I,rfl,?_⟩;rw[show its.toArray.any (mQ x)=its.any (mQ x) by simp,ox r fs];exact q
 ·obtain⟨its,r,pl,hz⟩:=I.tuple hq;refine SeqAt.notIn_tupleAt (mQ x) pl (λ w B=>mR G D r fs w (by simpa using B)) ⟨.bl _,H,I,rfl,?_⟩;rw[show its.toArray.any (mQ x)=its.any (mQ x) by simp,ox r fs];exact q
theorem cM:il X (.builtin "len") (λ xs H Q=>∃p ys,xs=[.ref p]/\(cN X.K H p ys\/cE X.K H p ys)/\Q (.int ys.length) H):=by
 intro pins s LQ H xs us Q I r h;obtain⟨p,ys,rfl,hq,q⟩:=h;obtain⟨u,rfl,G⟩:=vals1 r;cases G;have hn:=mO
 rcases hq with hq | hq
 ·obtain⟨its,D,pl,hz⟩:=I.list hq;have B:=D.length;exact Calls.call_len_list pl.isList (by simp only[Mi]<;>omega) ⟨.int ys.length,H,I.tok _,⟨s.toks+1,by rw[Mi,B]⟩,q⟩
 ·obtain⟨its,D,pl,hz⟩:=I.tuple hq;have B:=D.length;exact len_tuple pl (by simp only[Mi]<;>omega) ⟨.int ys.length,H,I.tok _,⟨s.toks+1,by rw[Mi,B]⟩,q⟩
theorem kd:il X (.type "list") (λ xs H Q=>∃p ys,xs=[.ref p]/\(cN X.K H p ys\/cE X.K H p ys)/\∀l,H l=none->Q (.ref l) (upd H l (.lst ys))):=by
 intro pins s LQ H xs us Q I r h;obtain⟨p,ys,rfl,hq,q⟩:=h;obtain⟨u,rfl,Y⟩:=vals1 r;cases Y;have G:∀(its:List Value),Vals ys its->ys.length<=sizeLine->∀(h':Heap) (D:Nat),(∀b o',s.heap.get? b=some o'->h'.get? b=some o') ->
   h'.get? s.heap.objs.size=some { cls:=.type "list",dict:=none,data:=.seq its.toArray D,slots:=#[] }->EP X pins LQ Q (.ref s.heap.objs.size) { s with heap:=h' }:=λ its B hz h' D kp e =>
  ⟨.ref s.heap.objs.size,_,I.laid (t':=s.toks) kp (LW _) (show ff X.prog X.w _ h' _ (.lst ys) from ⟨hz,its,D,B,e⟩),rfl,q _ (I.de.fresh (LW _))⟩
 rcases hq with hq | hq
 ·obtain⟨its,B,pl,hz⟩:=I.list hq;have J:=B.length;obtain⟨o,ho,N,n,hd⟩:=pl.isList;exact call_list_seq p (.inl rfl) ho N hd (λ h' D kp e=>G its B hz h' D kp e) (by simp only[Mi]<;>omega)
 ·obtain⟨its,B,pl,hz⟩:=I.tuple hq;have J:=B.length;obtain⟨o,ho,N,n,hd⟩:=pl;exact call_list_seq p (.inr rfl) ho N hd (λ h' D kp e=>G its B hz h' D kp e) (by simp only[Mi]<;>omega)
theorem cT:il X (.type "tuple") (λ xs H Q=>∃p ys,xs=[.ref p]/\((cN X.K H p ys/\∀l,H l=none->Q (.ref l) (upd H l (.tup ys)))\/(cE X.K H p ys/\Q (.ref p) H))):=by
 intro pins s LQ H xs us Q I r h;obtain⟨p,ys,rfl,h⟩:=h;obtain⟨u,rfl,J⟩:=vals1 r;cases J
 rcases h with ⟨hq,q⟩ | ⟨hq,q⟩
 ·obtain⟨its,B,pl,hz⟩:=I.list hq;have G:=B.length;refine call_tuple_list pl.isList (λ h' kp=>?_) (by simp only[Mi]<;>omega);have D:Inv X pins LQ H { s with heap:=h' }:=I.kept (t':=s.toks) kp;have N:Inv X pins LQ (upd H h'.objs.size (.tup ys)) { s with heap:=h'.push { cls:=.type "tuple",data:=.seq its.toArray } } :=
   D.laid (t':=s.toks) (λ b o e=>L3 _ e) (LW _) (show ff X.prog X.w _ _ _ (.tup ys) from ⟨hz,its,B,⟨_,L7 _ rfl,rfl,_,rfl,rfl⟩⟩)
  exact⟨.ref h'.objs.size,_,N,rfl,q _ (D.de.fresh (LW _))⟩
 ·obtain⟨its,B,pl,hz⟩:=I.tuple hq;exact call_tuple_same pl ⟨.ref p,H,I,rfl,q⟩
def Jy (K:LV)(T:String)(x:V)(H:Hp):Prop:=match x with
 | .str _=>T = "str"
 | .int _=>T = "int"
 | .ref p=>(T = "list" /\ ∃xs,cN K H p xs)\/(T = "tuple" /\ ∃o,K.lookup p=some o/\o.cls=.type "tuple" /\ o.dict=none) \/
   (T = "dict" /\ ((∃kvs,H p=some (.dK kvs))\/∃kvs,H p=some (.dT kvs)))\/(T = "set" /\ ∃S n,H p=some (.set S n))
 | _=>False
theorem De {LQ : St}{T:String}(I:Inv X pins LQ H s)(r:RelV x v)(D:Jy X.K T x H) :
  s.TypeIs v T/\∀a,v=.ref a->∃ob,s.heap.get? a=some ob/\ob.dict=none:=by
 cases x with
 | str z =>
  obtain⟨t,rfl⟩:=r;cases (show T = "str" from D);exact⟨typeIs_str s z t,λ _ e=>nomatch e⟩
 | int i =>
  obtain⟨t,rfl⟩:=r;cases (show T = "int" from D);exact⟨typeIs_int s i t,λ _ e=>nomatch e⟩
 | ref p =>
  cases r
  rcases D with ⟨rfl,xs,hq⟩ | ⟨rfl,o,B,J,hd⟩ | ⟨rfl,B⟩ | ⟨rfl,S,n,B⟩
  ·obtain⟨its,_,pl,_⟩:=I.list hq;refine⟨pl.isList.typeIs,λ a e=>?_⟩;cases e;obtain⟨o,n,e,c,hd,_⟩:=pl;exact⟨o,e,hd⟩
  ·refine⟨⟨o,I.lP p o B,J⟩,λ a e=>?_⟩;cases e;exact⟨o,I.lP _ o B,hd⟩
  ·have z:∃o,s.heap.get? p=some o/\o.ExactDict:=by
    rcases B with ⟨kvs,B⟩ | ⟨kvs,B⟩
    ·obtain⟨_,_,_,_,o,_,_,e,ex,_⟩:=I.de p _ B;exact⟨o,e,ex⟩
    ·obtain⟨_,_,_,_,o,_,_,e,ex,_⟩:=I.de p _ B;exact⟨o,e,ex⟩
   obtain⟨o,e,ex⟩:=z;refine⟨⟨o,e,ex.1⟩,λ a G=>?_⟩;cases G;exact⟨o,e,ex.2.1⟩
  ·obtain⟨o,_,_,_,e,ex,_⟩:=I.de p _ B;refine⟨⟨o,e,ex.1⟩,λ a G=>?_⟩;cases G;exact⟨o,e,ex.2.1⟩
 | _=>exact False.elim D
def Ll (K:LV)(T:String)(r:V->List V->Hp->VK->Prop)(to:TE):TE:=λ LQ H Q=>to LQ H λ x H1=>Jy K T x H1/\r x [] H1 Q
def LF (K:LV)(T:String)(r:V->List V->Hp->VK->Prop)(to:TE)(t:TA):TE:=λ LQ H Q=>to LQ H λ x H1=>Jy K T x H1/\t LQ H1 λ xs H2=>r x xs H2 Q
variable {o e:Expr}{es:List Expr}{to:TE}{t:TA}{name:Str}{apos cpos:Pos}{T id:String}{r:V->List V->Hp->VK->Prop}
theorem Jz (Z:PlainAttrs T) (slot:Slot T name id) (G:typeOf (.builtin id)=pure (.type "method_descriptor")) (hm:Ju X id r) (ho:PE X o to)
  (D:attributeBase o name X.env (eval o X.env)=eval o X.env:=by rfl) (B:(apos.endLine == cpos.line)=true:=by rfl):PE X (.Call (.Attribute o name apos) [] [] cpos) (Ll X.K T r to):=by
 intro pins s LQ H Q I h;refine wpAny_Call_method0_late D B (dC (ho pins s LQ H _ I h) λ v s1 ⟨x,H1,J,N,Y,q1⟩=>?_);obtain⟨h1,h2⟩:=De J N Y;exact⟨T,id,Z,slot,G,h1,h2,Calls.callWith_builtin rfl (PySem.evalArgs_none (hm pins s1 LQ H1 x [] v [] Q J N .nil q1))⟩
theorem gr (pa:PlainAttrs T) (slot:Slot T name id) (N:typeOf (.builtin id)=pure (.type "method_descriptor")) (hm:Ju X id r) (ho:PE X o to) (ha:PA X (e::es) t)
  (G:attributeBase o name X.env (eval o X.env)=eval o X.env:=by rfl)
  (J:((backTo cpos (starEach (e::es) X.env)).all (λ x=>!x.1)&&(backToKw cpos (keywordEach [] X.env)).all (λ x=>x.1.isSome)
   && decide ((e::es).length+([]:List Keyword).length+(if ([]:List Keyword).isEmpty then 0 else 1)<30))=true:=by rfl)
  (D:(apos.endLine == cpos.line)=true:=by rfl) (hs:starEach (e::es) X.env=(false,eval e X.env)::starEach es X.env:=by rfl) (B:(backTo cpos (starEach es X.env)).any (·.1)=false:=by rfl) :
  PE X (.Call (.Attribute o name apos) (e::es) [] cpos) (LF X.K T r to t):=by
 intro pins s LQ H Q I h;refine wpAny_Call_method_late G J D rfl (dC (ho pins s LQ H _ I h) λ v s1 ⟨x,H1,Y,r1,ty,q1⟩=>?_);obtain⟨h1,h2⟩:=De Y r1 ty;exists T,id,pa,slot,N,h1,h2;have Z:=ha cpos pins s1 LQ H1 _ Y q1;rw[hs] at Z ⊢;refine Calls.callWith_builtin (by show (false||(backTo cpos (starEach es X.env)).any (·.1))=false;rw[B]<;>rfl) (Calls.evalArgs_plain ?_);exact dC Z λ us s2 ⟨vs,H2,I2,r2,q2⟩=>hm pins s2 LQ H2 x vs v us Q I2 r1 r2 q2
end
def Aw (X:Cx)(id:String)(r:V->List V->Hp->VK->Prop):Prop :=
 ∀(pins:Z1) (s:Shared) (LQ : St) (H:Hp) (x:V) (xs:List V) (v:Value) (us:List Value) (Q:VK),Inv X pins LQ H s->RelV x v->Vals xs us->r x xs H Q ->
  wpAny (model X.prog X.w) X.A (call (.builtin id) (v::us)) (EP X pins LQ Q) X.xe s
theorem Vals.one:∀{x:V} {us:List Value},Vals [x] us->∃u,us=[u]/\RelV x u
 | _,_,.cons r .nil=>⟨_,rfl,r⟩
theorem Vals.zero:∀{us:List Value},Vals [] us->us=[]
 | _,.nil=>rfl
theorem Vals.dropLast {xs:List V}{us:List Value}(h:Vals xs us):Vals xs.dropLast us.dropLast:=by
 induction h with
 | nil=>exact .nil
 | cons r t ih =>
  cases t with
  | nil=>exact .nil
  | cons q t'=>exact .cons r ih
theorem BL {B:Type}(l:List B):l.eraseIdx (l.length-1)=l.dropLast:=by
 induction l with
 | nil=>rfl
 | cons a r ih =>
  cases r with
  | nil=>rfl
  | cons b r =>
   have e:(a::b::r).length-1=((b::r).length-1)+1:=by
    have h1:(a::b::r).length=r.length+2:=rfl;have h2:(b::r).length=r.length+1:=rfl;omega
   rw[e,List.eraseIdx_cons_succ,ih]
   all_goals rfl
section
variable {X:Cx}{pins:Z1}{LQ : St}{H:Hp}{s:Shared}{l b:Addr}{xs ys zs:List V}
theorem Inv.BM {its':List Value}{f:Array Value->Array Value}{t':Nat}(I:Inv X pins LQ H s)(G:H l=some (.lst xs))
  (e:s.heap.get? l=some { cls:=.type "list",data:=.seq its.toArray n }) (hf:f its.toArray=its'.toArray) (B:Vals ys its') (hz:ys.length<=sizeLine) :
  Inv X pins LQ (upd H l (.lst ys)) { s with heap:=s.heap.update l (Obj.mapSeq f),toks:=t' }:=by
 have q:=PySem.IsL.update e f;rw[hf] at q;refine I.write (x:=l) (e:=l) (by rw[G];exact trivial) (.inl rfl) (λ J u hb D=>(MY s.heap (Obj.mapSeq f) (Ne.symm hb)).trans D) ⟨_,q⟩ ?_;exact⟨hz,its',_,B,q⟩
theorem Inv.fresh (I:Inv X pins LQ H s):H s.heap.objs.size=none:=I.de.fresh (LW _)
theorem Inv.yI (I:Inv X pins LQ H s)(B:H l=some (.lst xs)):xs.length<=sizeLine/\∃(its:List Value) (n:Nat),Vals xs its/\xs.length=its.length/\s.heap.get? l=some { cls:=.type "list",data:=.seq its.toArray n }:=by
 obtain⟨z,its,n,r,e⟩:=I.de l _ B;exact⟨z,its,n,r,r.length,e⟩
theorem Fi (h:n<=sizeLine):Builtin.List.listTooLong n=false:=by
 unfold Builtin.List.listTooLong;exact decide_eq_false ⋯
end
section
variable {X:Cx}
inductive HF  (x:V) (vs:List V) (H:Hp) (Q:VK):Prop
 | mk (l xs y:_) (_:x=.ref l) (_:vs=[y]) (_:H l=some (.lst xs)) (_:xs.length<sizeLine) (_:Q .eu (upd H l (.lst (xs++[y]))))
theorem fo:Aw X "list.append" HF:=by
 intro pins s LQ H x vs v us Q I D J h;obtain⟨l,xs,y,rfl,rfl,B,hz,q⟩:=h;cases D;obtain⟨u,rfl,G⟩:=J.one;obtain⟨z,its,n,r,N,e⟩:=I.yI B;refine call_meets F.slot_list_append ⟨_,e,rfl⟩ F.entry_list_append (F.args_list_append_2 _ _) (PySem.list_append l its.toArray n u (by rw[Mi];omega)) ⟨e,?_⟩;refine⟨.eu,_,I.BM (its':=its++[u]) B e (by simp) (r.append (.cons G .nil)) ?_,rfl,q⟩;rw[LY,NG];omega
inductive HG  (x:V) (vs:List V) (H:Hp) (Q:VK):Prop
 | mk (l b xs zs:_) (_:x=.ref l) (_:vs=[.ref b]) (_:H l=some (.lst xs)) (_:H b=some (.lst zs)) (_:xs.length+zs.length<=sizeLine) (_:Q .eu (upd H l (.lst (xs++zs))))
theorem w9:Aw X "list.extend" HG:=by
 intro pins s LQ H x vs v us Q I rx N h;obtain⟨l,b,xs,zs,rfl,rfl,G,hB,hz,q⟩:=h;cases rx;obtain⟨u,rfl,Z⟩:=N.one;cases Z;obtain⟨z,its,n,r,hl,e⟩:=I.yI G;obtain⟨z2,B,Y,r2,J,e2⟩:=I.yI hB;have hsz:its.toArray.size+B.toArray.size<=sizeLine:=by rw[Mi,Mi];omega
 have D:¬(!its.toArray.isEmpty&&Builtin.List.listTooLong (its.toArray.size+B.toArray.size))=true:=by
  rw[Fi hsz,Bool.and_false];exact Mv
 refine call_meets F.slot_list_extend ⟨_,e,rfl⟩ F.entry_list_extend (F.args_list_extend_2 _ _)
  (AutoSeq1.list_extend_list_list_0 l its.toArray n b B.toArray Y D (by rw[Mi];omega) ⋯) ⟨e,e2,?_⟩
 refine⟨.eu,_,I.BM (its':=its++B) G e (by simp) (r.append r2) ?_,rfl,q⟩;rw[LY];omega
inductive Lm  (x:V) (vs:List V) (H:Hp) (Q:VK):Prop
 | mk (l xs y:_) (_:x=.ref l) (_:vs=[]) (_:H l=some (.lst xs)) (_:xs[xs.length-1]?=some y) (_:Q y (upd H l (.lst xs.dropLast)))
theorem JA:Aw X "list.pop" Lm:=by
 intro pins s LQ H x vs v us Q I J rv h;obtain⟨l,xs,y,rfl,rfl,G,Y,q⟩:=h;cases J;have D:=rv.zero;subst D;obtain⟨z,its,n,r,hl,e⟩:=I.yI G;obtain⟨u,Z,N⟩:=r.get Y;have B:its.toArray[its.toArray.size-1]?=some u:=by
  show its.toArray[its.length-1]?=some u;rw[<-NH,<-hl];exact Z
 refine call_meets F.slot_list_pop ⟨_,e,rfl⟩ F.entry_list_pop (F.args_list_pop_1 _) (MeetsSeq.list_pop_last l its.toArray n u B (by rw[Mi];omega)) ⟨e,?_⟩;refine⟨y,_,I.BM (its':=its.dropLast) G e ?_ r.dropLast ?_,N,q⟩
 ·show its.toArray.eraseIdxIfInBounds (its.toArray.size-1)=its.dropLast.toArray;rw[Mi,List.eraseIdxIfInBounds_toArray,BL]
 ·rw[List.length_dropLast];omega
end
section
variable {prog:Program}{w:World}{A:Around}{E:Z0}{s:Shared}
end
section
variable {X:Cx}
end
end L2
namespace KJ
open PySem PySem.W PySem.Calls PyProof.Rows
variable {l:OpenLaw}{P:Params}{h:Heap}{n:Nat}
theorem uH:∀(ns:List Int) (vs:List Value),WellAll P h vs (ns.map WData.int)->IntsAre vs ns:=by
 intro ns
 induction ns with
 | nil =>
  intro vs w;rw[NI] at w;cases w;exact .nil
 | cons n ns ih =>
  intro vs w;rw[Mt] at w;cases w with
  | cons a b =>
   cases a;exact .cons _ _ (ih _ b)
theorem Df (hn:l.most=some n){args:List WData}{B:List Value}
  (D:l.row.toRowW.claim.pre args=true) (Y:WellAll P h B args) :
  ∃a vs ns,B=[Value.ref a]/\args=[WData.list (ns.map WData.int)]/\h.get? a=some { cls:=.type "list",data:=.seq vs.toArray }/\IntsAre vs ns/\ns.length<=n:=by
 have Z:WShape.hasAll [] args [.list .int]=true:=(pre_splitW D).1;have hc:l.pre.holds [] { args:=args }=true:=(pre_splitW D).2;obtain⟨d,r,rfl,h1,h2⟩:=hasAllW_cons Z;obtain rfl:=hasAllW_nil h2;obtain⟨xs,rfl,h3⟩:=hasW_list h1;obtain⟨ns,rfl⟩:=items_int h3;have G:ns.length<=n:=by
  unfold OpenLaw.pre at hc;have J:(WTm.not (.lt (.lit (.int (n:Int))) (.len (.arg 0)))).holds [] { args:=[.list (ns.map .int)] }=true:=by
   have J:=(holds_andW hc).1;rw[hn] at J;exact J
  have N:=condW_of J (w_not (w_lt w_lit (w_len_list (w_arg rfl))));rw[LU] at N;refine Nat.le_of_not_lt λ q=>?_
  have q':(n:Int)<((ns.length:Nat):Int):=by omega
  first
   | (rw[decide_eq_true q'] at N;exact absurd N ⋯)
   | (simp at N;omega)
 cases Y with
 | cons w1 w2 =>
  cases w2;cases w1 with
  | list ho hall=>exact⟨_,_,ns,rfl,rfl,ho,uH ns _ hall,G⟩
theorem Dg (l:OpenLaw)(args:List WData):l.row.toRowW.claim.post args (.bool true) args=true :=
 postW_of (r:=l.row.toRowW) (X:=(true == true))
  (show WShape.has [] (.bool true) .bool=true by first | rfl | decide | simp[WShape.has,WShape.arms,WShape.armsAll])
  (show (WTm.eq .res (.lit (.bool true))).value [] { args:=args,res:=some (.bool true),after:=args }=some (.bool (true == true)) from w_eq_bool (w_res rfl) w_lit) rfl
theorem zT {q:Program}{D:List Str}{XP:(Str->Option Value)->Heap->Prop}{YP:World->Heap->Prop}{d:DefRec}
  (hn:l.most=some n) (a3:d.params.defaults=[])
  (call:∀(w:World) (ie B:Shared) (mg mb:Z2) (Z:Addr) (o:Obj) (pm cd N:Value) (a:Addr) (vs:List Value) (ns:List Int),
   Ground q D [] XP w ie mg mb B.heap->YP w B.heap ->
   B.heap.get? Z=some o->o.data=.func (docDef d.name d.params d.body d.scope pm cd N)->B.heap.CodeRec cd d.name->mg d.name=some (.ref Z) ->
   B.heap.get? a=some { cls:=.type "list",data:=.seq vs.toArray }->IntsAre vs ns->ns.length<=n->B.gens = #[] ->
   codeAny (model l.prog w) callerA (.call (.ref Z) ⟨[.ref a],[]⟩) (λ r s'=>r=.ok (.ret (.bool true))/\OldK B.heap s'.heap/\s'.os=B.os/\AllBare s'.gens) B) :
  WalkO q D XP YP l.row.toRowW d [] (λ f vs=>PySem.call f vs):=by
 intro w ie B mg mb G Y Z o pm cd N dV kV ho hd a5 hD a6 hg args a7 as a2 a8 aa a4 a9;obtain rfl:dV=.none:=Dflts.none hD a3;obtain rfl:kV=.none:=Dflts.noKw hD;obtain⟨a,vs,ns,rfl,rfl,a1,J,a0⟩:=Df hn a2 a4;refine enter_call (OJ (call w ie B mg mb Z o pm cd N a vs ns G Y ho (fd_plain hd) a5 a6 a1 J a0 hg) λ r s' hq=>?_);obtain⟨rfl,h2,h3,h4⟩:=hq;exact⟨.inl ⟨.bool true,.bool true,[],rfl,λ _=>rfl,.bool true,Dg l _,λ _=>⟨Nf.nil,λ _ hm=>(nomatch hm)⟩⟩,h2,h3,h4⟩
section
variable {prog:Program}{w:World}{A:Around}{E:Z0}{s:Shared}{K:Frag}
def ledger (h:Heap)(L d:Addr):List (Addr×Obj):=(L1 h.objs.size).filterMap λ a=>if a=L\/a=d then none else (h.get? a).map λ o=>(a,o)
end
end KJ
namespace L2
open PySem PySem.Spec PyProof.Rows
variable {H H' H1 D:Hp}{xs:List (List Key×Addr×Value)}{kvs:List (List Key×V)}{p d b tl bl pl sl a f acc C q:Addr}{ds:List PyData}{l:List (Str×V)}{s:Shared}{scope:Scope}{nums:List Int}{X:Cx}{w:World}{u:Value}{lo:Option Int}{A B:Prop}{o:HO}{N:List Nat}{P prog:Program}{v y:V}{x:Str}{st:Stmt}{n m:Nat}{g:TG}{ct:TT}{Q E:Z0}{fp:List Addr}{a5:List Expr}{ps:List Str}{tg a3:Expr}{h':Heap}{env:Env}{te J:TE}{c:Bool}{i:Int}{K:LV}{sp:Sp}{wi:TI}{pins:Z1}
theorem lR:∀{vs:List Value} {ns:List Int},IntsAre vs ns->Vals (ns.map V.int) vs
 | _,_,.nil=>.nil
 | _,_,.cons n t h=>.cons ⟨t,rfl⟩ (lR h)
def Fj (H:Hp):Prop:=∀b,H b=none\/∃o xs,H b=some (.sR o (.lst xs))
theorem Fl {mg mb:Z2}{CX:qB}{k:Nat}{fa:Addr}{fd:FuncData}{B:Shared}{vs:List Value}{ns:List Int}
    (KX:K.In B.heap) (a0:B.heap.Ns mainGlobals mg) (hb:B.heap.Ns builtinsNs mb) (a6:∀x:Str,x ≠ "__name__" -> mb x=bootBuiltins x) (a3:B.heap.NoLimit) (hg:B.gens = #[])
    (ha:B.heap.get? a=some { cls:=.type "list",data:=.seq vs.toArray }) (hi:IntsAre vs ns) (hl:ns.length<=sizeLine) (hr:fP k callerA)
    (F:∀base:Heap,K.In base->base.Ns mainGlobals mg->dB P w K mg base CX k fa fd [x] sp) (N:∀(s:Shared) (u:Value),BindsTo s fd ⟨[u],[]⟩ [(x,u)])
    (a7:∀H:Hp,Fj H->cN K H a (ns.map V.int)->sp [.ref a] H (λ v _=>v=.bl true) λ _ _ _=>False)
    (a5:∀H e s',CX [] H B (λ _ _ _=>False) e s'->False) :
    codeAny (model P w) callerA (.call (.ref fa) ⟨[.ref a],[]⟩) (λ r s'=>r=.ok (.ret (.bool true))/\OldK B.heap s'.heap/\s'.os=B.os/\AllBare s'.gens) B:=by
  have rv:=lR hi;have a2:=hi.length;have J:∀H:Hp,Fj H->cN K H a (ns.map V.int)->ia P w H B.heap->(∀b,H b≠none->b=a)->(H a≠none->K.lookup a=none) ->
      codeAny (model P w) callerA (.call (.ref fa) ⟨[.ref a],[]⟩) (λ r s'=>r=.ok (.ret (.bool true))/\OldK B.heap s'.heap/\s'.os=B.os/\AllBare s'.gens) B:=by
    intro H hO hS de hA hK;have D:∀{b:Addr} {o:Obj},B.heap.get? b=some o->H b=none->(oY B.heap H).get? b=some o:=λ e n=>ES e n
    have a4:∀{b:Addr} {o:Obj} {es:Array DictEntry} {ep:Nat},B.heap.get? b=some o->o.data=.dict es ep->H b=none:=λ {b o es ep} e d=>by
      cases q:H b with
      | none=>rfl
      | some u =>
        have e':b=a:=hA b (by rw[q];simp);subst e';rw[ha] at e;cases e;have d':Data.seq vs.toArray _=Data.dict es ep:=d;cases d'
    have G:∀{b:Addr} {m:Z2},B.heap.Ns b m->(oY B.heap H).Ns b m:=λ {b m} ⟨o,es,ep,e,d,r⟩=>⟨o,es,ep,D e (a4 e d),d,r⟩
    have a1:K.In (oY B.heap H):=λ b o e=>D (KX b o e) (by
      cases q:H b with
      | none=>rfl
      | some u =>
        have e':b=a:=hA b (by rw[q];simp);subst e';rw[hK (by rw[q];simp)] at e;cases e)
    have hM:Mod K mg (oY B.heap H):=⟨a1,G a0,⟨mb,G hb,a6⟩,let ⟨mc,h1,h2⟩:=a3;⟨mc,G h1,h2⟩⟩;have e0:tL P w K mg (oY B.heap H) callerA [] B H:=⟨rfl,hM,λ b o e=>Hj e,Nat.le_of_eq (CY _ _),trivial,λ b hb=>absurd (show b∈([]:List Addr) from hb) (by simp),de,.of_eq hg⟩;refine OJ ((F _ a1 (G a0)).run callerA [] B H ⟨[.ref a],[]⟩ [.ref a] [.ref a] _ _ hr e0 (N B (.ref a)) (.cons rfl .nil) (a7 H hO hS)) λ r s' h=>?_
    cases r with
    | error e=>exact (a5 H e s' h).elim
    | ok fl =>
      cases fl with
      | next=>exact False.elim h
      | brk=>exact False.elim h
      | cont=>exact False.elim h
      | ret u =>
        obtain⟨v,H',os,bare,un,Z,r',q⟩:=h;have q':v=.bl true:=q;subst q';obtain rfl:u=Value.bool true:=r';refine⟨rfl,OldK.of_keep λ b o e=>?_,os,bare⟩;cases q:H b with
        | none=>exact un.keep b o e q (by intro z;exact absurd (show b∈([]:List Addr) from z) (by simp)) (by simp)
        | some u =>
          rcases hO b with z | ⟨ob,xs,z⟩
          . rw[q] at z;cases z
          . have z2:=un.oX b ob _ z
            obtain⟨e1,_⟩:=de b _ z;obtain⟨e2,_⟩:=Z b _ z2;rw[e] at e1;cases e1;exact e2
  cases hk:K.lookup a with
  | some o =>
    have e:=KX a o hk;rw[ha] at e;cases e;refine J (λ _=>none) (λ _=>.inl rfl) (.inr ⟨_,vs.toArray,_,hk,rfl,rfl,rfl,by rw[Mi,a2];exact hl,by simpa using rv⟩) (λ b u z=>by have Y:(none:Option HO)=some u:=z;cases Y) (λ b z=>absurd rfl z) λ z=>absurd rfl z
  | none =>
    refine J (λ b=>if b=a then some (.sR { cls:=.type "list",data:=.seq vs.toArray } (.lst (ns.map V.int))) else none) (λ b=>?_) (.inl (.inr ⟨{ cls:=.type "list",data:=.seq vs.toArray },if_pos rfl⟩)) (λ b u z=>?_) (λ b z=>?_) λ _=>hk
    . by_cases hb:b=a
      . exact .inr ⟨_,_,if_pos hb⟩
      . exact .inl (if_neg hb)
    . by_cases hb:b=a
      . have Y:=(if_pos hb).symm.trans z
        cases Y;subst hb;exact⟨ha,by rw[LU];exact hl,vs,_,rv,ha⟩
      . have Y:=(if_neg hb).symm.trans z
        cases Y
    . by_cases hb:b=a
      . exact hb
      . exact absurd (if_neg hb) z
abbrev KOf {K:LV}{h:Heap}(_:K.In h):LV:=K
theorem HH {l:PySem.W.OpenLaw}{n k:Nat}{q:Program}{J:List Str}{XP:(Str->Option Value)->Heap->Prop}{YP:World->Heap->Prop}{d:DefRec}{K:Params->LV}{CX:World->qB}{sp:World->Sp}{x:Str}
  (hn:l.most=some n) (a4:n<=sizeLine) (a1:d.params.defaults=[]) (hr:fP k callerA)
  (hY:∀(w:World) (h:Heap),YP w h->(K w.params).In h)
  (F:∀(w:World) (mg:Z2) (fa:Addr) (h:Heap),(K w.params).In h->h.Ns mainGlobals mg->mg d.name=some (.ref fa) ->
   ∃fd:FuncData,(∀(s:Shared) (u:Value),BindsTo s fd ⟨[u],[]⟩ [(x,u)]) /\
    ∀base:Heap,(K w.params).In base->base.Ns mainGlobals mg->dB l.prog w (K w.params) mg base (CX w) k fa fd [x] (sp w))
  (a2:∀(w:World) (H:Hp) (a:Addr) (ns:List Int),ns.length<=n->Fj H->cN (K w.params) H a (ns.map V.int)->sp w [.ref a] H (λ v _=>v=.bl true) λ _ _ _=>False)
  (a0:∀(w:World) (H:Hp) (s:Shared) (e:Value) (s':Shared),CX w [] H s (λ _ _ _=>False) e s'->False) :
  PySem.W.WalkO q J XP YP l.row.toRowW d [] (λ f vs=>PySem.call f vs):=by
 refine KJ.zT hn a1 λ w ie N mg mb fa o pm cd a6 a vs ns G Y ho hd a5 a3 Z D B hg=>?_
 have KX:=hY w _ Y;obtain⟨fd,hb,hF⟩:=F w mg fa _ KX G.T.g a3;exact Fl KX G.T.g G.T.b G.T.builtins G.T.nolimit hg Z D (Ma B a4) hr hF hb (λ H hO hS=>a2 w H a ns B hO hS) λ H e s'=>a0 w H N e s'
def inClass (s:Stmt)(j:Nat):Stmt:=match s with
 | .ClassDef _ _ _ body _ _ _ _ _ _ _=>body.getD j (.Pass ⟨0,0,0,0⟩)
 | _=>.Pass ⟨0,0,0,0⟩
def gx (s:Stmt):Arguments:=match s with
 | .FunctionDef _ a _ _ _ _ _ _ _ _=>a
 | _=>{ posonlyargs:=[],args:=[],vararg:=none,kwonlyargs:=[],kw_defaults:=[],kwarg:=none,defaults:=[] }
def fU (s:Stmt):List Stmt:=match s with
 | .FunctionDef _ _ b _ _ _ _ _ _ _=>b
 | _=>[]
def cG (s:Stmt):Scope:=match s with
 | .FunctionDef _ _ _ _ _ _ sc _ _ _=>sc
 | _=>{ kind:=.function,names:=[],isGenerator:=false,isCoroutine:=false }
abbrev d7:qB:=λ _ _ _ _ _ _=>False
abbrev E0:XK:=λ _ _ _=>False
theorem yi:Passes d7 X E0:=λ _ _ _ _ _ _ _ h=>h.elim
structure eC (K:LV) (x qual:Str) (st:Stmt) (f:Addr) (fd:FuncData):Prop where
 ex:∃(oc:Value) (od:Option Addr) (kV doc pm:Value) (an:Option Addr) (cdv ct:Value) (osl:Z3),
  fd=MC x qual (gx st) (fU st) (cG st) .none kV doc pm an cdv ct/\K.lookup f=some ⟨oc,od,.func fd,osl⟩/\Nd K cdv qual=true
 kp:MQ K (.ref f)=true
section
variable {P:Program}{w:World}{K:LV}{mg:Z2}{base:Heap}
theorem eC.ok {x B:Str}{fd:FuncData}{N:List Str}{k:Nat}(F:eC K x B st f fd)(S:cQ N ps (cG st))(len:∀vs H Q E,sp vs H Q E->vs.length=ps.length)
  (G:∀(D:Value) (A:Around) (outer:List Env) (s:Shared) (H:Hp) (vs:List V) (Q:VK) (E:XK),fP k (A.deeper (envOfC B (cG st) s.heap.objs.size f D))->sp vs H Q E ->
   ∃t,ni (tM d7 P w K mg base N B (cG st) f D A outer s H E).An (fU st) t/\t { nx:=λ _ H'=>Q .eu H',rt:=Q } (start N vs) H):dB P w K mg base d7 (k+1) f fd ps sp:=by
 obtain⟨oc,od,kV,a0,pm,an,D,ct,Z,rfl,lk,Y⟩:=F.ex;refine GV lk Y S len λ A outer s H vs Q E hr J=>?_
 obtain⟨t,h,q⟩:=G D A outer s H vs Q E hr J;exact⟨t,h.An,q⟩
theorem eC.binds {B:Str}{fd:FuncData}(F:eC K x B st f fd)
  (h:∀(kV D N:Value) (J:Option Addr) (G ct:Value) (us:List Value),us.length=ps.length->bindArgs (MC x B (gx st) (fU st) (cG st) .none kV D N J G ct) ⟨us,[]⟩=pure (ps.zip us)):Binds K fd ps []:=by
 obtain⟨oc,od,kV,D,N,J,G,ct,Y,rfl,lk,Z⟩:=F.ex;exact .all (h kV D N J G ct)
theorem Dh {B:Str}{oc:Value}{od N:Option Addr}{J:Z3}{kV G Y D ct:Value}(l:K.lookup f=some ⟨oc,od,.func (MC x B (gx st) (fU st) (cG st) .none kV G Y N D ct),J⟩)
  (c:Nd K D B=true) (k:MQ K (.ref f)=true):eC K x B st f (MC x B (gx st) (fU st) (cG st) .none kV G Y N D ct):=⟨⟨oc,od,kV,G,Y,N,D,ct,J,rfl,l,c⟩,k⟩
end
theorem fM {A:Around}{k:Nat}(B:fP k A):A.units+1<cLine:=Nm (Nat.add_le_add_left (by decide:1<=64) _) B.units
theorem cV (h:n<=1000):n<sizeLine:=Nm h ⋯
section
variable {X:Cx}
theorem pv (i:Nat){pos:Pos}(D:X.N[i]?=some x:=by rfl)(G:GO X.env.scope x:=by first | exact Or.inl rfl | exact Mg (Or.inl rfl) | exact Mg (Mg rfl))(hd:(x == ("__debug__" : Str))=false:=by decide)
  (B:(x == ("__classdict__" : Str))=false:=by decide):PE X (.Name x pos) (IW i):=IX D G hd B
end
theorem fB (h:B):if false=true then A else B:=by
 rw[if_neg Mv];exact h
theorem eI (h:A):if true=true then A else B:=by
 rw[if_pos rfl];exact h
theorem fR {c:Prop}[Decidable c](h1:c->A)(h2:¬c->B):if c then A else B:=by
 by_cases h:c
 ·rw[if_pos h];exact h1 h
 ·rw[if_neg h];exact h2 h
def cy (H H':Hp):Prop:=∀b o,H b=some o->H' b=some o
theorem cy.refl (H:Hp):cy H H:=λ _ _ h=>h
theorem cy.trans {H H2:Hp}(a:cy H H1)(b:cy H1 H2):cy H H2:=λ c o h=>b c o (a c o h)
theorem cy.free (e:cy H H'){l:Addr}(h:H' l=Option.none):H l=Option.none:=by
 cases q:H l with
 | none=>rfl
 | some o =>
  rw[e l o q] at h;cases h
theorem cy.seq {xs:List V}(e:cy H H')(h:cN K H a xs):cN K H' a xs:=by
 rcases h with (h | ⟨o,h⟩) | h
 ·exact .inl (.inl (e _ _ h))
 ·exact .inl (.inr ⟨o,e _ _ h⟩)
 ·exact .inr h
section
variable {X:Cx}
theorem HI:iK X (binaryOp .Mult) (rI IntMulOk λ i j=>.int (i*j)):=Aq λ _ _ _ _ _ _ _ B q=>mul_int q B
def Kp (_i j:Int):Prop:=0<j/\j.natAbs.log2<9000
theorem Fm:iK X (binaryOp .FloorDiv) (rI Kp λ i j=>.int (i / j)):=Aq λ i j _ _ _ _ _ B q=>by
 have D:(0:Int)<j:=B.1;exact floordiv_int ⋯ (by rw[Int.fdiv_eq_ediv_of_nonneg i ⋯];exact q) (.inl (PyProof.noPylong_of_log2 B.2))
structure Own (P:Program) (w:World) (K:LV) (mg:Z2) (base:Heap) (x:Str) (k:Nat) (ps:List Str) (sp:Sp):Prop where
 ex:∃f fd,dB P w K mg base d7 k f fd ps sp/\mg x=some (.ref f)/\MQ K (.ref f)=true/\Binds K fd ps []
variable {x:Str}{k:Nat}{ps:List Str}{sp:Sp}{e:Expr}{es:List Expr}{t:TA}{p pos:Pos}
theorem JB (o:Own X.prog X.w X.K X.mg X.base x k ps sp)(Y:fP k X.A)(G:Gl X x)(J:PA X (e::es) t)
  (B:(x == ("__debug__" : Str))=false:=by decide) (N:starEach (e::es) X.env=(false,eval e X.env)::starEach es X.env:=by rfl)
  (D:(backTo pos (starEach es X.env)).any (·.1)=false:=by rfl):PE X (.Call (.Name x p) (e::es) [] pos) (BG sp [] E0 t):=by
 obtain⟨f,fd,F,hm,Z,hb⟩:=o.ex;exact Hx F Y G hm Z hb .nil yi J B N D
end
theorem eG {B:Type}{x:B}{xs:List B}:iL (x::xs) 0=some x:=dN (j:=0) rfl
theorem gQ {B:Type}{x y:B}{xs:List B}:iL (x::y::xs) 1=some y:=dN (j:=1) rfl
theorem at2 {B:Type}{x y z:B}{xs:List B}:iL (x::y::z::xs) 2=some z:=dN (j:=2) rfl
theorem BN {D:Type}{xs:List D}(h0:0<=i)(G:i<xs.length):∃v,iL xs i=some v/\v∈xs:=by
 obtain⟨j,rfl⟩:∃j:Nat,i=j:=⟨i.toNat,by omega⟩;have B:j<xs.length:=by omega
 exact⟨xs[j],dN (by simp[B]),MU B⟩
theorem dU:bootBuiltins "len" = some (.builtin "len"):=by decide
theorem Di:bootBuiltins "min" = some (.builtin "min"):=by decide
theorem Dj:bootBuiltins "max" = some (.builtin "max"):=by decide
theorem Dk:bootBuiltins "int" = some (.type "int"):=by decide
theorem dI:bootBuiltins "tuple" = some (.type "tuple"):=by decide
theorem oy:bootBuiltins "list" = some (.type "list"):=by decide
def e7 (H:Hp)(b:Addr):Prop:=∃x y:Int,H b=some (.lst [.int x,.int y])/\0<=y/\y<2147483648
def Fix (b:Addr)(H H':Hp):Prop:=∀c o,H c=some o->c≠b->H' c=some o
theorem Fix.trans {H B:Hp}(u:Fix b H H1)(v:Fix b H1 B):Fix b H B:=λ c o h n=>v c o (u c o h n) n
theorem Fix.GW:Fix b H (upd H b o):=λ c u h n=>by rw[cx n];exact h
theorem Fix.new {b:Addr}{o:HO}(hp:H p=none):Fix b H (upd H p o):=λ c u h _=>by rw[cx (cD h hp)];exact h
theorem Fix.of_same {b:Addr}(h:cy H H'):Fix b H H':=λ c o e _=>h c o e
theorem cy.new {o:HO}(hp:H p=none):cy H (upd H p o):=λ c u h=>by rw[cx (cD h hp)];exact h
theorem e7.new {b:Addr}{o:HO}(h:e7 H b)(hp:H p=none):e7 (upd H p o) b:=by
 obtain⟨x,y,e,q⟩:=h;exact⟨x,y,by rw[cx (cD e hp)];exact e,q⟩
theorem e7.same {b:Addr}{H:Hp}(h:e7 H b)(s:cy H H'):e7 H' b:=by
 obtain⟨x,y,e,q⟩:=h;exact⟨x,y,s _ _ e,q⟩
theorem Ax {B:Type}{D:B}:[D].length<=sizeLine:=by show 1<=sizeLine;decide
theorem ln2 {B:Type}{D G:B}:[D,G].length<=sizeLine:=by show 2<=sizeLine;decide
theorem Ay {B:Type}{D J G:B}:[D,J,G].length<=sizeLine:=by show 3<=sizeLine;decide
theorem LG {B:Type}{D Y J N G:B}:[D,Y,J,N,G].length<=sizeLine:=by show 5<=sizeLine;decide
theorem qC {B:Type}{D x1 J N G Z Y:B}:[D,x1,J,N,G,Z,Y].length<=sizeLine:=by show 7<=sizeLine;decide
theorem cy.qD {B:Hp}(s:cy H H1)(n:H b=none)(f:Fix b H1 B):cy H B:=λ c o e=>f c o (s c o e) (cD e n)
theorem e7.hR {xs:List V}(h:e7 H b)(e:H p=some (.tup xs)):p≠b:=by
 obtain⟨x,y,B,_⟩:=h;exact dD e B (by intro z;cases z)
theorem e7.eZ (h:e7 H b)(e:H p=none):p≠b:=by
 obtain⟨x,y,B,_⟩:=h;exact λ z=>cD B e z.symm
inductive GX (K:LV) (vs:List V) (H:Hp) (Q:VK) (_:XK):Prop
 | mk (a:Addr) (ns:List Int) (k:Int) (_:vs=[.ref a,.int k]) (_:cN K H a (ns.map V.int)) (_:0<=k) (_:∀b H',H b=none->e7 H' b->cy H H'->Q (.ref b) H')
inductive iN  (vs:List V) (H:Hp) (Q:VK) (_:XK):Prop
 | mk (b:Addr) (m:Int) (_:vs=[.ref b,.int m]) (_:e7 H b) (_:(0<m/\m.natAbs.log2<9000)) (_:∀r H',0<=r->r<m->e7 H' b->Fix b H H'->Q (.int r) H')
inductive yj (K:LV) (vs:List V) (H:Hp) (Q:VK) (_:XK):Prop
 | mk (a:Addr) (ns:List Int) (_:vs=[.ref a]) (_:cN K H a (ns.map V.int)) (_:ns.length<=63) (_:∀H',Q (.bl true) H')
def lS (cells:List (Str×Addr)):List (Str×NameKind)->List (Str×Addr)->List (Str×Addr)
 | [],cs=>cs
 | (n,k)::r,cs=>lS cells r (if k == .free then (n,(cells.lookup n).getD 0)::cs else cs)
theorem o1 (hf:∀y∈scope.names,y.2=.free->∃c,env.cells.lookup y.1=some c):closureFor scope env=pure (lS env.cells scope.names []):=by
 have key:∀(names:List (Str×NameKind)) (cs:List (Str×Addr)),(∀y∈names,y.2=.free->∃c,env.cells.lookup y.1=some c) ->
   (forIn names cs λ x r=>match x with
    | (name,kind)=>if (kind == NameKind.free)=true then (do let a <-cellOf env name;pure (ForInStep.yield ((name,a)::r))) else pure (ForInStep.yield r):Sem (List (Str×Addr)))=pure (lS env.cells names cs):=by
  intro names
  induction names with
  | nil=>intro cs _;rfl
  | cons y r ih =>
   intro cs J;obtain⟨n,k⟩:=y;have B:=λ cs=>ih cs λ z hz=>J z (Mc _ hz)
   rw[Ng];by_cases hk:(k == NameKind.free)=true
   ·have e:k=.free:=by simpa using hk
    obtain⟨c,N⟩:=J (n,k) L9 e;have D:env.cells.lookup n=some c:=N;simp only[hk,if_true,cellOf,D,pure_bind,lS,Option.getD_some];exact B _
   ·have G:(k == NameKind.free)=false:=by simpa using hk
    simp only[G,MZ,if_false,pure_bind,lS];exact B _
 unfold closureFor;have e:=key scope.names [] hf;show ((forIn scope.names ([]:List (Str×Addr)) λ x r=>match x with
    | (name,kind)=>if (kind == NameKind.free)=true then (do let a <-cellOf env name;pure (ForInStep.yield ((name,a)::r))) else pure (ForInStep.yield r):Sem (List (Str×Addr))) >>= λ r=>pure r)=_
 rw[e,pure_bind]
theorem nu {cells:List (Str×Addr)}:∀(names:List (Str×NameKind)) (cs:List (Str×Addr)),(∀y∈names,y.2=.free->∃c,cells.lookup y.1=some c) ->
  (∀x c,cs.lookup x=some c->cells.lookup x=some c)->∀x c,(lS cells names cs).lookup x=some c->cells.lookup x=some c
 | [],_,_,h,x,c,e=>h x c e
 | (n,k)::r,cs,hf,h,x,c,e=>by
  refine nu r _ (λ y D=>hf y (Mc _ D)) (λ z d hz=>?_) x c e;by_cases hk:(k == NameKind.free)=true
  ·rw[if_pos hk] at hz;obtain⟨J,G⟩:=hf (n,k) L9 (by simpa using hk);have B:cells.lookup n=some J:=G;rw[M0] at hz;cases hzn:z == n with
   | true =>
    rw[hzn] at hz;have:z=n:=by simpa using hzn
    subst this;rw[B] at hz ⊢;simpa using hz
   | false=>rw[hzn] at hz;exact h z d hz
  ·rw[if_neg hk] at hz;exact h z d hz
theorem rS {cells:List (Str×Addr)}{x:Str}:∀(names:List (Str×NameKind)) (cs:List (Str×Addr)),((x,NameKind.free)∈names\/∃c,cs.lookup x=some c)->∃c,(lS cells names cs).lookup x=some c
 | [],_,h=>by
  rcases h with h | h
  ·cases h
  ·exact h
 | (n,k)::r,cs,h=>by
  refine rS r _ ?_;by_cases hk:(k == NameKind.free)=true
  ·rw[if_pos hk];cases hxn:x == n with
   | true=>exact .inr ⟨_,by rw[M0,hxn]⟩
   | false =>
    rcases h with h | ⟨c,h⟩
    ·rcases LZ.mp h with h | h
     ·have:x=n:=(Prod.mk.inj h).1;subst this;simp at hxn
     ·exact .inl h
    ·exact .inr ⟨c,by rw[M0,hxn];exact h⟩
  ·rw[if_neg hk]
   rcases h with h | h
   ·rcases LZ.mp h with h | h
    ·have:NameKind.free=k:=(Prod.mk.inj h).2;subst this;simp at hk
    ·exact .inl h
   ·exact .inr h
theorem mS {env:Env}{x:Str}{k:NameKind}(hk:k=.cell\/k=.free):∀{names:List (Str×NameKind)},(∀y∈names,y.2≠.cell) ->
  (names.map λ (n,k)=>if (k == NameKind.free&&env.scope.kind == .function&&env.kindOf n == some .cell) then (n,NameKind.cell) else (n,k)).lookup x=some k->(x,NameKind.free)∈names
 | [],_,h=>by simp at h
 | (n,q)::r,hc,h=>by
  have B:=mS (env:=env) (x:=x) hk (names:=r) (λ y D=>hc y (Mc _ D));have h':MP x ((if (q == NameKind.free&&env.scope.kind == .function&&env.kindOf n == some .cell)=true then (n,NameKind.cell) else (n,q))::_)=some k:=h;by_cases hq:(q == NameKind.free&&env.scope.kind == .function&&env.kindOf n == some .cell)=true
  ·rw[if_pos hq,M0] at h';have G:q=.free:=by
    rw[MA,MA] at hq;simpa using hq.1.1
   cases hxn:x == n with
   | true =>
    have:x=n:=by simpa using hxn
    subst this;subst G;exact L9
   | false=>rw[hxn] at h';exact Mc _ (B h')
  ·rw[if_neg hq,M0] at h';cases hxn:x == n with
   | true =>
    rw[hxn] at h';have:x=n:=by simpa using hxn
    subst this;have e:q=k:=Mf.inj h';subst e
    rcases hk with hk | hk
    ·exact absurd hk (hc (x,q) L9)
    ·subst hk;exact L9
   | false=>rw[hxn] at h';exact Mc _ (B h')
theorem mT {env:Env}{x:Str}:∀{names:List (Str×NameKind)},names.lookup x=some .free ->
  (names.map λ (n,k)=>if (k == NameKind.free&&env.scope.kind == .function&&env.kindOf n == some .cell) then (n,NameKind.cell) else (n,k)).lookup x=some .cell \/
  (names.map λ (n,k)=>if (k == NameKind.free&&env.scope.kind == .function&&env.kindOf n == some .cell) then (n,NameKind.cell) else (n,k)).lookup x=some .free
 | [],h=>by simp at h
 | (n,q)::r,h=>by
  have B:=mT (env:=env) (x:=x) (names:=r);show MP x ((if (q == NameKind.free&&env.scope.kind == .function&&env.kindOf n == some .cell)=true then (n,NameKind.cell) else (n,q))::_)=some .cell \/
   MP x ((if (q == NameKind.free&&env.scope.kind == .function&&env.kindOf n == some .cell)=true then (n,NameKind.cell) else (n,q))::_)=some .free
  rw[M0] at h;by_cases hq:(q == NameKind.free&&env.scope.kind == .function&&env.kindOf n == some .cell)=true
  ·rw[if_pos hq,M0];cases hxn:x == n with
   | true=>exact .inl rfl
   | false=>rw[hxn] at h;exact B h
  ·rw[if_neg hq,M0];cases hxn:x == n with
   | true=>rw[hxn] at h;exact .inr h
   | false=>rw[hxn] at h;exact B h
def gR (X:Cx)(scope:Scope)(C:Addr)(N':List Str)(fp:List Addr)(s₁ : Shared)(H₁ : Hp):Cx where
 prog:=X.prog
 w:=X.w
 K:=X.K
 mg:=X.mg
 base:=X.base
 A:=X.A
 N:=N'
 ie:=s₁
 yr:=H₁
 env:=compEnvC scope (lS X.env.cells scope.names []) C X.env
 outer:=X.stack
 stack:=X.stack
 ex:=fp
 fn:=λ _=>false
 calm:=X.calm
 pn:=[]
 xe:=λ _ _=>False
def jU (X:Cx)(scope:Scope):List Str->List Nat->Prop
 | [],[]=>True
 | x::fr,j::js=>(X.N[j]?=some x/\(X.env.kindOf x=some .cell\/X.env.kindOf x=some .free)/\scope.names.lookup x=some .free)/\jU X scope fr js
 | _,_=>False
theorem jU.len {X:Cx}{scope:Scope}:∀{fr:List Str} {js:List Nat},jU X scope fr js->fr.length=js.length
 | [],[],_=>rfl
 | _::_,_::_,h=>by simp[jU.len h.2]
 | [],_::_,h=>h.elim
 | _::_,[],h=>h.elim
theorem jU.mem {X:Cx}{scope:Scope}{x:Str}:∀{fr:List Str} {js:List Nat},jU X scope fr js->x∈fr->X.env.kindOf x=some .cell\/X.env.kindOf x=some .free
 | [],[],_,h=>by cases h
 | a::fr,b::js,h,hm=>by
  rcases LZ.mp hm with rfl | hm
  ·exact h.1.2.1
  ·exact jU.mem h.2 hm
 | [],_::_,h,_=>h.elim
 | _::_,[],h,_=>h.elim
theorem jU.get {X:Cx}{scope:Scope}:∀{fr:List Str} {js:List Nat} {i:Nat} {x:Str} {j:Nat},jU X scope fr js->fr[i]?=some x->js[i]?=some j ->
  X.N[j]?=some x/\(X.env.kindOf x=some .cell\/X.env.kindOf x=some .free)/\scope.names.lookup x=some .free
 | [],[],_,_,_,_,h,_=>by simp at h
 | a::fr,b::js,0,x,j,h,h1,h2=>by
  simp at h1 h2;subst h1;subst h2;exact h.1
 | a::fr,b::js,i+1,x,j,h,h1,h2=>jU.get h.2 (by simpa using h1) (by simpa using h2)
 | [],_::_,_,_,_,h,_,_=>h.elim
 | _::_,[],_,_,_,h,_,_=>h.elim
def kJ (n:Nat)(js:List Nat)(LQ : St):St:=NW n none++js.map λ j=>LQ.getD j none
theorem Dl {D:Z1}{LQ : St}{N':List Str}(I:Inv X D LQ H s)(hk:scope.kind=.function)(B:∀y∈scope.names,y.2≠.cell)
  (hf:∀y∈scope.names,y.2=.free->∃c,X.env.cells.lookup y.1=some c) (hC:s.heap.objs.size<=C) (G:∀b∈fp,jQ X D H b) (Z:∀b∈fp,b<s.heap.objs.size):(gR X scope C N' fp s H).Ok:=by
 have ag:∀x c,(lS X.env.cells scope.names []).lookup x=some c->X.env.cells.lookup x=some c:=nu scope.names [] hf λ x c e=>by simp at e
 refine⟨I.ok.mod,hk,I.ok.glob,I.ok.blt,hC,λ x y c N J=>I.ok.inj x y c (ag x c N) (ag y c J),λ x hx=>?_,(λ x c h=>(by cases h)),I.ok.hd,I.ok.frames,.inl rfl,λ b hb=>?_,I.bs,?_,λ b o e hb=>?_,λ b hb=>?_,I.stack,I.Al⟩
 ·refine rS scope.names [] (.inl ?_)
  rcases hx with hx | hx
  ·exact mS (.inl rfl) B hx
  ·exact mS (.inr rfl) B hx
 ·obtain⟨N,J,Y,h4,h5,h6⟩:=G b hb;exact⟨L5 (Mo (Z b hb) hC),λ x c e=>h5 x c (ag x c e)⟩
 ·exact Ma I.ok.uz I.sz
 ·obtain⟨N,J,Y,h4,h5,h6⟩:=G b hb
  rcases h4 with h4 | h4
  ·exact I.ok.yt b o e h4
  ·exact absurd (Mo (L0 e) (Ma I.ok.uz h4)) (Mq _)
 ·obtain⟨N,J,Y,h4,h5,h6⟩:=G b hb;intro z
  rcases LZ.mp (I.qu b z) with z | z
  ·exact J z
  ·exact Y z
def yJ (J:It)(n:Nat)(js:List Nat)(g:TG)(ct:TT)(te:TE)(acc:Addr)(LQ : St)(H1:Hp)(Q:VK):Prop :=
 ∃W:Nat->Nat->List V->St->Hp->Prop,(∃m,W 0 m [] (kJ n js LQ) (upd H1 acc (.lst [])))/\∀i m ys LR H2,W i m ys LR H2->H2 acc=some (.lst ys)/\ys.length<sizeLine /\
  ((J.stop i H2/\Q (.ref acc) H2)\/(J.go i H2/\∃N:List V->St->Hp->Prop,(∀ys' τ' H',N ys' τ' H'->∃m',m' < m/\W (i+1) m' ys' τ' H')/\∀x H3,J.wM i H2 x H3->g x LR H3 λ τ1 H4=>ct τ1 H4 λ b H5 =>
   if b=true then te τ1 H5 λ y H6=>H6 acc=some (.lst ys)/\N (ys++[y]) τ1 (upd H6 acc (.lst (ys++[y]))) else N ys τ1 H5))
def KL (n:Nat)(js:List Nat)(wi:TI)(g:TG)(ct:TT)(te:TE):TE:=λ LQ H Q=>wi LQ H λ J H1=>∀acc,H1 acc=none->yJ J n js g ct te acc LQ H1 Q
def yK (X:Cx)(ifs:List Expr)(t:TT):Prop :=
 ∀(pins:Z1) (s:Shared) (LQ : St) (H:Hp) (Q:Bool->Hp->Prop),Inv X pins LQ H s->t LQ H Q ->
  wpAny (model X.prog X.w) X.A (forIn ifs true λ c r=>if r=true then do let ok <-isTrue c X.env (eval c X.env);pure (ForInStep.yield ok) else pure (ForInStep.yield r)) (TP X pins LQ Q) X.xe s
def JC:TT:=λ _ H Q=>Q true H
theorem fx:yK X [] JC:=λ _ _ B H Q I h=>OA ⟨H,I,h⟩
theorem rT {c:Expr}{t:TT}(h:PT X c t):yK X [c] t:=by
 intro B s G H Q I q;rw[Ng];simp only[if_true,bind_assoc,pure_bind];refine Oz (dC (h B s G H Q I q) λ b J D=>?_);exact OA D
section
variable {X:Cx}{pos:Pos}
theorem qo {A:Around}{R:Result->Shared->Prop}{B Y:Expr}{pos:Pos}{it acc:Value}(I:Nat->Shared->Prop)
  (a7:∀n s,I n s->wpAny (model prog w) A (pyNext it) (λ r J=>match r with
   | none=>R (.ok .next) J
   | some v=>wpAny (model prog w) A (letOwnedTupleGo B it v) (λ _ G=>wpAny (model prog w) A (assign B env v) (λ _ N =>
     wpAny (model prog w) A (forIn a5 true λ c r=>if r=true then do let ok <-isTrue c env (eval c env);pure (ForInStep.yield ok) else pure (ForInStep.yield r)) (λ ok D =>
      if ok=true then wpAny (model prog w) A (eval a3 env) (λ x a0 =>
       wpAny (model prog w) A (call (.builtin "list.append") [acc,x]) (λ _ Z=>∃m,m<n/\I m Z) (λ _ _=>False) a0) (λ _ _=>False) D
      else ∃m,m<n/\I m D) (λ _ _=>False) N) (λ _ _=>False) G) (λ _ _=>False) J) (λ _ _=>False) s)
  (n:Nat) (h:I n s) :
  codeAny (model prog w) A (.compLoop (.ListComp a3 [⟨B,Y,a5,0⟩] scope pos) 0 it acc env) R s:=by
 refine codeAny_loop rfl I (λ n s hI=>?_) n h;show wpAny _ A ((compTurn (.ListComp a3 [⟨B,Y,a5,0⟩] scope pos) 0 it acc env).onRaise (λ x=>do noteFrame x env;theTreesLotGoes x)) _ _ s;refine wpAny_noted ?_;rw[compTurn_list];refine Oz (OM (Oz (OB (a7 n s hI) (λ r J a2=>?_) λ _ _ h'=>h'.elim)));cases r with
 | none=>exact OA a2
 | some v =>
  refine Oz (OB a2 (λ _ G a4=>?_) λ _ _ h'=>h'.elim);refine Oz (OB a4 (λ _ N a6=>Oz (OB a6 (λ ok D a1=>?_) λ _ _ h'=>h'.elim)) λ _ _ h'=>h'.elim);cases ok with
  | false=>exact OA ⟨rfl,a1⟩
  | true =>
   exact Oz (Oz (OB a1 (λ x a0 a9=>Oz (OB a9 (λ _ Z a8=>OA (OA ⟨rfl,a8⟩)) λ _ _ h'=>h'.elim)) λ _ _ h'=>h'.elim))
theorem Az {a9:Z1}{LQ : St}{al ac:Expr}{ak:List Expr}{ts fr:List Str}{js:List Nat}
    {it:Addr}  {tn:Nat->Heap->Prop} {J:It} {Q:VK} {RR:Value->Addr->Result->Shared->Prop}
    (hc:X.calm=true) (a7:scope.kind=.function) (a6:∀y∈scope.names,y.2≠.cell) (ao:∀y∈scope.names,y.2=.free->X.env.kindOf y.1=some .cell\/X.env.kindOf y.1=some .free)
    (ax:jU X scope fr js) (aN:∀C fp a0 Z,PG (gR X scope C (ts++fr) fp a0 Z) tg g) (aO:∀C fp a0 Z,yK (gR X scope C (ts++fr) fp a0 Z) ak ct) (aI:∀C fp a0 Z,PE (gR X scope C (ts++fr) fp a0 Z) al te)
    (I:Inv X a9 LQ H s) (T:Turn X.prog X.w X.K tg J fp it tn) (st:tn 0 s.heap) (aa:∀b∈fp,jQ X a9 H b)
    (h:∀acc,H acc=none->yJ J ts.length js g ct te acc LQ H Q)
    (aH:∀acc C H' s' m,Inv X a9 LQ H' s'->s'.heap.Ns C m->H' C=none->s.heap.objs.size<=C->Q (.ref acc) H'->RR (.ref acc) C (.ok .next) s') :
    wpAny (model X.prog X.w) X.A (newList []) (λ acc av=>wpAny (model X.prog X.w) X.A (newFunctionEnv scope X.env.globals (lS X.env.cells scope.names []) [] X.env.qual none .none (some X.env)) (λ ae az =>
      codeAny (model X.prog X.w) X.A (.compStart (.ListComp al [⟨tg,ac,ak,0⟩] scope pos) 0 (.ref it) acc { ae with scope:=relabel scope X.env }) (RR acc ae.locals) az) E av) E s:=by
  have hf:∀y∈scope.names,y.2=.free->∃c,X.env.cells.lookup y.1=some c:=λ y hy e=>I.ok.has y.1 (ao y hy e)
  have ag:∀x c,(lS X.env.cells scope.names []).lookup x=some c->X.env.cells.lookup x=some c:=nu scope.names [] hf λ x c e=>by simp at e
  have ar:∀b∈fp,b<s.heap.objs.size:=λ b hb=>by
    obtain⟨o,e,_⟩:=T.obj _ _ st b hb;exact L0 e
  refine OD (wpAny_newFunctionEnv a6 (by intro y hy;simp at hy) (λ a1 Y B=>?_) a7);dsimp only at Y B ⊢;generalize ap:s.heap.push { cls:=.type "list",dict:=none,data:=.seq ([]:List Value).toArray }=G2 at Y B ⊢;have hC:G2.objs.size=s.heap.objs.size+1:=by rw[<-ap,Ml]
  have aE:s.heap.objs.size≠G2.objs.size:=by rw[hC];exact L5 (MG _)
  have a5:s.heap.objs.size<=G2.objs.size:=by rw[hC];exact MJ _
  have a4:∀b,b<s.heap.objs.size->b≠G2.objs.size/\b≠s.heap.objs.size:=λ b hb=>⟨by rw[hC];exact L5 (ME hb),L5 hb⟩
  have a2:∀b o,s.heap.get? b=some o->a1.get? b=some o:=λ b o e=>B.extBut b o (a4 b (L0 e)).1 (L3 _ (ap ▸ L3 _ e))
  have as:a1.get? s.heap.objs.size=some { cls:=.type "list",data:=.seq ([]:List Value).toArray }:=B.extBut _ _ aE (L3 _ (ap ▸ L7 _ rfl));have nD:H s.heap.objs.size=none:=I.de.fresh (LW _);have nC:H G2.objs.size=none:=I.de.fresh a5;obtain⟨W,⟨m0,w0⟩,aC⟩:=h s.heap.objs.size nD;generalize D:gR X scope G2.objs.size (ts++fr) fp s H=Xb;have Ib:∀tk,Inv Xb [] (kJ ts.length js LQ) (upd H s.heap.objs.size (.lst [])) { s with heap:=a1,toks:=tk }:=by
    intro tk;subst D;exists Dl I a7 a6 hf a5 aa ar,rfl,I.bare,Un.laid a2 (LW _) nD,⟨_,Y,λ i x v e1 e2 e3=>?_⟩,λ x c e=>?_,?_,λ x c e=>?_,λ p hp=>absurd (show p∈([]:Z1) from hp) (by simp),I.de.laid a2 (LW _) ⟨by show 0<=sizeLine;decide,[],_,.nil,as⟩
    . have hi:ts.length<=i:=by
        refine Nat.le_of_not_lt λ hi=>?_
        unfold kJ at e2;rw[MM (by simpa using hi),Oo] at e2;split at e2<;>cases e2
      have aG:fr[i-ts.length]?=some x:=by
        have ad:(ts++fr)[i]?=some x:=e1;rw[M6 hi] at ad;exact ad
      unfold kJ at e2;rw[M6 (by simpa using hi),Nl,L6] at e2;cases ej:js[i-ts.length]? with
      | none=>rw[ej] at e2;cases e2
      | some j =>
        rw[ej] at e2;have a8:LQ.getD j none=some v:=by simpa using e2
        obtain⟨q1,q2,q3⟩:=ax.get aG ej;have ay:LQ[j]?=some (some v):=by
          rw[MR] at a8;cases ez:LQ[j]? with
          | none=>rw[ez] at a8;cases a8
          | some z=>rw[ez] at a8;rw[show z=some v from a8]
        obtain⟨m,hn,hl⟩:=I.loc;obtain⟨u,r,l⟩:=hl j x v q1 ay (by
          rcases q2 with q2 | q2
          . exact .inr (.inl q2)
          . exact .inr (.inr q2))
        refine⟨u,r,.inr ⟨mT q3,?_⟩⟩
        rcases l with ⟨l,_⟩ | ⟨_,c,lc,lv⟩
        . rcases q2 with q2 | q2<;>(rw[l] at q2;cases q2)
        . obtain⟨c',aD⟩:=rS (cells:=X.env.cells) scope.names [] (.inl (PySem.mem_of_lookup q3))
          have:=ag x c' aD;rw[lc] at this;cases this;obtain⟨o,ho,hd⟩:=lv;exact⟨c,aD,o,a2 _ _ ho,hd⟩
    . obtain⟨v,o,ho,hd⟩:=I.cell x c (ag x c e)
      exact⟨v,o,a2 _ _ ho,hd⟩
    . show upd H s.heap.objs.size (.lst []) G2.objs.size=none
      rw[cx aE.symm];exact nC
    . obtain⟨v,o,ho,hd⟩:=I.cell x c (ag x c e)
      rw[cx (L5 (L0 ho))];exact I.jy x c (ag x c e)
    . show (kJ ts.length js LQ).length=(ts++fr).length
      unfold kJ;rw[LY,Nl,LU,LY,ax.len]
  have aq:∀{H':Hp},(∀b∈fp,H' b=none)->∀b∈fp,jQ Xb [] H' b:=λ {H'} hn b hb=>by
    subst D;obtain⟨h1,h2,h3,h4,h5,h6⟩:=aa b hb;refine⟨hn b hb,(a4 b (ar b hb)).1,λ z=>?_,.inl hb,λ x c e=>h5 x c (ag x c e),λ p hp=>absurd (show p∈([]:Z1) from hp) (by simp)⟩
    rcases LZ.mp (I.qu b z) with z | z
    . exact h2 z
    . exact h3 z
  have aF:∀{LR : St} {H':Hp} {s':Shared},Inv Xb [] LR H' s'->Q (.ref s.heap.objs.size) H'->RR (.ref s.heap.objs.size) G2.objs.size (.ok .next) s':=λ {LR H' s'} Jb q=>by
    subst D;obtain⟨m,hn,_⟩:=Jb.loc;refine aH _ _ H' s' m (I.GQ (ch:=fp) Jb.os Jb.base Jb.de Jb.bare λ b hb=>?_) hn Jb.free a5 q;obtain⟨h1,h2,h3,h4,h5,h6⟩:=aa b hb;exact⟨h4,h2,h5,h6⟩
  have af:∀tk,codeAny (model X.prog X.w) X.A (.compLoop (.ListComp al [⟨tg,ac,ak,0⟩] scope pos) 0 (.ref it) (.ref s.heap.objs.size) (compEnvC scope (lS X.env.cells scope.names []) G2.objs.size X.env))
        (RR (.ref s.heap.objs.size) G2.objs.size) { s with heap:=a1,toks:=tk }:=by
    intro tk;refine qo (λ n s'=>∃i ys LR H',Inv Xb [] LR H' s'/\tn i s'.heap/\(∀b∈fp,H' b=none)/\W i n ys LR H') ?_ m0 ⟨0,[],_,_,Ib tk,T.keep _ _ _ st λ b hb o e=>a2 b o e,λ b hb=>?_,w0⟩
    . rintro n s3 ⟨i,ys,LR,H3,I3,au,aB,w3⟩
      have ab:=aN G2.objs.size fp s H;have ai:=aO G2.objs.size fp s H;have ah:=aI G2.objs.size fp s H;rw[D] at ab ai ah;have eP:Xb.prog=X.prog:=by subst D;rfl
      have ew:Xb.w=X.w:=by subst D;rfl
      have eK:Xb.K=X.K:=by subst D;rfl
      have eA:Xb.A=X.A:=by subst D;rfl
      have ec:Xb.calm=true:=by subst D;exact hc
      have ee:Xb.env=compEnvC scope (lS X.env.cells scope.names []) G2.objs.size X.env:=by subst D;rfl
      have ex:Xb.xe=λ _ _=>False:=by subst D;rfl
      rw[<-eP,<-ew,<-eA,<-ee];obtain⟨ha,hl,am⟩:=aC i n ys LR H3 w3
      rcases am with ⟨stop,q⟩ | ⟨go,N,hN,step⟩
      . have hd:=T.done Xb eP ew eK ec i [] s3 LR H3 (λ _ _=>False) I3 (aq aB) au stop
        rw[<-eP,<-ew] at hd;refine OB hd (λ r s4 an=>?_) λ _ _ z=>z
        obtain⟨hr,I4⟩:=an;subst hr;exact aF I4 q
      . have hd:=T.item Xb eP ew eK ec i [] s3 LR H3 (λ _ _=>False) I3 (aq aB) au go
        rw[<-eP,<-ew] at hd;refine OB hd (λ r s4 an=>?_) λ _ _ z=>z
        obtain⟨u,hr,h4⟩:=an;subst hr;refine OB h4 (λ _ s5 ⟨x,H5,I5,r5,y5,aj,aK⟩=>?_) λ _ _ z=>z
        have aL:=I5.pinned (aq aK) (T.obj _ _ aj);have G:∀{aw:St} {H7:Hp} {s7:Shared},Inv Xb ([]++ou fp s5.heap) aw H7 s7->tn (i+1) s7.heap/\∀b∈fp,H7 b=none:=λ {aw H7 s7} I7=>by
          refine⟨T.keep _ _ _ aj λ b hb o e=>(I7.pin (b,o) (Mm _ (Mm _ (jA hb e)))).1,λ b hb=>?_⟩;obtain⟨o,e,d⟩:=T.obj _ _ aj b hb;exact (I7.pin (b,o) (Mm _ (Mm _ (jA hb e)))).2.1
        refine OB (ab _ s5 LR H5 x u _ aL r5 (step x H5 y5)) (λ _ s6 ⟨a3,H6,I6,q6⟩=>?_) (λ _ _ z=>by rw[ex] at z;exact z);refine OB (ai _ s6 a3 H6 _ I6 q6) (λ ok s7 ⟨H7,I7,q7⟩=>?_) (λ _ _ z=>by rw[ex] at z;exact z);cases ok with
        | false =>
          have aM:N ys a3 H7:=by rw[if_neg (by simp)] at q7;exact q7
          rw[if_neg (by simp)];obtain⟨m',hm,w7⟩:=hN _ _ _ aM;exact⟨m',hm,i+1,ys,a3,H7,I7.jR,(G I7).1,(G I7).2,w7⟩
        | true =>
          rw[if_pos rfl] at q7 ⊢;refine OB (ah _ s7 a3 H7 _ I7 q7) (λ v s8 ⟨y,H8,I8,r8,aJ,n8⟩=>?_) (λ _ _ z=>by rw[ex] at z;exact z);refine OB (fo (X:=Xb) _ s8 a3 H8 (.ref s.heap.objs.size) [y] (.ref s.heap.objs.size) [v] (λ _ H9=>H9=upd H8 s.heap.objs.size (.lst (ys++[y]))) I8 rfl (.cons r8 .nil) ⟨_,ys,y,rfl,rfl,aJ,hl,rfl⟩) (λ _ s9 ⟨_,H9,I9,_,e9⟩=>?_) (λ _ _ z=>by rw[ex] at z;exact z);subst e9;obtain⟨m',hm,w8⟩:=hN _ _ _ n8;exact⟨m',hm,i+1,_,a3,_,I9.jR,(G I9).1,(G I9).2,w8⟩
    . rw[cx (L5 (ar b hb))]
      exact (aa b hb).1
  exact codeAny_compStart_list (af _) (T.self _ 0 _ _ _ (T.keep _ _ _ st λ b hb o e=>a2 b o e) (af _))
theorem Inv.yL {B:Z1}{LQ : St}{G:Shared}(I:Inv X B LQ H s){D:St}(I':Inv X B D H' G)(Y:H' C=none)(J:s.heap.objs.size<=C)(N:Mx C G.heap h') :
  Inv X B D H' { G with heap:=h' }:=by
 obtain⟨h1,h2,h3,Z,h5,h6⟩:=I.qy (H':=H') J Y;exact I'.turned (t':=G.toks) (λ b o hb e=>N.extBut b o hb e) Y h2 Z h5 h6
theorem fL {G:Expr}(ts fr:List Str)(js:List Nat)
  (hc:X.calm=true) (hi:PI X tg G wi) (Y:scope.kind=.function) (a2:∀y∈scope.names,y.2≠.cell) (a0:∀y∈scope.names,y.2=.local->scope.names.lookup y.1=some .local)
  (Z:∀y∈scope.names,y.2=.free->y.1∈fr) (a4:jU X scope fr js)
  (a7:∀C fp D B,PG (gR X scope C (ts++fr) fp D B) tg g) (a9:∀C fp D B,yK (gR X scope C (ts++fr) fp D B) a5 ct) (ab:∀C fp D B,PE (gR X scope C (ts++fr) fp D B) a3 te)
  (hs:∀x,foldedSetIterable G X.env x=pure x:=by intro _;rfl):PE X (.ListComp a3 [⟨tg,G,a5,0⟩] scope pos) (KL ts.length js wi g ct te):=by
 have N:∀y∈scope.names,y.2=.free->X.env.kindOf y.1=some .cell\/X.env.kindOf y.1=some .free:=λ y hy e=>a4.mem (Z y hy e)
 intro a1 s LQ H Q I h;rw[eval_ListComp];refine O8 (use:=none) rfl hs (o1 λ y hy e=>I.ok.has y.1 (N y hy e)) Y a0 (dC (hi a1 s LQ H _ I h) λ xv s1 h1=>dC h1 λ ac s2 h2=>?_);obtain⟨it,fp,tn,J,H2,e,I2,T,a6,f2,hW⟩:=h2;subst e;refine Az (RR:=λ acc C=>compPost (model X.prog X.w) X.A X.xe none (EP X a1 LQ Q) acc C) hc Y a2 N a4 a7 a9 ab I2 T a6 f2 hW ?_;intro acc C H' s' m I' hn hC a8 q;exact⟨m,hn,λ h' aa=>⟨.ref acc,H',I2.yL I' hC a8 aa,rfl,q⟩⟩
theorem iS {a5 B:Expr}{a4:List Expr}{i:Nat}{y:Str}{py a6:Pos}(ts fr:List Str)(js:List Nat)
  (ab:swapsWith (.ListComp a5 [⟨tg,B,a4,0⟩] scope pos) (some (.Name y py)) a6.line X.env=pure true) (hN:X.N.Nodup) (aj:X.N[i]?=some y) (hx:X.env.scope.names.lookup y=some .local)
  (hc:X.calm=true) (hi:PI X tg B wi) (Z:scope.kind=.function) (a7:∀y∈scope.names,y.2≠.cell) (a3:∀y∈scope.names,y.2=.local->scope.names.lookup y.1=some .local)
  (a2:∀y∈scope.names,y.2=.free->y.1∈fr) (a9:jU X scope fr js)
  (ac:∀C fp G Y,PG (gR X scope C (ts++fr) fp G Y) tg g) (ad:∀C fp G Y,yK (gR X scope C (ts++fr) fp G Y) a4 ct) (ag:∀C fp G Y,PE (gR X scope C (ts++fr) fp G Y) a5 te)
  (hs:∀x,foldedSetIterable B X.env x=pure x:=by intro _;rfl):PS X (.Assign [.Name y py] (.ListComp a5 [⟨tg,B,a4,0⟩] scope pos) a6) (Bv (KL ts.length js wi g ct te) (rQ i)):=by
 have a0:∀y∈scope.names,y.2=.free->X.env.kindOf y.1=some .cell\/X.env.kindOf y.1=some .free:=λ y hy e=>a9.mem (a2 y hy e)
 intro a1 s LQ H D I h;rw[exec_Assign_Name_used _ _ _ _ ab];refine Oz (OM (Oz ?_));show wpAny _ X.A (do let _ <-comprehension (.ListComp a5 [⟨tg,B,a4,0⟩] scope pos) scope X.env _ (newList []) false (eval B X.env) (some (assign (.Name y py) X.env))) _ _ s;refine Oz (OB (O8 (use:=some (assign (.Name y py) X.env)) (Q:=λ _ s'=>SP X a1 D .next s') rfl hs (o1 λ y hy e=>I.ok.has y.1 (a0 y hy e)) Z a3
  (dC (hi a1 s LQ H _ I h) λ xv s1 h1=>dC h1 λ al s2 h2=>?_)) (λ _ s' hq=>OA (OA hq)) λ _ _ e=>e)
 obtain⟨it,fp,tn,J,H2,e,I2,T,ai,f2,hW⟩:=h2;subst e;refine Az (Q:=λ v H'=>D.nx (LQ.set i (some v)) H') (RR:=λ acc C=>compPost (model X.prog X.w) X.A X.xe (some (assign (.Name y py) X.env)) (λ _ s'=>SP X a1 D .next s') acc C) hc Z a7 a0 a9 ac ad ag I2 T ai f2 hW ?_;intro acc C H' s' m I' hn hC a8 q;show wpAny _ X.A (assign (.Name y py) X.env (.ref acc)) _ _ _;refine wpAny_assign_Name (wL I' hN aj (.inl hx) (v:=.ref acc) rfl (λ ak ah af=>?_) (.inr hx));obtain⟨h1,h2,h3,h4,h5,h6⟩:=I2.qy (H':=H') a8 hC;obtain⟨a,ae,ha⟩:=af;refine⟨m,hn.sameBut ae ?_,λ h' aa=>⟨_,H',I2.yL ah hC a8 aa,q⟩⟩
 rcases ha with ha | ha
 ·rw[ha];exact h2
 ·exact λ z=>h5 y a ha z.symm
end
theorem mJ {K:LV}{a:Addr}{xs:List V}{Y:St}{Q:VK}(G:Nat->List V->St->Hp->Prop)(h0:G 0 [] (kJ n N Y) (upd H1 acc (.lst [])))
  (hl:∀i ys B H,i<=xs.length->G i ys B H->cN K H a xs/\H acc=some (.lst ys)/\ys.length<sizeLine)
  (hs:∀i x ys B H,xs[i]?=some x->G i ys B H->g x B H λ D H4=>ct D H4 λ b H5=>if b=true then J D H5 λ y Z=>Z acc=some (.lst ys)/\G (i+1) (ys++[y]) D (upd Z acc (.lst (ys++[y]))) else G (i+1) ys D H5)
  (hd:∀ys B H,G xs.length ys B H->Q (.ref acc) H) :
  yJ (Ao K a) n N g ct J acc Y H1 Q:=by
 exists λ i m ys B H=>m=xs.length-i/\i<=xs.length/\G i ys B H,⟨xs.length,by simp,Me _,h0⟩;rintro i m ys B H ⟨rfl,hi,p⟩;obtain⟨q,q2,q3⟩:=hl i ys B H hi p;exists q2,q3;by_cases hlt:i<xs.length
 ·refine .inr ⟨⟨xs,xs[i],q,by simp[hlt]⟩,G (i+1),λ a1 a0 H' p'=>⟨xs.length-(i+1),by omega,rfl,hlt,p'⟩,λ x H' y=>?_⟩;obtain⟨e,y⟩:=y;subst e;exact hs i x ys B _ (y xs q) p
 ·have e:i=xs.length:=by omega
  subst e;exact .inl ⟨⟨xs,q,LW _⟩,hd ys B H p⟩
theorem ke {K:LV}{a:Addr}{xs:List V}{Y:St}{Q:VK}(G:Nat->List V->St->Hp->Prop)(h0:G 0 [] (kJ n N Y) (upd H1 acc (.lst [])))
  (hl:∀i ys B H,i<=xs.length->G i ys B H->cE K H a xs/\H acc=some (.lst ys)/\ys.length<sizeLine)
  (hs:∀i x ys B H,xs[i]?=some x->G i ys B H->g x B H λ D H4=>ct D H4 λ b H5=>if b=true then J D H5 λ y Z=>Z acc=some (.lst ys)/\G (i+1) (ys++[y]) D (upd Z acc (.lst (ys++[y]))) else G (i+1) ys D H5)
  (hd:∀ys B H,G xs.length ys B H->Q (.ref acc) H) :
  yJ (Ap K a) n N g ct J acc Y H1 Q:=by
 exists λ i m ys B H=>m=xs.length-i/\i<=xs.length/\G i ys B H,⟨xs.length,by simp,Me _,h0⟩;rintro i m ys B H ⟨rfl,hi,p⟩;obtain⟨q,q2,q3⟩:=hl i ys B H hi p;exists q2,q3;by_cases hlt:i<xs.length
 ·refine .inr ⟨⟨xs,xs[i],q,by simp[hlt]⟩,G (i+1),λ a1 a0 H' p'=>⟨xs.length-(i+1),by omega,rfl,hlt,p'⟩,λ x H' y=>?_⟩;obtain⟨e,y⟩:=y;subst e;exact hs i x ys B _ (y xs q) p
 ·have e:i=xs.length:=by omega
  subst e;exact .inl ⟨⟨xs,q,LW _⟩,hd ys B H p⟩
theorem jV {lo:Int}{k:Nat}{Y:St}{Q:VK}(G:Nat->List V->St->Hp->Prop)(h0:G 0 [] (kJ n N Y) (upd H1 acc (.lst [])))
  (hl:∀i ys B H,i<=k->G i ys B H->H acc=some (.lst ys)/\ys.length<sizeLine)
  (hs:∀i ys B H,i<k->G i ys B H->g (.int (lo+i)) B H λ D H4=>ct D H4 λ b H5=>if b=true then J D H5 λ y Z=>Z acc=some (.lst ys)/\G (i+1) (ys++[y]) D (upd Z acc (.lst (ys++[y]))) else G (i+1) ys D H5)
  (hd:∀ys B H,G k ys B H->Q (.ref acc) H) :
  yJ (yD lo k) n N g ct J acc Y H1 Q:=by
 exists λ i m ys B H=>m=k-i/\i<=k/\G i ys B H,⟨k,by simp,Me _,h0⟩;rintro i m ys B H ⟨rfl,hi,p⟩;obtain⟨q2,q3⟩:=hl i ys B H hi p;exists q2,q3;by_cases hlt:i<k
 ·refine .inr ⟨hlt,G (i+1),λ a1 a0 H' p'=>⟨k-(i+1),by omega,rfl,hlt,p'⟩,λ x H' y=>?_⟩;obtain⟨e,y⟩:=y;subst e y;exact hs i ys B _ hlt p
 ·have e:i=k:=by omega
  subst e;exact .inl ⟨LW _,hd ys B H p⟩
section
variable {X:Cx}
end
def Ln (t:TS):TS:=λ D LQ H=>∃M:St->Hp->Prop,t { D with nx:=M } LQ H/\∀σ' H',M σ' H'->D.nx σ' H'
theorem fI {t:TS}(h:PS X st t):PS X st (Ln t):=by
 intro B s Z H D I q;obtain⟨M,q,N⟩:=q;refine dC (h B s Z H _ I q) λ f s' G=>?_
 cases f with
 | next =>
  obtain⟨J,H',Y,m⟩:=G;exact⟨J,H',Y,N _ _ m⟩
 | brk=>exact G
 | cont=>exact G
 | ret u=>exact G
theorem ij {m:Int}(h0:0<m)(B:m<1073741824):m.natAbs.log2<9000:=by
 have h:m.natAbs.log2<30:=(Nat.log2_lt ⋯).mpr ⋯;omega
theorem oz {K:LV}{es:List Expr}{k:Nat}{t:yC}{n:Nat}{pos:Pos}(B:X.K=K)(h:PG X (.Tuple es k pos) (EX X.K n t)):PG X (.Tuple es k pos) (EX K n t):=by
 subst B;exact h
mutual
inductive cW (H:Hp):V->PyData->Prop
 | eu:cW H .eu .none
 | bl (b:Bool):cW H (.bl b) (.bool b)
 | int (i:Int):cW H (.int i) (.int i)
 | str (x:Str):cW H (.str x) (.str x)
 | lst {p:Addr} {xs:List V} {ds:List PyData}:H p=some (.lst xs)->dh H xs ds->cW H (.ref p) (.list ds)
 | tup {p:Addr} {xs:List V} {ds:List PyData}:H p=some (.tup xs)->dh H xs ds->cW H (.ref p) (.tuple ds)
inductive dh (H:Hp):List V->List PyData->Prop
 | nil:dh H [] []
 | cons {x:V} {xs:List V} {d:PyData} {ds:List PyData}:cW H x d->dh H xs ds->dh H (x::xs) (d::ds)
end
section
variable {P:Program}{w:World}{H:Hp}{h:Heap}
mutual
theorem cW.reads (ok:ia P w H h):∀{x:V} {d:PyData} {v:Value},cW H x d->RelV x v->∃D,Reads h v d D
 | _,_,v,.eu,r=>by
  cases (show v=Value.none from r);exact⟨_,.none⟩
 | _,_,v,.bl b,r=>by
  cases (show v=Value.bool b from r);exact⟨_,.bool b⟩
 | _,_,v,.int i,r=>by
  obtain⟨t,e⟩:=(show ∃t,v=Value.int i t from r);cases e;exact⟨_,.int i t⟩
 | _,_,v,.str x,r=>by
  obtain⟨t,e⟩:=(show ∃t,v=Value.str x t from r);cases e;exact⟨_,.str x t⟩
 | _,_,v,.lst (p:=p) (xs:=xs) e ds,r=>by
  cases (show v=Value.ref p from r);obtain⟨_,its,n,G,J⟩:=(show ff P w H h p (.lst xs) from ok p _ e);obtain⟨D,B⟩:=dh.reads ok ds G;exact⟨_,.list (vs:=its.toArray) J rfl rfl (by simpa using B)⟩
 | _,_,v,.tup (p:=p) (xs:=xs) e ds,r=>by
  cases (show v=Value.ref p from r);obtain⟨_,its,G,o,J,Y,n,N⟩:=(show ff P w H h p (.tup xs) from ok p _ e);obtain⟨D,B⟩:=dh.reads ok ds G;exact⟨_,.tuple (vs:=its.toArray) J Y N.1 (by simpa using B)⟩
theorem dh.reads (ok:ia P w H h):∀{xs:List V} {ds:List PyData} {vs:List Value},dh H xs ds->Vals xs vs->∃B,ReadsAll h vs ds B
 | _,_,_,.nil,.nil=>⟨_,.nil⟩
 | _,_,_,.cons r rs,.cons q qs=>by
  obtain⟨B,D⟩:=cW.reads ok r q;obtain⟨bs,G⟩:=dh.reads ok rs qs;exact⟨_,.cons D G⟩
end
end
section
variable {X:Cx}
inductive Lo (neg:Bool) (x:V) (y:V) (H:Hp) (Q:VK):Prop
 | mk (dx dy:_) (_:cW H x dx) (_:cW H y dy) (_:dx.canLay0=true) (_:dy.canLay0=true) (_:min dx.depth dy.depth<=60) (_:Q (.bl (if neg then !PyData.eqv dx dy else PyData.eqv dx dy)) H)
theorem qE (hu:X.A.units+64<cLine):iK X (compareOp .NotEq) (Lo true):=by
 intro B s LQ H x y v u Q I G ry h;obtain⟨N,dy,r1,D,Y,Z,hd,q⟩:=h;obtain⟨J,ra⟩:=r1.reads I.de G;obtain⟨bs,rb⟩:=D.reads I.de ry;exact PySem.SeqAt.neOverData X.prog X.w X.A X.xe s v u N dy J bs _ ra rb Y Z ⋯ ⟨.bl _,H,I,rfl,q⟩
end
def one (c:Nat):Str:=⟨#[c]⟩
theorem yM (rest:List Str):∀a:Array Nat,(rest.foldl (λ acc p=>acc++Str.empty.cps++p.cps) a).toList=a.toList++rest.flatMap (·.cps.toList):=by
 induction rest with
 | nil=>intro a;simp
 | cons x r ih =>
  intro a;rw[Nn,ih];have e:Str.empty.cps = #[]:=rfl;simp[e]
theorem join_ones (cs:List Nat):(Txt.join Str.empty (cs.map one)).cps.toList=cs:=by
 cases cs with
 | nil=>rfl
 | cons c r =>
  show (List.foldl (λ acc p=>acc++Str.empty.cps++p.cps) (#[c]:Array Nat) (r.map one)).toList=c::r;rw[yM];simp only[List.flatMap_map,one];simp
theorem Fn:Str.ofString "" = Str.empty:=by decide
theorem BO {ys:List Str}:∀{us:List Value},Vals (ys.map V.str) us->StrsAre us ys:=by
 induction ys with
 | nil=>intro us r;cases r;exact .nil
 | cons y ys ih =>
  intro us r;cases r with
  | cons h t =>
   obtain⟨k,e⟩:=h;subst e;exact .cons y k (ih t)
section
variable {X:Cx}
inductive rJoin (K:LV) (x:V) (vs:List V) (H:Hp) (Q:VK):Prop
 | mk (z:Str) (p:Addr) (ys:List Str) (_:x=.str z) (_:vs=[.ref p]) (_:cN K H p (ys.map V.str)) (_:(ys.map (·.length)).sum+ys.length*z.length<=16777216) (_:Q (.str (Txt.join z ys)) H)
theorem AA:Ju X "str.join" (rJoin X.K):=by
 intro D s Z H x vs v us Q I J Y h;obtain⟨z,p,ys,rfl,rfl,G,hz,q⟩:=h;obtain⟨t,e⟩:=(show ∃t,v=Value.str z t from J);subst e;obtain⟨u,rfl,N⟩:=vals1 Y;cases (show u=Value.ref p from N);obtain⟨its,B,pl,_⟩:=I.list G;exact join_list pl.isList (by simpa using BO B) hz λ t' k=>⟨.str _,H,I.tok k,⟨_,rfl⟩,q⟩
end
inductive e6 where
 | put (x:Str) (n:Int)
 | copy (x y:Str)
 | add (x:Str) (n:Int)
 | read (x:Str)
 | tell (x:Str)
inductive End where
 | stop
 | go (p:Nat)
 | eM (less:Bool) (x:Str) (n:Int) (p q:Nat)
abbrev Piece:=List e6×End
def wT (b:Bool):Str:=if b=true then "less" else "is"
def eN:e6->PyData
 | .put x n=>.tuple [.str "put",.str x,.int n]
 | .copy x y=>.tuple [.str "copy",.str x,.str y]
 | .add x n=>.tuple [.str "add",.str x,.int n]
 | .read x=>.tuple [.str "read",.str x]
 | .tell x=>.tuple [.str "tell",.str x]
def jd:End->PyData
 | .stop=>.tuple [.str "stop"]
 | .go p=>.tuple [.str "go",.int p]
 | .eM b x n p q=>.tuple [.str (wT b),.str x,.int n,.int p,.int q]
def d8 (p:Piece):PyData:=.tuple [.tuple (p.1.map eN),jd p.2]
def fq (ps:List Piece):PyData:=.tuple (ps.map d8)
structure hU (x:Str):Prop where
 lo:1<=x.length
 hi:x.length<=8
 az:∀c∈x.cps.toList,97<=c/\c<=122
def o2 (n:Int):Prop:=-(10 ^ 40)<n/\n<10 ^ 40
def fV (xs:List Str):e6->Prop
 | .put x n=>x∈xs/\o2 n
 | .copy x y=>x∈xs/\y∈xs
 | .add x n=>x∈xs/\o2 n
 | .read x=>x∈xs
 | .tell x=>x∈xs
def iT (xs:List Str)(count:Nat):End->Prop
 | .stop=>True
 | .go p=>p<count
 | .eM _ x n p q=>x∈xs/\o2 n/\p<count/\q<count
structure fi (xs:List Str) (most:Nat) (ps:List Piece):Prop where
 jM:∀p∈ps,p.1.length<=most/\∀d∈p.1,fV xs d
 ends:∀p∈ps,iT xs ps.length p.2
mutual
def eh:PyData->Bool
 | .list _=>false
 | .tuple xs=>dQ xs
 | _=>true
def dQ:List PyData->Bool
 | []=>true
 | x::xs=>eh x&&dQ xs
end
mutual
theorem cW.dr {H H':Hp}(k:∀p xs,H p=some (.tup xs)->H' p=some (.tup xs)):∀{x:V} {d:PyData},cW H x d->eh d=true->cW H' x d
 | _,_,.eu,_=>.eu
 | _,_,.bl b,_=>.bl b
 | _,_,.int i,_=>.int i
 | _,_,.str x,_=>.str x
 | _,_,.lst _ _,h=>nomatch h
 | _,_,.tup e ds,h=>.tup (k _ _ e) (dh.dr k ds h)
theorem dh.dr {H H':Hp}(k:∀p xs,H p=some (.tup xs)->H' p=some (.tup xs)):∀{xs:List V} {ds:List PyData},dh H xs ds->dQ ds=true->dh H' xs ds
 | _,_,.nil,_=>.nil
 | _,_,.cons r rs,h=>by
  simp only[dQ,MA] at h;exact .cons (cW.dr k r h.1) (dh.dr k rs h.2)
end
theorem cW.fix {b:Addr}{x:V}{d:PyData}(r:cW H x d)(hb:e7 H b)(f:Fix b H H')(n:eh d=true):cW H' x d :=
 r.dr (λ p xs e=>f p _ e (hb.hR e)) n
theorem cW.same {H:Hp}{x:V}{d:PyData}(r:cW H x d)(f:cy H H')(n:eh d=true):cW H' x d :=
 r.dr (λ p xs e=>f p _ e) n
theorem dh.fix {b:Addr}{xs:List V}(r:dh H xs ds)(hb:e7 H b)(f:Fix b H H')(n:dQ ds=true):dh H' xs ds :=
 r.dr (λ p xs e=>f p _ e (hb.hR e)) n
theorem dh.same {H:Hp}{xs:List V}(r:dh H xs ds)(f:cy H H')(n:dQ ds=true):dh H' xs ds :=
 r.dr (λ p xs e=>f p _ e) n
theorem dh.put {H:Hp}{xs ys:List V}{l:Addr}{o:HO}(r:dh H xs ds)(B:H l=some (.lst ys))(n:dQ ds=true):dh (upd H l o) xs ds :=
 r.dr (λ p D e=>by rw[cx (dD e B (by intro z;cases z))];exact e) n
theorem dh.app {H:Hp}{x:V}{d:PyData}:∀{xs:List V} {ds:List PyData},dh H xs ds->cW H x d->dh H (xs++[x]) (ds++[d])
 | _,_,.nil,q=>.cons q .nil
 | _,_,.cons r rs,q=>.cons r (dh.app rs q)
theorem dh.len {H:Hp}:∀{xs:List V} {ds:List PyData},dh H xs ds->xs.length=ds.length
 | _,_,.nil=>rfl
 | _,_,.cons _ rs=>by simp[dh.len rs]
theorem i8 (d:e6):eh (eN d)=true:=by cases d<;>rfl
theorem jB (e:End):eh (jd e)=true:=by cases e<;>rfl
theorem dq:∀ds:List e6,dQ (ds.map eN)=true
 | []=>rfl
 | d::ds=>by show (eh (eN d)&&dQ (ds.map eN))=true;rw[i8,dq ds];rfl
theorem gM (p:Piece):eh (d8 p)=true:=by
 show (dQ (p.1.map eN)&&(eh (jd p.2)&&true))=true;rw[dq,jB];rfl
theorem cO:∀ps:List Piece,dQ (ps.map d8)=true
 | []=>rfl
 | p::ps=>by show (eh (d8 p)&&dQ (ps.map d8))=true;rw[gM,cO ps];rfl
theorem d6 (ps:List Piece):eh (fq ps)=true:=cO ps
structure iO (H:Hp) (b l:Addr) (xs:List Str):Prop where
 at_:H l=some (.lst (xs.map V.str))
 ne:l≠b
 yk:xs≠[]
 er:xs.length<=1000
 ok:∀x∈xs,hU x
theorem iO.fix {b l:Addr}{xs:List Str}(h:iO H b l xs)(f:Fix b H H'):iO H' b l xs:=⟨f l _ h.at_ h.ne,h.ne,h.yk,h.er,h.ok⟩
theorem iO.pos {l:Addr}{xs:List Str}(h:iO H b l xs):0<((xs.map V.str).length:Int)/\((xs.map V.str).length:Int)<1073741824:=by
 have B:=h.yk;have G:=h.er;have D:0<xs.length:=by cases xs with | nil=>exact absurd rfl B | cons _ _=>simp
 rw[LU];omega
inductive vI  (vs:List V) (H:Hp) (Q:VK) (_:XK):Prop
 | mk (b:Addr) (_:vs=[.ref b]) (_:e7 H b) (_:∀l xs H',iO H' b l xs->xs.length<=4->e7 H' b->Fix b H H'->Q (.ref l) H')
inductive o3  (vs:List V) (H:Hp) (Q:VK) (_:XK):Prop
 | mk (b:Addr) (_:vs=[.ref b]) (_:e7 H b) (_:∀n H',o2 n->e7 H' b->Fix b H H'->Q (.int n) H')
inductive uI  (vs:List V) (H:Hp) (Q:VK) (_:XK):Prop
 | mk (b l:Addr) (xs:List Str) (_:vs=[.ref b,.ref l]) (_:e7 H b) (_:iO H b l xs) (_:∀v d H',cW H' v (eN d)->fV xs d->e7 H' b->Fix b H H'->Q v H')
inductive uJ  (vs:List V) (H:Hp) (Q:VK) (_:XK):Prop
 | mk (b l:Addr) (xs:List Str) (c:Nat) (_:vs=[.ref b,.ref l,.int c]) (_:e7 H b) (_:iO H b l xs) (_:0<c) (_:c<1073741824) (_:∀v e H',cW H' v (jd e)->iT xs c e->e7 H' b->Fix b H H'->Q v H')
inductive yN  (vs:List V) (H:Hp) (Q:VK) (_:XK):Prop
 | mk (b:Addr) (c m:Nat) (_:vs=[.ref b,.int c,.int m]) (_:e7 H b) (_:0<c) (_:c<=1000) (_:m<=1000) (_:∀v xs ps H',cW H' v (fq ps)->ps.length=c->fi xs m ps->((∀x∈xs,hU x)/\xs.length<=4)->e7 H' b->Fix b H H'->Q v H')
def oA:Str := "abcdefghijklmnopqrstuvwxyz"
theorem yO:oA.cps.toList=(L1 26).map (· + 97):=by decide
theorem rV:oA.length<=sizeLine:=by decide
theorem uK {r:Int}(h0:0<=r)(J:r<26):∃c,iL oA.cps.toList r=some c/\97<=c/\c<=122:=by
 have D:oA.cps.toList.length=26:=by rw[yO];simp
 obtain⟨c,B,hm⟩:=BN (xs:=oA.cps.toList) h0 (by rw[D];exact J);exists c,B;rw[yO] at hm;obtain⟨k,G,rfl⟩:=Mb.mp hm;have:=MI.mp G;omega
theorem tO {xs:List Str}{r:Int}(h0:0<=r)(D:r<((xs.map V.str).length:Int)):∃x,iL (xs.map V.str) r=some (V.str x)/\x∈xs:=by
 obtain⟨v,B,hm⟩:=BN h0 D;obtain⟨x,hx,rfl⟩:=Mb.mp hm;exact⟨x,B,hx⟩
theorem iw {B:L2.St}{Q:Bool->Hp->Prop}(h:Q true H):JC B H Q:=h
theorem dW {i:Nat}{B:L2.St}{Q:L2.St->Hp->Prop}(h:Q (B.set i (some v)) H):rQ i v B H Q:=h
section
variable {κ : Type}[DecidableEq κ]
def fF (kvs:List (κ×V))(k:κ):Option V:=(kvs.find? λ kv=>decide (kv.1=k)).map (·.2)
def putK (kvs:List (κ×V))(k:κ)(v:V):List (κ×V) :=
 if (kvs.any λ kv=>decide (kv.1=k))=true then kvs.map (λ kv=>if kv.1=k then (kv.1,v) else kv) else kvs++[(k,v)]
theorem gy {p:κ×V}{r:List (κ×V)}{k:κ}(e:p.1=k):fF (p::r) k=some p.2:=by simp[fF,Np,e]
theorem gB {p:κ×V}{r:List (κ×V)}{k:κ}(e:¬p.1=k):fF (p::r) k=fF r k:=by simp[fF,Np,e]
theorem o4 (k:κ):∀kvs:List (κ×V),(kvs.any λ B=>decide (B.1=k))=(fF kvs k).isSome
 | []=>rfl
 | p::r=>by
  rw[ND];by_cases e:p.1=k
  ·simp only[gy e,decide_eq_true e,Bool.true_or,Option.isSome_some]
  ·rw[gB e,decide_eq_false e,Bool.false_or];exact o4 k r
theorem yP (k j:κ)(y:V):∀kvs:List (κ×V),fF (kvs.map λ B=>if B.1=k then (B.1,y) else B) j=(fF kvs j).map λ x=>if j=k then y else x
 | []=>rfl
 | p::r=>by
  have D:=yP k j y r;rw[Mt];by_cases h:p.1=k
  ·rw[if_pos h];by_cases e:p.1=j
   ·rw[gy (p:=(p.1,y)) e,gy e,NJ,if_pos (e.symm.trans h)]
   ·rw[gB (p:=(p.1,y)) e,gB e,D]
  ·rw[if_neg h];by_cases e:p.1=j
   ·rw[gy (p:=p) e,gy e,NJ,if_neg (λ z=>h (e.trans z))]
   ·rw[gB (p:=p) e,gB e,D]
theorem xa (k j:κ)(y:V):∀kvs:List (κ×V),fF kvs k=none->fF (kvs++[(k,y)]) j=if j=k then some y else fF kvs j
 | [],_=>by
  by_cases e:k=j
  ·rw[if_pos e.symm];exact gy (p:=(k,y)) e
  ·rw[if_neg (λ z=>e z.symm)];exact gB (p:=(k,y)) e
 | p::r,hn=>by
  rw[List.cons_append];have B:¬p.1=k:=λ z=>by rw[gy z] at hn;cases hn
  rw[gB B] at hn;have D:=xa k j y r hn;by_cases e:p.1=j
  ·rw[gy e,gy e,if_neg (λ z=>B (e.trans z))]
  ·rw[gB e,gB e,D]
theorem o5 (kvs:List (κ×V))(k j:κ)(y:V):fF (putK kvs k y) j=if j=k then some y else fF kvs j:=by
 unfold putK;by_cases a:(kvs.any λ B=>decide (B.1=k))=true
 ·rw[if_pos a,yP];rw[o4] at a;by_cases e:j=k
  ·obtain⟨x,hx⟩:=Option.isSome_iff_exists.mp a;rw[if_pos e,e,hx,NJ,if_pos rfl]
  ·rw[if_neg e];cases fF kvs j with
   | none=>rfl
   | some x=>rw[NJ,if_neg e]
 ·rw[if_neg a];refine xa k j y kvs ?_;rw[o4] at a;cases q:fF kvs k with
  | none=>rfl
  | some x=>rw[q] at a;exact (a rfl).elim
theorem fY (kvs:List (κ×V))(k:κ)(v:V):(putK kvs k v).length<=kvs.length+1:=by
 unfold putK;split
 ·rw[LU];omega
 ·rw[LY,Ms,NK];omega
theorem jc.qF {o:Option V}{u:Option Value}(r:jc o u):o.isSome=u.isSome:=by
 cases o with
 | none=>cases u with
  | none=>rfl
  | some _=>exact (show False from r).elim
 | some _=>cases u with
  | none=>exact (show False from r).elim
  | some _=>rfl
theorem jc.getD {o:Option V}{u:Option Value}{d:V}{d':Value}(r:jc o u)(rd:RelV d d'):RelV (o.getD d) (u.getD d'):=by
 cases o with
 | none=>cases u with
  | none=>exact rd
  | some _=>exact (show False from r).elim
 | some _=>cases u with
  | none=>exact (show False from r).elim
  | some _=>exact r
theorem KV.val {kvs:List (κ×V)}{vs:List (κ×Value)}(r:KV kvs vs)(k:κ):jc (fF kvs k) (valueAt vs k):=by
 unfold KV at r
 induction r with
 | nil=>exact True.intro
 | @cons p q ps qs h t ih =>
  obtain⟨D,G⟩:=h;by_cases e:p.1=k
  ·have B:q.1=k:=D.symm.trans e;have b:valueAt (q::qs) k=some q.2:=by simp[valueAt,Np,B]
   rw[gy e,b];exact G
  ·have B:¬q.1=k:=λ z=>e (D.trans z)
   have b:valueAt (q::qs) k=valueAt qs k:=by simp[valueAt,Np,B]
   rw[gB e,b];exact ih
theorem KV.any {kvs:List (κ×V)}{vs:List (κ×Value)}(r:KV kvs vs)(k:κ):(kvs.any λ B=>decide (B.1=k))=vs.any λ B=>decide (B.1=k):=by
 unfold KV at r
 induction r with
 | nil=>rfl
 | cons h t ih=>rw[ND,ND,ih,h.1]
theorem KV.Fo {kvs:List (κ×V)}{vs:List (κ×Value)}(r:KV kvs vs)(k:κ)(J:RelV y u) :
  KV (kvs.map λ B=>if B.1=k then (B.1,y) else B) (vs.map λ B=>if B.1=k then (B.1,u) else B):=by
 unfold KV at r ⊢
 induction r with
 | nil=>exact .nil
 | @cons p q ps qs h t ih =>
  rw[Mt,Mt];refine .cons ?_ ih;obtain⟨D,G⟩:=h;by_cases e:p.1=k
  ·rw[if_pos e,if_pos (D.symm.trans e)];exact⟨D,J⟩
  ·rw[if_neg e,if_neg (λ z=>e (D.trans z))];exact⟨D,G⟩
theorem KV.put {kvs:List (κ×V)}{vs:List (κ×Value)}(r:KV kvs vs)(k:κ)(B:RelV y u):KV (putK kvs k y) (stored vs k u):=by
 unfold putK stored;rw[r.any k];by_cases e:(vs.any λ D=>decide (D.1=k))=true
 ·rw[if_pos e,if_pos e];exact r.Fo k B
 ·rw[if_neg e,if_neg e];exact Paired.snoc r ⟨rfl,B⟩
theorem KV.keys {kvs:List (κ×V)}{vs:List (κ×Value)}(r:KV kvs vs):kvs.map (·.1)=vs.map (·.1):=by
 unfold KV at r
 induction r with
 | nil=>rfl
 | cons h t ih=>rw[Mt,Mt,ih,h.1]
theorem KV.length {kvs:List (κ×V)}{vs:List (κ×Value)}(r:KV kvs vs):kvs.length=vs.length:=Paired.length r
end
theorem mB {k:Key}(r:RelV (kV k) u):(dm P w).is k u=true:=by
 cases k with
 | inl i=>obtain⟨t,e⟩:=(show ∃t,u=Value.int i t from r);subst e;exact sP P w i t
 | inr x=>obtain⟨t,e⟩:=(show ∃t,u=Value.str x t from r);subst e;exact sQ P w x t
theorem xb {P:Program}{w:World}:∀{ks:List Key} {us:List Value},Vals (ks.map kV) us->ItemsAre (dm P w) ks us
 | [],_,r=>by rw[NI] at r;cases r;exact .nil
 | k::ks,_,r=>by
  rw[Mt] at r;cases r with
  | cons h t=>exact .cons (mB h) (xb t)
abbrev KT (H:Hp):List (List Key×V)->List (List Key×Addr×Value)->Prop:=Paired λ p q=>p.1=q.1/\H q.2.1=some (.tup (p.1.map kV))/\RelV p.2 q.2.2
theorem KT.val {kvs:List (List Key×V)}(r:KT H kvs xs)(k:List Key):jc (fF kvs k) ((atKey xs k).map (·.2)):=by
 induction r with
 | nil=>exact True.intro
 | @cons p q ps qs h t ih =>
  obtain⟨D,_,G⟩:=h;by_cases e:p.1=k
  ·have B:q.1=k:=D.symm.trans e;have b:atKey (q::qs) k=some q.2:=by simp[atKey,Np,B]
   rw[gy e,b];exact G
  ·have B:¬q.1=k:=λ z=>e (D.trans z)
   have b:atKey (q::qs) k=atKey qs k:=by simp[atKey,Np,B]
   rw[gB e,b];exact ih
theorem KT.Fo (r:KT H kvs xs)(k:List Key)(N:RelV y u) :
  KT H (kvs.map λ D=>if D.1=k then (D.1,y) else D) (xs.map (putAt k u)):=by
 induction r with
 | nil=>exact .nil
 | @cons p q ps qs h t ih =>
  rw[Mt,Mt];refine .cons ?_ ih;obtain⟨B,G,J⟩:=h;unfold putAt;by_cases e:p.1=k
  ·rw[if_pos e,if_pos (B.symm.trans e)];exact⟨B,G,N⟩
  ·rw[if_neg e,if_neg (λ z=>e (B.trans z))];exact⟨B,G,J⟩
theorem KT.put {H:Hp}{kvs:List (List Key×V)}(r:KT H kvs xs)(k:List Key)(hb:H b=some (.tup (k.map kV)))(B:RelV y u) :
  KT H (putK kvs k y) (storedH xs k b u):=by
 have e:(kvs.any λ D=>decide (D.1=k))=(atKey xs k).isSome:=by
  rw[o4,(r.val k).qF,Option.isSome_map]
 unfold putK storedH;rw[e];by_cases q:(atKey xs k).isSome=true
 ·rw[if_pos q,if_pos q];exact r.Fo k B
 ·rw[if_neg q,if_neg q];exact Paired.snoc r ⟨rfl,hb,B⟩
theorem KT.keeps (r:KT H kvs xs)(B:∀b ys,H b=some (.tup ys)->H' b=some (.tup ys)):KT H' kvs xs :=
 Paired.ER r λ _ _ z=>⟨z.1,B _ _ z.2.1,z.2.2⟩
section
variable {P:Program}{w:World}{H:Hp}{h:Heap}{a:Addr}
theorem GY {u:HO}(ok:ia P w H h)(e:Rd H a u):ff P w H h a u:=e.ok ok
theorem ny {kvs:List (Key×V)}(ok:ia P w H h)(e:Rd H a (.dK kvs)):kvs.length<=sizeLine/\(a == sysModules)=false/\∃vs,KV kvs vs/\h.DictOf (dm P w) a vs :=
 show ff P w H h a (.dK kvs) from GY ok e
theorem yl {kvs:List (Key×V)}(ok:ia P w H h)(e:H a=some (.dK kvs)):kvs.length<=sizeLine/\(a == sysModules)=false/\∃vs,KV kvs vs/\h.DictOf (dm P w) a vs:=ny ok (.inl e)
theorem oB {ks:List Key}(ok:ia P w H h)(e:H a=some (.tup (ks.map kV))):(tupleKind (dm P w)).is h ks a:=by
 obtain⟨_,its,r,o,G,D,n,B⟩:=(show ff P w H h a (.tup (ks.map kV)) from ok a _ e);exact⟨o,its.toArray,n,G,D,B.1,by simpa using xb r⟩
theorem o6 (ok:ia P w H h)(e:Rd H a (.dT kvs)):kvs.length<=sizeLine/\(a == sysModules)=false /\
  ∃xs,KT H kvs xs/\h.DictOfH (tupleKind (dm P w)) a xs:=by
 obtain⟨z,y,xs,r,o,es,ep,N,G,D,B,J⟩:=(show ff P w H h a (.dT kvs) from GY ok e);refine⟨z,y,xs,r,o,es,ep,N,G,D,B,λ x hx=>?_,J⟩;have all:∀{l:List (List Key×V)} {m:List (List Key×Addr×Value)},KT H l m->∀x∈m,(tupleKind (dm P w)).is h x.1 x.2.1:=by
  intro l m q
  induction q with
  | nil=>intro x hx;exact nomatch hx
  | @cons p q ps qs hq t ih =>
   intro x hx
   rcases LZ.mp hx with e | hx
   ·subst e;exact oB ok (by rw[<-hq.1];exact hq.2.1)
   ·exact ih x hx
 exact all r x hx
theorem Kq (ok:ia P w H h)(e:H a=some (.dT kvs)):kvs.length<=sizeLine/\(a == sysModules)=false /\
  ∃xs,KT H kvs xs/\h.DictOfH (tupleKind (dm P w)) a xs:=o6 ok (.inl e)
end
def fS (H:Hp)(a:Addr)(y:V)(r:Option V):Prop :=
 (∃kvs k,Rd H a (.dK kvs)/\y=kV k/\r=fF kvs k)\/∃kvs k b,Rd H a (.dT kvs)/\y=.ref b/\H b=some (.tup (k.map kV))/\r=fF kvs k
def jW (H:Hp)(a:Addr)(y v:V)(H':Hp):Prop :=
 (∃kvs k,H a=some (.dK kvs)/\y=kV k/\kvs.length<sizeLine/\H' = upd H a (.dK (putK kvs k v))) \/
 ∃kvs k b,H a=some (.dT kvs)/\y=.ref b/\H b=some (.tup (k.map kV))/\kvs.length<sizeLine/\H' = upd H a (.dT (putK kvs k v))
theorem fS.k {H:Hp}{a:Addr}{kvs:List (Key×V)}{k:Key}(e:H a=some (.dK kvs)):fS H a (kV k) (fF kvs k):=.inl ⟨kvs,k,.inl e,rfl,rfl⟩
theorem jW.k {H:Hp}{a:Addr}{kvs:List (Key×V)}{k:Key}{v:V}(e:H a=some (.dK kvs))(B:kvs.length<sizeLine):jW H a (kV k) v (upd H a (.dK (putK kvs k v))):=.inl ⟨kvs,k,e,rfl,B,rfl⟩
section
variable {X:Cx}{pins:Z1}{LQ : St}{H:Hp}{s:Shared}{a:Addr}{y v:V}{u r:Value}{o:Option V}{A:Around}{E:Z0}
theorem Inv.big (I:Inv X pins LQ H s):sysModules<s.heap.objs.size:=by
 have h:mainGlobals<s.heap.objs.size:=(I.mod.glob.keeps I.bk).lt;exact NX ⋯ h
theorem Dm (hu:A.units+1<cLine)(I:Inv X pins LQ H s)(g:fS H a y (some v))(Z:RelV y u)(h:∀D s',Inv X pins LQ H s'->RelV v D->Q D s') :
  wpAny (model X.prog X.w) A (getItem (.ref a) u) Q E s:=by
 rcases g with ⟨kvs,k,e,G,l⟩ | ⟨kvs,k,b,e,G,eb,l⟩
 ·subst G;obtain⟨z,hd,vs,rel,Y⟩:=ny I.de e;obtain⟨D,N,B⟩:=jc.some_of (v:=v) (o:=valueAt vs k) (by rw[l];exact rel.val k);exact wpAny_getItem_of (mB Z) Y.mapOf N (h D _ (I.tok _) B)
 ·subst G;cases (show u=Value.ref b from Z);obtain⟨z,hd,xs,rel,Y⟩:=o6 I.de e;obtain⟨D,N,B⟩:=jc.some_of (v:=v) (o:=(atKey xs k).map (·.2)) (by rw[l];exact rel.val k);obtain⟨p,hp,J⟩:=Option.map_eq_some_iff.mp N;refine O9 (tupleKind_room_in1 hu) (oB I.de eb) Y hp ?_;rw[J];exact h D _ (I.tok _) B
theorem HJ (Y:A.units+1<cLine)(I:Inv X pins LQ H s)(g:fS H a y o)(G:RelV y u)(h:∀J,Inv X pins LQ H J->Q (.bool (!o.isSome)) J) :
  wpAny (model X.prog X.w) A (compareOp .NotIn u (.ref a)) Q E s:=by
 rcases g with ⟨kvs,k,e,B,l⟩ | ⟨kvs,k,b,e,B,N,l⟩
 ·subst B;obtain⟨z,hd,vs,rel,D⟩:=ny I.de e;refine wpAny_notIn_of (mB G) hd D.mapOf ?_;rw[<-(rel.val k).qF,<-l];exact h _ (I.tok _)
 ·subst B;cases (show u=Value.ref b from G);obtain⟨z,hd,xs,rel,D⟩:=o6 I.de e;refine wpAny_notIn_heap (tupleKind_room_in1 Y) (oB I.de N) hd D ?_;have q:=(rel.val k).qF;rw[Option.isSome_map] at q;rw[<-q,<-l];exact h _ (I.tok _)
theorem rW {t':Nat}{ob:HO}(I:Inv X pins LQ H s)(B:CW (H a))(G:Mx a s.heap h')(D:∃q,h'.get? a=some q)(new:ff X.prog X.w (upd H a ob) h' a ob) :
  Inv X pins LQ (upd H a ob) { s with heap:=h',toks:=t' } :=
 I.write (x:=a) (e:=a) B (.inl rfl) (λ b q hb z=>(G.2 b hb).trans z) D new
theorem oC {kvs:List (Key×V)}{vs:List (Key×Value)}(z:kvs.length<=sizeLine)(hd:(a == sysModules)=false)(rel:KV kvs vs)(B:h'.DictOf (dm P w) a vs) :
  ff P w H' h' a (.dK kvs):=⟨z,hd,vs,rel,B⟩
theorem Dn {Q:Unit->Shared->Prop}(hu:A.units+1<cLine)(I:Inv X pins LQ H s)(g:jW H a y v H')(ry:RelV y u)(rv:RelV v r)(h:∀s',Inv X pins LQ H' s'->Q () s') :
  wpAny (model X.prog X.w) A (setItem (.ref a) u r) Q E s:=by
 rcases g with ⟨kvs,k,e,D,l,J⟩ | ⟨kvs,k,b,e,D,Z,l,J⟩
 ·subst D J;obtain⟨z,hd,vs,rel,N⟩:=yl I.de e;have hz:vs.length<=sizeLine:=by rw[<-rel.length];exact z
  have G:(putK kvs k v).length<=sizeLine:=by have:=fY kvs k v;omega
  refine wpAny_setItem_pairs (hsz:=hz) (mB ry) N λ h' B Y=>h _ ?_
  have he:∃q,h'.get? a=some q:=let ⟨q,_,_,hq,_⟩:=B;⟨q,hq⟩
  exact rW I (by rw[e];exact True.intro) Y he (oC G hd (rel.put k rv) B)
 ·subst D J;cases (show u=Value.ref b from ry);obtain⟨z,hd,xs,rel,N⟩:=Kq I.de e;have hz:xs.length<=sizeLine:=by rw[<-Paired.length rel];exact z
  have G:(putK kvs k v).length<=sizeLine:=by have:=fY kvs k v;omega
  refine wpAny_setItem_heap (hsz:=hz) (tupleKind_room_in1 hu) (oB I.de Z) N λ h' B Y=>h _ ?_
  obtain⟨q,es,ep,hq,h2,h3,h4,_,h5⟩:=B;refine rW I (by rw[e];exact True.intro) Y ⟨q,hq⟩ ⟨G,hd,_,(rel.put k Z rv).keeps λ c ys ec=>?_,q,es,ep,hq,h2,h3,h4,h5⟩;rw[cx (dD ec e (λ z=>nomatch z))];exact ec
end
section
variable {X:Cx}{pins:Z1}{LQ : St}{H:Hp}{s:Shared}{a:Addr}{kvs:List (Key×V)}{k:Key}{u:Value}{A:Around}{E:Z0}
end
def yQ (i:Expr):Prop:=∀ov iv,subscripted i false ov iv=operate [ov,iv] (getItem ov iv)
theorem rX {A:Around}{value B:Expr}{pos:Pos}{T id:String}
  (hl:typeLookup (.type T) "__getitem__" = pure (some (.builtin id))) (hs:yQ B)
  (h:wpAny (model prog w) A (eval value env) (λ o N=>wpAny (model prog w) A (eval B env) (λ i D=>D.TypeIs o T/\wpAny (model prog w) A (getItem o i) Q E D) E N) E s) :
  wpAny (model prog w) A (eval (.Subscript value B pos) env) Q E s:=by
 refine Subscript_ (OB h (λ o N a0=>OB a0 (λ i D G=>?_) λ _ _ x=>x) λ _ _ x=>x);obtain⟨hT,G⟩:=G;unfold subscriptTail;refine Oz ?_;rw[getitemInPython_of_ne hT.not_modules];refine Oz (wpAny_specialOf hT hl ?_);have Y:wpAny (model prog w) A (subscripted B false o i) (λ r J=>wpAny (model prog w) A (letTemporaryGo value o r >>= λ _=>pure r) Q E J) E D:=by
  rw[hs o i];exact wpAny_operating (OB G (λ r J Z=>Oz (wpAny_letTemporaryGo (OA Z))) λ _ _ x=>x)
 first
  | exact OA (Oz Y)
  | exact Oz (OA (Oz Y))
  | exact Oz Y
theorem zU {LQ : St}     {o:Option V} (I:Inv X pins LQ H s) (g:fS H a y o):s.TypeIs (.ref a) "dict" := by
 rcases g with ⟨kvs,k,e,_,_⟩ | ⟨kvs,k,b,e,_,_,_⟩
 ·obtain⟨_,_,vs,_,B⟩:=ny I.de e;exact B.typeIs
 ·obtain⟨_,_,xs,_,B⟩:=o6 I.de e;exact B.typeIs
inductive Fp (Q:VK) (x:V) (y:V) (H2:Hp):Prop
 | mk (a v:_) (_:x=.ref a) (_:fS H2 a y (some v)) (_:Q v H2)
def Kr (td ty:TE):TE:=λ LQ H Q=>td LQ H λ x H1=>ty LQ H1 λ y H2=>Fp Q x y H2
inductive BP (Q:VK) (y:V) (x:V) (H2:Hp):Prop
 | mk (a o:_) (_:x=.ref a) (_:fS H2 a y o) (_:Q (.bl (!o.isSome)) H2)
def HK (ty td:TE):TE:=λ LQ H Q=>ty LQ H λ y H1=>td LQ H1 λ x H2=>BP Q y x H2
def Ks (td ty tv:TE):TS:=λ D LQ H=>tv LQ H λ v H1=>td LQ H1 λ x H2=>ty LQ H2 λ y H3=>∃a H4,x=.ref a/\jW H3 a y v H4/\D.nx LQ H4
section
variable {X:Cx}{o i e value:Expr}{pos pos' tpos:Pos}{td ty tv:TE}
theorem vJ (hu:X.A.units+1<cLine)(ho:PE X o td)(hi:PE X i ty)(J:yQ i):PE X (.Subscript o i pos) (Kr td ty):=by
 intro pins s LQ H Q I h;refine rX PySem.F.slot_dict_getitem.lookup J (dC (ho pins s LQ H _ I h) λ u s1 ⟨x,H1,N,G,q1⟩=>dC (hi pins s1 LQ H1 _ N q1) λ iv s2 ⟨y,Z,D,ry,a,v,ex,g,q2⟩=>?_);subst ex;obtain rfl:u=Value.ref a:=G;exact⟨zU D g,Dm hu D g ry λ w' s3 Y B=>⟨v,Z,Y,B,q2⟩⟩
theorem Dp (Y:X.A.units+1<cLine)(hi:PE X i ty)(ho:PE X o td):PC X .NotIn i o (HK ty td):=by
 intro pins s LQ H Q I h;refine dC (hi pins s LQ H _ I h) λ iv N ⟨y,H1,D,ry,q1⟩=>dC (ho pins N LQ H1 _ D q1) λ u s2 ⟨x,J,Z,B,a,ov,ex,g,q2⟩=>?_
 subst ex;obtain rfl:u=Value.ref a:=B;exact HJ Y Z g ry λ s3 G=>⟨.bl (!ov.isSome),J,G,rfl,q2⟩
theorem iP (hu:X.A.units+1<cLine)(ho:PE X o td)(hi:PE X i ty)(B:PE X value tv)(hs:swapsWith value (some (.Subscript o i pos')) pos.line X.env=pure false) :
  PS X (.Assign [.Subscript o i pos'] value pos) (Ks td ty tv):=by
 intro pins s LQ H D I h;refine wpAny_Assign_Subscript (dC (B pins s LQ H _ I h) λ r G ⟨v,H1,I1,J,q1⟩=>dC (ho pins G LQ H1 _ I1 q1) λ u s2 ⟨x,Y,N,Z,q2⟩=>dC (hi pins s2 LQ Y _ N q2) λ iv s3 ⟨y,H3,I3,ry,a,H4,ex,g,q3⟩=>?_) hs;subst ex;obtain rfl:u=Value.ref a:=Z;exact Dn hu I3 g ry J λ s4 I4=>⟨LQ,H4,I4,q3⟩
end
theorem o7 {P:Program}{w:World}(h:Heap)(hb:sysModules<h.objs.size):ff P w H (h.push { cls:=.type "dict",data:=.dict #[] }) h.objs.size (.dK []) :=
 ⟨Me _,beq_eq_false_iff_ne.mpr (Ne.symm (L5 hb)),[],.nil,Heap.DictOf.new h⟩
def JD:TE:=λ _ H Q=>∀p,H p=none->Q (.ref p) (upd H p (.dK []))
section
variable {X:Cx}{pos:Pos}
theorem tP:PE X (.Dict [] [] pos) JD:=λ pins s LQ H Q I h =>
 wpAny_Dict_empty ⟨.ref s.heap.objs.size,_,I.laid (a:=s.heap.objs.size) (o:=.dK []) (t':=s.toks) (λ _ _ q=>L3 _ q) (LW _) (o7 s.heap I.big),rfl,h _ (I.de.fresh (LW _))⟩
end
def uL:List (TE×TE)->St->Hp->(List (V×V)->Hp->Prop)->Prop
 | [],_,H,Q=>Q [] H
 | (tk,tv)::r,LQ,H,Q=>tk LQ H λ x H1=>tv LQ H1 λ y H2=>uL r LQ H2 λ ps H3=>Q ((x,y)::ps) H3
abbrev VV:List (V×V)->List (Value×Value)->Prop:=Paired λ p q=>RelV p.1 q.1/\RelV p.2 q.2
def Dq (X:Cx)(pos:Pos)(keys:List (Option Expr))(values:List Expr)(trs:List (TE×TE)):Prop :=
 ∀(pins:Z1) (s:Shared) (LQ : St) (H:Hp) (Q:List (V×V)->Hp->Prop),Inv X pins LQ H s->uL trs LQ H Q ->
  wpAny (model X.prog X.w) X.A (evalPairs (pairTrees keys values X.env pos)) (λ vs s'=>∃ps H',Inv X pins LQ H' s'/\VV ps vs/\Q ps H') X.xe s
theorem rY {pos:Pos}:Dq X pos [] [] []:=λ pins s LQ H Q I h=>pairTrees_nil_walk ⟨[],H,I,.nil,h⟩
theorem kP {pos:Pos}{k v:Expr}{ks:List (Option Expr)}{vs:List Expr}{D tv:TE}{B:List (TE×TE)}(N:PE X k D)(G:PE X v tv)(hr:Dq X pos ks vs B) :
  Dq X pos (some k::ks) (v::vs) ((D,tv)::B):=λ pins s LQ H Q I h =>
 pairTrees_cons_walk (dC (N pins s LQ H _ I h) λ u Y ⟨x,H1,I1,rx,q1⟩=>dC (G pins Y LQ H1 _ I1 q1) λ w2 s2 ⟨y,H2,Z,ry,q2⟩ =>
  dC (hr pins s2 LQ H2 _ Z q2) λ ws s3 ⟨ps,J,I3,rel,q3⟩=>⟨(x,y)::ps,J,I3,.cons ⟨rx,ry⟩ rel,q3⟩)
def oE (kvs more:List (Key×V)):List (Key×V):=more.foldl (λ acc kv=>putK acc kv.1 kv.2) kvs
theorem KV.merge:∀{more:List (Key×V)} {rs:List (Key×Value)} {kvs:List (Key×V)} {vs:List (Key×Value)},KV more rs->KV kvs vs->KV (oE kvs more) (merged vs rs):=by
 intro more rs kvs vs r;unfold KV at r
 induction r generalizing kvs vs with
 | nil=>intro q;exact q
 | @cons p q ps qs h t ih =>
  intro B;have e:KV (putK kvs p.1 p.2) (stored vs q.1 q.2):=by
   have:=B.put p.1 h.2;rw[<-h.1];exact this
  exact ih e
theorem p8:∀(more kvs:List (Key×V)),(oE kvs more).length<=kvs.length+more.length
 | [],kvs=>by show kvs.length<=kvs.length+0;omega
 | p::r,kvs=>by
  have D:=p8 r (putK kvs p.1 p.2);have B:=fY kvs p.1 p.2;show (oE (putK kvs p.1 p.2) r).length<=_;rw[Ms];omega
theorem uM {P:Program}{w:World}:∀{kvs:List (Key×V)} {ws:List (Value×Value)},VV (kvs.map λ B=>(kV B.1,B.2)) ws->∃rs,Carries (dm P w) ws rs/\KV kvs rs
 | [],_,r=>by rw[NI] at r;cases r;exact⟨[],True.intro,.nil⟩
 | p::kvs,_,r=>by
  rw[Mt] at r;cases r with
  | @cons a b as bs h t =>
   obtain⟨rs,c,q⟩:=uM (P:=P) (w:=w) t;obtain⟨G,D⟩:=b;exact⟨(p.1,D)::rs,⟨mB h.1,rfl,c⟩,.cons ⟨rfl,h.2⟩ q⟩
def Kt (trs:List (TE×TE)):TE:=λ LQ H Q=>∀p,H p=none->uL trs LQ (upd H p (.dK [])) λ ps H2=>H2 p=some (.dK [])/\∃kvs:List (Key×V),ps=kvs.map (λ kv=>(kV kv.1,kv.2))/\kvs.length<=15/\Q (.ref p) (upd H2 p (.dK (oE [] kvs)))
theorem vK {pos:Pos}{keys:List (Option Expr)}{B:List Expr}{G:List (TE×TE)}(h:Dq X pos keys B G)(D:keys.all (·.isSome)=true)(hl:keys.length=B.length)(h0:keys≠[])
  (N:keys.length<=15):PE X (.Dict keys B pos) (Kt G):=by
 intro pins s LQ H Q I q;have hn:=I.de.fresh (LW s.heap.objs.size);have I1:=I.laid (a:=s.heap.objs.size) (o:=.dK []) (h':=s.heap.push { cls:=.type "dict",data:=.dict #[] }) (t':=s.toks) (λ _ _ q=>L3 _ q) (LW _) (o7 s.heap I.big);refine wpAny_Dict_walk (knd:=dm X.prog X.w) D hl h0 N (dC (h pins _ LQ _ _ I1 (q _ hn)) λ ws s2 ⟨ps,H2,Y,rel,e,kvs,ep,lk,q2⟩=>?_);subst ep;obtain⟨rs,c,rk⟩:=uM (P:=X.prog) (w:=X.w) rel;obtain⟨z,hd,a0,r0,dd⟩:=yl Y.de e;cases r0;refine⟨rs,c,dd,λ h' J hs=>⟨.ref s.heap.objs.size,_,?_,rfl,q2⟩⟩;have hz:(oE [] kvs).length<=sizeLine:=by
  have h1:=p8 kvs [];rw[NK] at h1;rw[sizeLine_eq];omega
 have Z:∃q,h'.get? s.heap.objs.size=some q:=let ⟨q,_,_,hq,_⟩:=J;⟨q,hq⟩
 exact rW Y (by rw[e];exact True.intro) hs Z (oC hz hd (rk.merge .nil) J)
structure M1 (X:Cx) (o:Expr) (m:Str) (apos:Pos) (e:Expr) (cpos:Pos):Prop where
 base:attributeBase o m X.env (eval o X.env)=eval o X.env
 er:((backTo cpos (starEach [e] X.env)).all (λ x=>!x.1)&&(backToKw cpos (keywordEach [] X.env)).all (λ x=>x.1.isSome)
  && decide (([e]:List Expr).length+([]:List Keyword).length+(if ([]:List Keyword).isEmpty then 0 else 1)<30))=true
 line:(apos.endLine == cpos.line)=true
 trees:backTo cpos (starEach [e] X.env)=[(false,eval e X.env)]
structure M2 (X:Cx) (o:Expr) (m:Str) (apos:Pos) (e f:Expr) (cpos:Pos):Prop where
 base:attributeBase o m X.env (eval o X.env)=eval o X.env
 er:((backTo cpos (starEach [e,f] X.env)).all (λ x=>!x.1)&&(backToKw cpos (keywordEach [] X.env)).all (λ x=>x.1.isSome)
  && decide (([e,f]:List Expr).length+([]:List Keyword).length+(if ([]:List Keyword).isEmpty then 0 else 1)<30))=true
 line:(apos.endLine == cpos.line)=true
 trees:backTo cpos (starEach [e,f] X.env)=[(false,eval e X.env),(false,eval f X.env)]
def JE (H:Hp)(a:Addr):Prop:=(∃kvs,Rd H a (.dK kvs))\/∃kvs,Rd H a (.dT kvs)
theorem Dr {LQ : St}(I:Inv X pins LQ H s)(d:JE H a) :
  s.TypeIs (.ref a) "dict" /\ (∀b,Value.ref a=.ref b->∃ob,s.heap.get? b=some ob/\ob.dict=none)/\(a == sysModules)=false:=by
 rcases d with ⟨kvs,e⟩ | ⟨kvs,e⟩
 ·obtain⟨_,hd,vs,_,B⟩:=ny I.de e;refine⟨B.typeIs,λ b q=>?_,hd⟩;cases q;obtain⟨ob,_,_,G,D,_⟩:=B;exact⟨ob,G,D.2.1⟩
 ·obtain⟨_,hd,xs,_,B⟩:=o6 I.de e;refine⟨B.typeIs,λ b q=>?_,hd⟩;cases q;obtain⟨ob,_,_,G,D,_⟩:=B;exact⟨ob,G,D.2.1⟩
section
variable {X:Cx}{pins:Z1}{LQ : St}{H:Hp}{s:Shared}{a:Addr}{y d:V}{u r:Value}{o:Option V}{A:Around}{E:Z0}
theorem JF (Z:A.units+1<cLine)(I:Inv X pins LQ H s)(g:fS H a y o)(J:RelV y u)(h:∀G N,Inv X pins LQ H N->RelV (o.getD .eu) G->Q G N) :
  wpAny (model X.prog X.w) A (call (.builtin "dict.get") [.ref a,u]) Q E s:=by
 rcases g with ⟨kvs,k,e,D,l⟩ | ⟨kvs,k,b,e,D,Y,l⟩
 ·subst D;obtain⟨z,hd,vs,rel,B⟩:=ny I.de e;refine call_meetsIn PySem.F.slot_dict_get B.typeIs PySem.F.entry_dict_get (PySem.F.args_dict_get_2 _ _) (meets_dict_get (dm X.prog X.w) a (mB J) hd) ⟨_,B.mapOf,h _ _ (I.tok _) ?_⟩;rw[l];exact (rel.val k).getD rfl
 ·subst D;cases (show u=Value.ref b from J);obtain⟨z,hd,xs,rel,B⟩:=o6 I.de e;refine call_meetsIn PySem.F.slot_dict_get B.typeIs PySem.F.entry_dict_get (PySem.F.args_dict_get_2 _ _) (meetsH_dict_get (tupleKind (dm X.prog X.w)) a b hd) ⟨tupleKind_room_in1 Z,k,xs,oB I.de Y,B,h _ _ (I.tok _) ?_⟩;rw[l];exact (rel.val k).getD rfl
theorem JG (Z:A.units+1<cLine)(I:Inv X pins LQ H s)(g:fS H a y o)(J:RelV y u)(rd:RelV d r)(h:∀G N,Inv X pins LQ H N->RelV (o.getD d) G->Q G N) :
  wpAny (model X.prog X.w) A (call (.builtin "dict.get") [.ref a,u,r]) Q E s:=by
 rcases g with ⟨kvs,k,e,D,l⟩ | ⟨kvs,k,b,e,D,Y,l⟩
 ·subst D;obtain⟨z,hd,vs,rel,B⟩:=ny I.de e;refine call_meetsIn PySem.F.slot_dict_get B.typeIs PySem.F.entry_dict_get (PySem.F.args_dict_get_3 _ _ _) (meets_dict_get_default (dm X.prog X.w) a (mB J) hd r) ⟨_,B.mapOf,h _ _ (I.tok _) ?_⟩;rw[l];exact (rel.val k).getD rd
 ·subst D;cases (show u=Value.ref b from J);obtain⟨z,hd,xs,rel,B⟩:=o6 I.de e;refine call_meetsIn PySem.F.slot_dict_get B.typeIs PySem.F.entry_dict_get (PySem.F.args_dict_get_3 _ _ _) (meetsH_dict_get_default (tupleKind (dm X.prog X.w)) a b hd r) ⟨tupleKind_room_in1 Z,k,xs,oB I.de Y,B,h _ _ (I.tok _) ?_⟩;rw[l];exact (rel.val k).getD rd
end
inductive Ds (Q:VK) (a:Addr) (y:V) (H2:Hp):Prop
 | mk (o:_) (_:fS H2 a y o) (_:Q (o.getD .eu) H2)
inductive Dt (ty:TE) (LQ : St) (Q:VK) (x:V) (H1:Hp):Prop
 | mk (a:_) (_:x=.ref a) (_:JE H1 a) (_:ty LQ H1 λ y H2=>Ds Q a y H2)
def JH (td ty:TE):TE:=λ LQ H Q=>td LQ H λ x H1=>Dt ty LQ Q x H1
section
variable {X:Cx}{o e f:Expr}{apos cpos:Pos}{td ty tx:TE}
theorem Fq (hu:X.A.units+1<cLine) (ho:PE X o td) (G:PE X e ty) (m:M1 X o "get" apos e cpos):PE X (.Call (.Attribute o "get" apos) [e] [] cpos) (JH td ty):=by
 intro pins s LQ H Q I h;refine wpAny_Call_method m.base m.er m.line PySem.F.plainAttrs_dict PySem.F.slot_dict_get PySem.F.type_dict_get (dC (ho pins s LQ H _ I h) λ u N ⟨x,H1,D,rx,a,ex,d,q1⟩=>?_);subst ex;obtain rfl:u=Value.ref a:=rx;obtain⟨J,t2,_⟩:=Dr D d;exists J,t2;rw[m.trees];refine Calls.callWith_builtin rfl (Calls.evalArgs_plain (Calls.spliced_cons (dC (G pins N LQ H1 _ D q1) λ iv s2 ⟨y,Z,Y,ry,ov,g,q2⟩=>Calls.spliced_nil ?_)));exact JF hu Y g ry λ w' s3 I3 B=>⟨_,Z,I3,B,q2⟩
end
section
variable {X:Cx}{pins:Z1}{LQ : St}{H:Hp}{s:Shared}{a:Addr}{kvs:List (Key×V)}{A:Around}{E:Z0}
theorem Fs (I:Inv X pins LQ H s) (e:Rd H a (.dK kvs)) (h:∀p D,H p=none->Inv X pins LQ (upd H p (.dK kvs)) D->Q (.ref p) D):wpAny (model X.prog X.w) A (call (.type "dict") [.ref a]) Q E s:=by
 obtain⟨z,hd,vs,rel,J⟩:=ny I.de e;refine kt_call_dict hd J (by rw[<-rel.length];exact z) λ h' B G=>?_
 refine h _ _ (I.de.fresh (LW _)) (I.laid (a:=s.heap.objs.size) (o:=.dK kvs) (t':=s.toks) (λ b q hq=>?_) (LW _) (oC z (beq_eq_false_iff_ne.mpr (Ne.symm (L5 I.big))) rel B));exact (G.2 b (L5 (L0 hq))).trans (L3 _ hq)
end
section
variable {X:Cx}{pins:Z1}{LQ : St}{H:Hp}{s:Shared}{a:Addr}{y:V}{u:Value}{A:Around}{E:Z0}
end
section
variable {X:Cx}
end
section
variable {κ : Type}[DecidableEq κ]
end
theorem cW.d9 (h:cW H v (.tuple ds)):∃p xs,v=.ref p/\H p=some (.tup xs)/\dh H xs ds:=by
 cases h with
 | tup e r=>exact⟨_,_,rfl,e,r⟩
theorem cW.int_inv (h:cW H v (.int i)):v=.int i:=by cases h;rfl
theorem cW.str_inv (h:cW H v (.str x)):v=.str x:=by cases h;rfl
theorem dh.cons_inv {xs:List V}{d:PyData}(h:dh H xs (d::ds)):∃x r,xs=x::r/\cW H x d/\dh H r ds:=by
 cases h with
 | cons a b=>exact⟨_,_,rfl,a,b⟩
theorem dh.nil_inv {xs:List V}(h:dh H xs []):xs=[]:=by cases h;rfl
theorem dh.get {H:Hp}:∀{xs:List V} {ds:List PyData} {i:Nat} {d:PyData},dh H xs ds->ds[i]?=some d->∃x,xs[i]?=some x/\cW H x d
 | _,_,_,_,.nil,e=>by simp at e
 | _,_,0,_,.cons r _,e=>by
  simp at e;subst e;exact⟨_,rfl,r⟩
 | _,_,i+1,d,.cons _ t,e=>by
  obtain⟨x,D,B⟩:=dh.get (i:=i) (d:=d) t (by simpa using e);exact⟨x,by simpa using D,B⟩
def lM:e6->List V
 | .put x n=>[.str "put",.str x,.int n]
 | .copy x y=>[.str "copy",.str x,.str y]
 | .add x n=>[.str "add",.str x,.int n]
 | .read x=>[.str "read",.str x]
 | .tell x=>[.str "tell",.str x]
def fX:End->List V
 | .stop=>[.str "stop"]
 | .go p=>[.str "go",.int p]
 | .eM b x n p q=>[.str (wT b),.str x,.int n,.int p,.int q]
theorem oF {d:e6}(h:cW H v (eN d)):∃p,v=.ref p/\H p=some (.tup (lM d)):=by
  cases d<;>(
    obtain⟨p,xs,rfl,e,r⟩:=cW.d9 h;obtain⟨x1,Z,rfl,D,r⟩:=r.cons_inv;obtain⟨J,N,rfl,B,r⟩:=r.cons_inv
    first
      | (obtain⟨Y,r3,rfl,G,r⟩:=r.cons_inv
         have z:=r.nil_inv;subst z;exists p,rfl
         first
           | rw[e,D.str_inv,B.str_inv,G.int_inv];rfl
           | rw[e,D.str_inv,B.str_inv,G.str_inv];rfl)
      | (have z:=r.nil_inv
         subst z;exists p,rfl;rw[e,D.str_inv,B.str_inv];rfl))
theorem Du {e:End}(h:cW H v (jd e)):∃p,v=.ref p/\H p=some (.tup (fX e)):=by
 cases e with
 | stop =>
  obtain⟨p,xs,rfl,e,r⟩:=cW.d9 h;obtain⟨J,G,rfl,B,r⟩:=r.cons_inv;have z:=r.nil_inv;subst z;exact⟨p,rfl,by rw[e,B.str_inv];rfl⟩
 | go q =>
  obtain⟨p,xs,rfl,e,r⟩:=cW.d9 h;obtain⟨J,G,rfl,B,r⟩:=r.cons_inv;obtain⟨Y,Z,rfl,D,r⟩:=r.cons_inv;have z:=r.nil_inv;subst z;exact⟨p,rfl,by rw[e,B.str_inv,D.int_inv];rfl⟩
 | eM b x n q q' =>
  obtain⟨p,xs,rfl,e,r⟩:=cW.d9 h;obtain⟨J,G,rfl,B,r⟩:=r.cons_inv;obtain⟨Y,Z,rfl,D,r⟩:=r.cons_inv;obtain⟨x3,r3,rfl,h3,r⟩:=r.cons_inv;obtain⟨x4,r4,rfl,h4,r⟩:=r.cons_inv;obtain⟨x5,r5,rfl,N,r⟩:=r.cons_inv;have z:=r.nil_inv;subst z;exact⟨p,rfl,by rw[e,B.str_inv,D.str_inv,h3.int_inv,h4.int_inv,N.int_inv];rfl⟩
theorem gX {ps:List Piece}{i:Nat}{ds:List e6}{e:End}(h:cW H v (fq ps))(hi:ps[i]?=some (ds,e)) :
  ∃p xs pc D G vs,v=.ref p/\H p=some (.tup xs)/\xs.length=ps.length/\xs[i]?=some (.ref pc)/\H pc=some (.tup [.ref D,.ref G])/\H D=some (.tup vs)/\dh H vs (ds.map eN)/\H G=some (.tup (fX e)):=by
 obtain⟨p,xs,rfl,e1,r⟩:=cW.d9 h;have Y:=r.len;obtain⟨x,hx,Z⟩:=r.get (i:=i) (d:=d8 (ds,e)) (by rw[L6,hi];rfl);obtain⟨pc,ys,rfl,N,B⟩:=cW.d9 Z;obtain⟨y1,t1,rfl,q1,B⟩:=B.cons_inv;obtain⟨y2,t2,rfl,q2,B⟩:=B.cons_inv;have z:=B.nil_inv;subst z;obtain⟨D,vs,rfl,e3,r3⟩:=cW.d9 q1;obtain⟨G,rfl,J⟩:=Du q2;exact⟨p,xs,pc,D,G,vs,rfl,e1,by rw[Y,LU],hx,N,e3,r3,J⟩
theorem fG {n:Nat}(h:n<=1000000):n<sizeLine:=Nm h ⋯
theorem dn (D:c=false)(h:B):if c=true then A else B:=by subst D;exact fB h
theorem eU (D:c=true)(h:A):if c=true then A else B:=by subst D;exact eI h
inductive BQ (Q:VK) (a:Addr) (y:V) (z:V) (H3:Hp):Prop
 | mk (o v:_) (_:fS H3 a y o) (_:o.getD z=v) (_:Q v H3)
inductive BR (ty:TE) (tx:TE) (LQ : St) (Q:VK) (x:V) (H1:Hp):Prop
 | mk (a:_) (_:x=.ref a) (_:JE H1 a) (_:ty LQ H1 λ y H2=>tx LQ H2 λ z H3=>BQ Q a y z H3)
def HL (td ty tx:TE):TE:=λ LQ H Q=>td LQ H λ x H1=>BR ty tx LQ Q x H1
theorem ib {o e f:Expr} {G D:Pos} {Z Y tx:TE} (hu:X.A.units+1<cLine) (ho:PE X o Z) (he:PE X e Y) (hf:PE X f tx) (m:M2 X o "get" G e f D):PE X (.Call (.Attribute o "get" G) [e,f] [] D) (HL Z Y tx):=by
 intro B s N H Q I h;refine wpAny_Call_method m.base m.er m.line PySem.F.plainAttrs_dict PySem.F.slot_dict_get PySem.F.type_dict_get (dC (ho B s N H _ I h) λ u s1 ⟨x,H1,I1,rx,a,ex,d,q1⟩=>?_);subst ex;obtain rfl:u=Value.ref a:=rx;obtain⟨t1,t2,_⟩:=Dr I1 d;exists t1,t2;rw[m.trees];refine Calls.callWith_builtin rfl (Calls.evalArgs_plain (Calls.spliced_cons (dC (he B s1 N H1 _ I1 q1) λ iv s2 ⟨y,H2,I2,ry,q2⟩ =>
  Calls.spliced_cons (dC (hf B s2 N H2 _ I2 q2) λ fv s3 ⟨z,H3,I3,rz,ov,v,g,ev,q3⟩=>Calls.spliced_nil ?_))))
 exact JG hu I3 g ry rz λ w' s4 I4 J=>⟨v,H3,I4,by rw[<-ev];exact J,q3⟩
structure RS where
 dE:Nat
 place:Nat
 w:Str->Int
 taken:Nat
 told:List Int
 word:Str
 dM:List Nat
def jX (w:Str->Int)(x:Str)(n:Int):Str->Int:=λ y=>if y=x then n else w y
def jN (nums:List Int)(S:RS):e6->RS
 | .put x n=>{ S with w:=jX S.w x n,place:=S.place+1 }
 | .copy x y=>{ S with w:=jX S.w x (S.w y),place:=S.place+1 }
 | .add x n=>{ S with w:=jX S.w x (S.w x+n),place:=S.place+1 }
 | .tell x=>{ S with told:=S.told++[S.w x],place:=S.place+1 }
 | .read x=>match nums[S.taken]? with
  | none=>{ S with word := "dry" }
  | some n=>{ S with w:=jX S.w x n,taken:=S.taken+1,place:=S.place+1 }
def iF (b:Bool)(u n:Int):Bool:=if b=true then decide (u<n) else decide (u=n)
def mC (S:RS):End->RS
 | .stop=>{ S with word := "stop" }
 | .go p=>{ S with dE:=p,place:=0,dM:=S.dM++[p] }
 | .eM b x n p q=>{ S with dE:=if iF b (S.w x) n=true then p else q,place:=0,dM:=S.dM++[if iF b (S.w x) n=true then p else q] }
def fN (ps:List Piece)(nums:List Int)(S:RS):RS:=match ps[S.dE]? with
 | none=>S
 | some (ds,e)=>match ds[S.place]? with
  | some d=>jN nums S d
  | none=>mC S e
def DW (kvs:List (Key×V))(w:Str->Int):Prop:=∀x:Str,(fF kvs (Sum.inr x:Key)).getD (.int 0)=.int (w x)
theorem DW.put {kvs:List (Key×V)}{w:Str->Int}(h:DW kvs w)(x:Str)(n:Int):DW (putK kvs (Sum.inr x) (.int n)) (jX w x n):=λ y=>by
 rw[o5];unfold jX;by_cases e:y=x
 ·subst e;rw[if_pos rfl,if_pos rfl];rfl
 ·rw[if_neg (λ z=>e (Sum.inr.inj z)),if_neg e];exact h y
structure iQ (H:Hp) (st d tl bl:Addr) (S:RS) (m:Nat):Prop where
 at_:H st=some (.tup [.int S.dE,.int S.place,.ref d,.int S.taken,.ref tl,.str S.word,.ref bl])
 dict:∃kvs,H d=some (.dK kvs)/\DW kvs S.w/\kvs.length<=m
 told:H tl=some (.lst (S.told.map V.int))
 dM:H bl=some (.lst (S.dM.map λ k=>V.int (k:Nat)))
 ne:tl≠bl
 er:S.told.length<=m/\S.dM.length<=m+1
def iu (d tl bl:Addr)(H H':Hp):Prop:=∀c o,H c=some o->c≠d->c≠tl->c≠bl->H' c=some o
theorem iu.trans {H:Hp}(a:iu d tl bl H H1)(b:iu d tl bl H1 D):iu d tl bl H D:=λ c o h J G B=>b c o (a c o h J G B) J G B
theorem iu.new {o:HO}(hp:H p=none):iu d tl bl H (upd H p o):=λ c u h _ _ _=>by rw[cx (cD h hp)];exact h
def ft (ps:List Piece):Prop:=∀p∈ps,match p.2 with
 | .stop=>True
 | .go q=>q<ps.length
 | .eM _ _ _ q r=>q<ps.length/\r<ps.length
theorem fi.qG {xs:List Str}{ps:List Piece}(h:fi xs m ps):ft ps:=λ p hp=>by
 have:=h.ends p hp;cases e:p.2 with
 | stop=>exact True.intro
 | go q=>rw[e] at this;exact this
 | eM b x n q r=>rw[e] at this;exact⟨this.2.2.1,this.2.2.2⟩
inductive Dv  (vs:List V) (H:Hp) (Q:VK) (_:XK):Prop
 | mk (pv:V) (st np d tl bl:Addr) (ps:List Piece) (nums:List Int) (S:RS) (m:Nat) (_:vs=[pv,.ref st,.ref np]) (_:cW H pv (fq ps)) (_:ft ps) (_:H np=some (.tup (nums.map V.int))) (_:iQ H st d tl bl S m) (_:S.dE<ps.length) (_:S.taken<=nums.length) (_:m<=10000) (_:∀st' H',iQ H' st' d tl bl (fN ps nums S) (m+1)->iu d tl bl H H'->Q (.ref st') H')
theorem yR {ps:List Piece}{S:RS}(hp:ft ps)(h:S.dE<ps.length)(B:S.taken<=nums.length):(fN ps nums S).dE<ps.length/\(fN ps nums S).taken<=nums.length:=by
 unfold fN;have hx:ps[S.dE]?=some ps[S.dE]:=by simp[h]
 rw[hx];generalize D:ps[S.dE]=pc;obtain⟨ds,e⟩:=pc;have hm:(ds,e)∈ps:=by rw[<-D];exact MU h
 dsimp only;cases hd:ds[S.place]? with
 | some dd =>
  cases dd with
  | read x =>
   dsimp only[jN];cases hn:nums[S.taken]? with
   | none=>exact⟨h,B⟩
   | some n =>
    have:S.taken<nums.length:=(Md.mp hn).1;exact⟨h,this⟩
  | _=>exact⟨h,B⟩
 | none =>
  have hq:=hp (ds,e) hm;cases e with
  | stop=>exact⟨h,B⟩
  | go q=>exact⟨hq,B⟩
  | eM b x n q r =>
   dsimp only[mC];refine⟨?_,B⟩;split
   ·exact hq.1
   ·exact hq.2
theorem iQ.sU {H1:Hp}{B:Addr}{S':RS}{kvs:List (Key×V)}(J:H1 d=some (.dK kvs))(dw:DW kvs S'.w)(N:kvs.length<=m)(G:H1 tl=some (.lst (S'.told.map V.int)))
  (D:H1 bl=some (.lst (S'.dM.map λ k=>V.int (k:Nat)))) (ne:tl≠bl) (er:S'.told.length<=m/\S'.dM.length<=m+1) (hn:H1 B=none) {xs:List V}
  (ex:xs=[.int S'.dE,.int S'.place,.ref d,.int S'.taken,.ref tl,.str S'.word,.ref bl]):iQ (upd H1 B (.tup xs)) B d tl bl S' m:=by
 subst ex;exact⟨cu,⟨kvs,by rw[cx (cD J hn)];exact J,dw,N⟩,by rw[cx (cD G hn)];exact G,by rw[cx (cD D hn)];exact D,ne,er⟩
theorem iu.mD:iu d tl bl H (upd H d o):=λ c u h n _ _=>by rw[cx n];exact h
theorem iu.Ku:iu d tl bl H (upd H tl o):=λ c u h _ n _=>by rw[cx n];exact h
theorem iu.GZ:iu d tl bl H (upd H bl o):=λ c u h _ _ n=>by rw[cx n];exact h
theorem nB {ps:List Piece}{nums:List Int}{S:RS}{ds:List e6}{e:End}{B:e6}(D:ps[S.dE]?=some (ds,e))(G:ds[S.place]?=some B):fN ps nums S=jN nums S B:=by
 unfold fN;rw[D];dsimp only;rw[G]
theorem o8 {ps:List Piece}{nums:List Int}{S:RS}{ds:List e6}{e:End}(B:ps[S.dE]?=some (ds,e))(D:ds[S.place]?=none):fN ps nums S=mC S e:=by
 unfold fN;rw[B];dsimp only;rw[D]
def vO:Option Int->V
 | none=>.eu
 | some i=>.int i
def yS:Option Int->Option Int->Prop
 | some a,some b=>a<=b
 | _,_=>True
def nE (n:Int)(lo hi:Option Int):Bool:=(match lo with | none=>true | some a=>decide (a<=n))&&(match hi with | none=>true | some a=>decide (n<=a))
abbrev Rs:=Option (Option Int×Option Int)
def mf (hi:Option Int)(n:Int):Int:=match hi with | none=>n-1 | some h=>if n-1<h then n-1 else h
def jY (lo:Option Int)(n:Int):Int:=match lo with | none=>n | some l=>if n > l then n else l
def jn (lo hi:Option Int)(n:Int):Rs :=
 match lo with | none=>some (none,some (mf hi n)) | some l=>if mf hi n<l then none else some (some l,some (mf hi n))
def jO (lo hi:Option Int)(n:Int):Rs :=
 match hi with | none=>some (some (jY lo n),none) | some h=>if h<jY lo n then none else some (some (jY lo n),some h)
def sV (lo hi:Option Int)(n:Int):Rs:=if nE n lo hi=true then some (some n,some n) else none
def kf (lo hi:Option Int)(n:Int):Rs:=if lo=some n then (if hi=some n then none else some (some (n+1),hi)) else if hi=some n then some (lo,some (n-1)) else some (lo,hi)
def lN (lo hi:Option Int)(n:Int)(side:Bool):Rs:=if side=true then jn lo hi n else jO lo hi n
def sW (lo hi:Option Int)(n:Int)(side:Bool):Rs:=if side=true then sV lo hi n else kf lo hi n
def gF (w:Str)(lo hi:Option Int)(n:Int)(side:Bool):Rs:=if w = "less" then lN lo hi n side else sW lo hi n side
def JI (rt rf:Rs):Str:=match rf with
 | none => "yes"
 | some _=>match rt with
  | none => "no"
  | some _ => "open"
theorem Ft {w:Str}{hi:Option Int}{n:Int}(le:yS lo hi)(D:gF w lo hi n true=none)(B:gF w lo hi n false=none):False:=by
 unfold gF at D B;by_cases hw:w = "less"
 ·rw[if_pos hw] at D B;simp only[lN,if_true,MZ,if_false] at D B;unfold jn mf at D;unfold jO jY at B;cases lo<;>cases hi<;>simp only[reduceCtorEq] at D B
  rename_i l h
  simp only[yS] at le;by_cases c1:n-1<h
  ·simp only[c1,if_true] at D;by_cases c2:n-1<l
   ·by_cases c3:n > l
    ·simp only[c3,if_true] at B;split at B
     ·omega
     ·cases B
    ·simp only[c3,if_false] at B;split at B
     ·omega
     ·cases B
   ·rw[if_neg c2] at D;cases D
  ·simp only[c1,if_false] at D;split at D
   ·omega
   ·cases D
 ·rw[if_neg hw] at D B;simp only[sW,if_true,MZ,if_false] at D B;unfold kf at B;by_cases c1:lo=some n
  ·rw[if_pos c1] at B;by_cases c2:hi=some n
   ·subst c1;subst c2;simp[sV,nE] at D
   ·rw[if_neg c2] at B;cases B
  ·rw[if_neg c1] at B;split at B<;>cases B
def RV (H:Hp)(v:V)(r:Rs):Prop:=match r with
 | none=>v=.eu
 | some (a,b)=>∃p,v=.ref p/\H p=some (.tup [vO a,vO b])
theorem RV.same {H:Hp}{r:Rs}(h:RV H v r)(s:cy H H'):RV H' v r:=by
 cases r with
 | none=>exact h
 | some ab =>
  obtain⟨p,e,h⟩:=h;exact⟨p,e,s _ _ h⟩
theorem RV.put {H:Hp}{r:Rs}{l:Addr}{xs:List V}{o:HO}(h:RV H v r)(B:H l=some (.lst xs)):RV (upd H l o) v r:=by
 cases r with
 | none=>exact h
 | some ab =>
  obtain⟨p,e,h⟩:=h;exact⟨p,e,by rw[cx (dD h B (by intro z;cases z))];exact h⟩
def dO:Option Int->PyData
 | none=>.none
 | some i=>.int i
theorem JJ (o:Option Int):cW H (vO o) (dO o):=by
 cases o with
 | none=>exact .eu
 | some i=>exact .int i
inductive G0  (vs:List V) (H:Hp) (Q:VK) (_:XK):Prop
 | mk (p:Addr) (w:Str) (n:Int) (lo hi:Option Int) (_:vs=[.ref p,.str w,.int n]) (_:H p=some (.tup [vO lo,vO hi])) (_:∀H',cy H H'->Q (.str (JI (gF w lo hi n true) (gF w lo hi n false))) H')
theorem cy.put {H:Hp}{l:Addr}{o:HO}(s:cy H H')(n:H l=none):cy H (upd H' l o):=λ c u e=>by rw[cx (cD e n)];exact s c u e
theorem Dw:decide (V.str "less" = V.str "less")=true:=by decide
theorem BS:¬(("is" : Str) = "less"):=by decide
theorem uN {n:Int}:decide (vO lo=V.int n)=decide (lo=some n):=by
 cases lo with
 | none=>rfl
 | some i =>
  by_cases h:i=n
  ·subst h;simp[vO]
  ·have D:¬(V.int i=V.int n):=λ z=>h (V.int.inj z)
   have B:¬((some i:Option Int)=some n):=λ z=>h (Mf.inj z)
   rw[show vO (some i)=V.int i from rfl,decide_eq_false D,decide_eq_false B]
theorem qH {n:Int}:Ji (vO lo) (V.int n)=true:=by cases lo<;>rfl
structure jZ (P:Program) (w:World) (K:LV) (mg:Z2) (base:Heap) (C:Addr) (m:Str) (k:Nat) (ps:List Str) (sp:Sp):Prop where
 cl:nq K C
 ex:∃f fd,dB P w K mg base d7 k f fd ps sp/\Meth K C m f/\Binds K fd ps []
structure vL (P:Program) (w:World) (K:LV) (mg:Z2) (base:Heap) (C:Addr) (x:Str) (k:Nat) (ps:List Str) (sp:Sp):Prop where
 ex:∃f fd,dB P w K mg base d7 k f fd ps sp/\Mk K C f/\mg x=some (.ref C)/\Binds K fd ps []
section
variable {X:Cx}{C:Addr}{m x:Str}{k:Nat}{ps:List Str}{sp:Sp}{oe e:Expr}{es:List Expr}{ta:TE}{t:TA}{p pos apos:Pos}
theorem i9 {pl:Sem Bool}(o:jZ X.prog X.w X.K X.mg X.base C m k ps sp)(G:PE X oe ta)(N:fP k X.A)(J:PA X (e::es) t)
  (D:starEach (e::es) X.env=(false,eval e X.env)::starEach es X.env:=by rfl) (B:(backTo pos (starEach es X.env)).any (·.1)=false:=by rfl)
  (Y:eval (.Call (.Attribute oe m apos) (e::es) [] pos) X.env=(do
   let ov <-eval oe X.env
   standAt apos.atName
   let (f,first) <-holding [ov] (getMethod ov m pl)
   callWith pos f first (backTo pos (starEach (e::es) X.env)) (backToKw pos (keywordEach [] X.env))):=by rfl) :
  PE X (.Call (.Attribute oe m apos) (e::es) [] pos) (yh C m sp [] E0 ta t):=by
 obtain⟨f,fd,F,hm,hb⟩:=o.ex;exact Hy G o.cl hm F N hb .nil yi J D B Y
theorem mU {pl:Sem Bool}(o:jZ X.prog X.w X.K X.mg X.base C m k ps sp)(B:PE X oe ta)(D:fP k X.A)
  (G:eval (.Call (.Attribute oe m apos) [] [] pos) X.env=(do
   let ov <-eval oe X.env
   standAt apos.atName
   let (f,first) <-holding [ov] (getMethod ov m pl)
   callWith pos f first (backTo pos (starEach [] X.env)) (backToKw pos (keywordEach [] X.env))):=by rfl) :
  PE X (.Call (.Attribute oe m apos) [] [] pos) (yh C m sp [] E0 ta oZ):=by
 obtain⟨f,fd,F,hm,hb⟩:=o.ex;exact Fd B o.cl hm F D hb .nil yi G
theorem rZ (o:vL X.prog X.w X.K X.mg X.base C x k ps sp)(Y:fP (k+1) X.A)(G:Gl X x)(J:PA X (e::es) t)
  (B:(x == ("__debug__" : Str))=false:=by decide) (N:starEach (e::es) X.env=(false,eval e X.env)::starEach es X.env:=by rfl)
  (D:(backTo pos (starEach es X.env)).any (·.1)=false:=by rfl):PE X (.Call (.Name x p) (e::es) [] pos) (GU C sp [] E0 t):=by
 obtain⟨f,fd,F,M,hm,hb⟩:=o.ex;exact Hz M F Y G hm hb .nil yi J B N D
theorem yT:il X (.type "dict") (λ vs H Q=>∃a kvs,vs=[.ref a]/\H a=some (.dK kvs)/\∀q,H q=none->Q (.ref q) (upd H q (.dK kvs))):=by
 intro D s N H vs us Q I r h;obtain⟨a,kvs,rfl,hd,q⟩:=h;obtain⟨u,rfl,G⟩:=vals1 r;cases G;exact Fs I (.inl hd) λ B Y hn J=>⟨.ref B,_,J,rfl,q B hn⟩
end
theorem sd:bootBuiltins "dict" = some (.type "dict"):=by decide
theorem nU {k:Str}:((k,v)::l).lookup k=some v:=by simp[MP]
theorem di {k B:Str}{o:Option V}(h:¬k=B)(e:l.lookup k=o):((B,v)::l).lookup k=o:=by
 rw[M0,beq_false_of_ne h];exact e
theorem Fu {k:Str}{u:V}:fA k v ((k,u)::l)=(k,v)::l:=by simp only[fA,if_true]
theorem fc {k B:Str}{u:V}{D:List (Str×V)}(h:¬B=k)(e:fA k v l=D):fA k v ((B,u)::l)=(B,u)::D:=by simp only[fA,if_neg h,e]
theorem nV {k:Str}:fA k v []=[(k,v)]:=rfl
def iB (a0 a1 a2 a3 a4 a5 a6 a7:V):List (Str×V):=[("pieces",a0),("passed",a1),("place",a2),("worths",a3),("numbers",a4),("taken",a5),("spoken",a6),("over",a7)]
section
variable {a0 a1 a2 a3 a4 a5 a6 a7 z:V}
theorem xc:(iB a0 a1 a2 a3 a4 a5 a6 a7).lookup ("pieces" : Str)=some a0:=nU
theorem nF:(iB a0 a1 a2 a3 a4 a5 a6 a7).lookup ("passed" : Str)=some a1:=(di ⋯ nU)
theorem iU:(iB a0 a1 a2 a3 a4 a5 a6 a7).lookup ("place" : Str)=some a2:=(di ⋯ (di ⋯ nU))
theorem lT:(iB a0 a1 a2 a3 a4 a5 a6 a7).lookup ("worths" : Str)=some a3:=(di ⋯ (di ⋯ (di ⋯ nU)))
theorem uO:(iB a0 a1 a2 a3 a4 a5 a6 a7).lookup ("numbers" : Str)=some a4:=(di ⋯ (di ⋯ (di ⋯ (di ⋯ nU))))
theorem tQ:(iB a0 a1 a2 a3 a4 a5 a6 a7).lookup ("taken" : Str)=some a5:=(di ⋯ (di ⋯ (di ⋯ (di ⋯ (di ⋯ nU)))))
theorem qI:(iB a0 a1 a2 a3 a4 a5 a6 a7).lookup ("spoken" : Str)=some a6:=(di ⋯ (di ⋯ (di ⋯ (di ⋯ (di ⋯ (di ⋯ nU))))))
theorem AB:(iB a0 a1 a2 a3 a4 a5 a6 a7).lookup ("over" : Str)=some a7:=(di ⋯ (di ⋯ (di ⋯ (di ⋯ (di ⋯ (di ⋯ (di ⋯ nU)))))))
theorem o9:(iB a0 a1 a2 a3 a4 a5 a6 a7).lookup ("worth" : Str)=none:=(di ⋯ (di ⋯ (di ⋯ (di ⋯ (di ⋯ (di ⋯ (di ⋯ (di ⋯ rfl))))))))
theorem Dx:(iB a0 a1 a2 a3 a4 a5 a6 a7).lookup ("coming" : Str)=none:=(di ⋯ (di ⋯ (di ⋯ (di ⋯ (di ⋯ (di ⋯ (di ⋯ (di ⋯ rfl))))))))
theorem uP:(iB a0 a1 a2 a3 a4 a5 a6 a7).lookup ("lacks_number" : Str)=none:=(di ⋯ (di ⋯ (di ⋯ (di ⋯ (di ⋯ (di ⋯ (di ⋯ (di ⋯ rfl))))))))
theorem BU:(iB a0 a1 a2 a3 a4 a5 a6 a7).lookup ("is_held" : Str)=none:=(di ⋯ (di ⋯ (di ⋯ (di ⋯ (di ⋯ (di ⋯ (di ⋯ (di ⋯ rfl))))))))
theorem vM:(iB a0 a1 a2 a3 a4 a5 a6 a7).lookup ("take_number" : Str)=none:=(di ⋯ (di ⋯ (di ⋯ (di ⋯ (di ⋯ (di ⋯ (di ⋯ (di ⋯ rfl))))))))
theorem BW:(iB a0 a1 a2 a3 a4 a5 a6 a7).lookup ("do_deed" : Str)=none:=(di ⋯ (di ⋯ (di ⋯ (di ⋯ (di ⋯ (di ⋯ (di ⋯ (di ⋯ rfl))))))))
theorem uQ:(iB a0 a1 a2 a3 a4 a5 a6 a7).lookup ("come_to" : Str)=none:=(di ⋯ (di ⋯ (di ⋯ (di ⋯ (di ⋯ (di ⋯ (di ⋯ (di ⋯ rfl))))))))
theorem Dy:(iB a0 a1 a2 a3 a4 a5 a6 a7).lookup ("do_end" : Str)=none:=(di ⋯ (di ⋯ (di ⋯ (di ⋯ (di ⋯ (di ⋯ (di ⋯ (di ⋯ rfl))))))))
theorem BX:(iB a0 a1 a2 a3 a4 a5 a6 a7).lookup ("do_step" : Str)=none:=(di ⋯ (di ⋯ (di ⋯ (di ⋯ (di ⋯ (di ⋯ (di ⋯ (di ⋯ rfl))))))))
theorem kQ:fA "place" z (iB a0 a1 a2 a3 a4 a5 a6 a7)=iB a0 a1 z a3 a4 a5 a6 a7:=(fc ⋯ (fc ⋯ Fu))
theorem Fv:fA "taken" z (iB a0 a1 a2 a3 a4 a5 a6 a7)=iB a0 a1 a2 a3 a4 z a6 a7:=(fc ⋯ (fc ⋯ (fc ⋯ (fc ⋯ (fc ⋯ Fu)))))
theorem HM:fA "over" z (iB a0 a1 a2 a3 a4 a5 a6 a7)=iB a0 a1 a2 a3 a4 a5 a6 z:=(fc ⋯ (fc ⋯ (fc ⋯ (fc ⋯ (fc ⋯ (fc ⋯ (fc ⋯ Fu)))))))
theorem Dz:fA "pieces" a0 ([]:List (Str×V))=([("pieces",a0)]:List (Str×V)):=nV
theorem DA:fA "passed" a1 ([("pieces",a0)]:List (Str×V))=([("pieces",a0),("passed",a1)]:List (Str×V)):=(fc ⋯ nV)
theorem Fw:fA "place" a2 ([("pieces",a0),("passed",a1)]:List (Str×V))=([("pieces",a0),("passed",a1),("place",a2)]:List (Str×V)):=(fc ⋯ (fc ⋯ nV))
theorem DB:fA "worths" a3 ([("pieces",a0),("passed",a1),("place",a2)]:List (Str×V))=([("pieces",a0),("passed",a1),("place",a2),("worths",a3)]:List (Str×V)):=(fc ⋯ (fc ⋯ (fc ⋯ nV)))
theorem BY:fA "numbers" a4 ([("pieces",a0),("passed",a1),("place",a2),("worths",a3)]:List (Str×V))=([("pieces",a0),("passed",a1),("place",a2),("worths",a3),("numbers",a4)]:List (Str×V)):=(fc ⋯ (fc ⋯ (fc ⋯ (fc ⋯ nV))))
theorem Fx:fA "taken" a5 ([("pieces",a0),("passed",a1),("place",a2),("worths",a3),("numbers",a4)]:List (Str×V))=([("pieces",a0),("passed",a1),("place",a2),("worths",a3),("numbers",a4),("taken",a5)]:List (Str×V)):=(fc ⋯ (fc ⋯ (fc ⋯ (fc ⋯ (fc ⋯ nV)))))
theorem DC:fA "spoken" a6 ([("pieces",a0),("passed",a1),("place",a2),("worths",a3),("numbers",a4),("taken",a5)]:List (Str×V))=([("pieces",a0),("passed",a1),("place",a2),("worths",a3),("numbers",a4),("taken",a5),("spoken",a6)]:List (Str×V)):=(fc ⋯ (fc ⋯ (fc ⋯ (fc ⋯ (fc ⋯ (fc ⋯ nV))))))
theorem HN:fA "over" a7 ([("pieces",a0),("passed",a1),("place",a2),("worths",a3),("numbers",a4),("taken",a5),("spoken",a6)]:List (Str×V))=([("pieces",a0),("passed",a1),("place",a2),("worths",a3),("numbers",a4),("taken",a5),("spoken",a6),("over",a7)]:List (Str×V)):=(fc ⋯ (fc ⋯ (fc ⋯ (fc ⋯ (fc ⋯ (fc ⋯ (fc ⋯ nV)))))))
end
structure nG (K:LV) (C:Addr):Prop where
 cl:nq K C
 pieces:gK K C "pieces"
 gN:gK K C "passed"
 place:gK K C "place"
 jo:gK K C "worths"
 vP:gK K C "numbers"
 taken:gK K C "taken"
 ik:gK K C "spoken"
 over:gK K C "over"
structure dX (C:Addr) (H:Hp) (p pl d nl sl:Addr) (plv:V) (nums:List Int) (S:RS) (m:Nat):Prop where
 ob:∃dx,H p=some (.ins C dx (iB plv (.ref pl) (.int S.place) (.ref d) (.ref nl) (.int S.taken) (.ref sl) (.bl (decide (S.word = "stop")))))
 gN:H pl=some (.lst (S.dM.map λ k=>V.int (k:Nat)))
 last:∃xs,S.dM=xs++[S.dE]
 dict:∃kvs,H d=some (.dK kvs)/\DW kvs S.w/\kvs.length<=m
 nums:H nl=some (.lst (nums.map V.int))
 ik:H sl=some (.lst (S.told.map V.int))
 ne:pl≠nl/\pl≠sl/\nl≠sl
 er:S.told.length<=m/\S.dM.length<=m+1
def fk (p pl d sl:Addr)(H H':Hp):Prop:=∀c o,H c=some o->c≠p->c≠pl->c≠d->c≠sl->H' c=some o
theorem fk.refl (p pl d sl:Addr)(H:Hp):fk p pl d sl H H:=λ _ _ h _ _ _ _=>h
theorem fk.trans {p:Addr}{H:Hp}(a:fk p pl d sl H H1)(b:fk p pl d sl H1 D):fk p pl d sl H D:=λ c o h J G B N=>b c o (a c o h J G B N) J G B N
theorem fk.nH:fk p pl d sl H (upd H p o):=λ c u h n _ _ _=>by rw[cx n];exact h
theorem fk.JK:fk p pl d sl H (upd H pl o):=λ c u h _ n _ _=>by rw[cx n];exact h
theorem fk.mD:fk p pl d sl H (upd H d o):=λ c u h _ _ n _=>by rw[cx n];exact h
theorem fk.JL:fk p pl d sl H (upd H sl o):=λ c u h _ _ _ n=>by rw[cx n];exact h
theorem fk.of_same (h:cy H H'):fk p pl d sl H H':=λ c o e _ _ _ _=>h c o e
section
variable {C:Addr}{H H':Hp}{p pl d nl sl:Addr}{plv:V}{nums:List Int}{S:RS}{m:Nat}
theorem dX.xf (A:dX C H p pl d nl sl plv nums S m):p≠pl/\p≠d/\p≠nl/\p≠sl/\d≠pl/\d≠nl/\d≠sl:=by
 obtain⟨G,D⟩:=A.ob;obtain⟨kvs,B,_⟩:=A.dict;refine⟨dD D A.gN ?_,dD D B ?_,dD D A.nums ?_,dD D A.ik ?_,dD B A.gN ?_,dD B A.nums ?_,dD B A.ik ?_⟩<;>(intro z;cases z)
theorem dX.tup {c:Addr}{xs:List V}(A:dX C H p pl d nl sl plv nums S m)(b:fk p pl d sl H H')(h:H c=some (.tup xs)):H' c=some (.tup xs):=by
 obtain⟨G,D⟩:=A.ob;obtain⟨kvs,B,_⟩:=A.dict;refine b c _ h (dD h D ?_) (dD h A.gN ?_) (dD h B ?_) (dD h A.ik ?_)<;>(intro z;cases z)
theorem dX.rd {x:V}{B:PyData}(A:dX C H p pl d nl sl plv nums S m)(b:fk p pl d sl H H')(r:cW H x B)(n:eh B=true):cW H' x B :=
 r.dr (λ c xs e=>A.tup b e) n
theorem dX.same (A:dX C H p pl d nl sl plv nums S m)(s:cy H H'):dX C H' p pl d nl sl plv nums S m:=by
 obtain⟨⟨G,h1⟩,Z,N,⟨kvs,J,h5⟩,Y,h7,D,B⟩:=A;exact⟨⟨G,s _ _ h1⟩,s _ _ Z,N,⟨kvs,s _ _ J,h5⟩,s _ _ Y,s _ _ h7,D,B⟩
theorem dX.obj {G:Addr}{S':RS}{fs:List (Str×V)}(A:dX C H p pl d nl sl plv nums S m)
  (e:fs=iB plv (.ref pl) (.int S'.place) (.ref d) (.ref nl) (.int S'.taken) (.ref sl) (.bl (decide (S'.word = "stop"))))
  (B:S'.dM=S.dM) (N:S'.dE=S.dE) (e3:S'.w=S.w) (D:S'.told=S.told):dX C (upd H p (.ins C G fs)) p pl d nl sl plv nums S' m:=by
 obtain⟨n1,Z,J,n4,_⟩:=A.xf;obtain⟨kvs,Y,h5⟩:=A.dict;subst e;refine⟨⟨G,cu⟩,by rw[cx n1.symm,B];exact A.gN,by rw[B,N];exact A.last,⟨kvs,by rw[cx Z.symm];exact Y,by rw[e3];exact h5⟩,by rw[cx J.symm];exact A.nums,by rw[cx n4.symm,D];exact A.ik,A.ne,by rw[B,D];exact A.er⟩
theorem dX.jo {kvs:List (Key×V)}{x:Str}{n:Int}(A:dX C H p pl d nl sl plv nums S m)(h:H d=some (.dK kvs))(dw:DW kvs S.w)(hl:kvs.length<=m) :
  dX C (upd H d (.dK (putK kvs (Sum.inr x) (.int n)))) p pl d nl sl plv nums { S with w:=jX S.w x n } (m+1):=by
 obtain⟨n1,J,Z,n4,B,Y,D⟩:=A.xf;obtain⟨G,N⟩:=A.ob;refine⟨⟨G,by rw[cx J];exact N⟩,by rw[cx B.symm];exact A.gN,A.last,⟨_,cu,dw.put x n,?_⟩,by rw[cx Y.symm];exact A.nums,by rw[cx D.symm];exact A.ik,A.ne,⟨Mj A.er.1,Mj A.er.2⟩⟩;have:=fY kvs (Sum.inr x:Key) (V.int n);omega
theorem dX.Kv {n:Int}(A:dX C H p pl d nl sl plv nums S m):dX C (upd H sl (.lst (S.told.map V.int++[.int n]))) p pl d nl sl plv nums { S with told:=S.told++[n] } (m+1):=by
 obtain⟨n1,n2,n3,N,n5,n6,B⟩:=A.xf;obtain⟨D,Z⟩:=A.ob;obtain⟨kvs,G,Y,J⟩:=A.dict;refine⟨⟨D,by rw[cx N];exact Z⟩,by rw[cx A.ne.2.1];exact A.gN,A.last,⟨kvs,by rw[cx B];exact G,Y,Mj J⟩,by rw[cx A.ne.2.2];exact A.nums,by rw[cu,L4];rfl,A.ne,?_,Mj A.er.2⟩;have:=A.er.1;show (S.told++[n]).length<=m+1;rw[LY];exact M8 this
theorem dX.Lq {q:Nat}(A:dX C H p pl d nl sl plv nums S m):dX C (upd H pl (.lst ((S.dM.map λ k=>V.int (k:Nat))++[.int q]))) p pl d nl sl plv nums { S with dE:=q,dM:=S.dM++[q] } (m+1):=by
 obtain⟨N,n2,n3,n4,B,n6,n7⟩:=A.xf;obtain⟨D,Z⟩:=A.ob;obtain⟨kvs,G,Y,J⟩:=A.dict;exists ⟨D,by rw[cx N];exact Z⟩,by rw[cu,L4];rfl,⟨S.dM,rfl⟩,⟨kvs,by rw[cx B];exact G,Y,Mj J⟩,by rw[cx A.ne.1.symm];exact A.nums,by rw[cx A.ne.2.1.symm];exact A.ik,A.ne,Mj A.er.1;have:=A.er.2;show (S.dM++[q]).length<=m+1+1;rw[LY];exact M8 this
theorem dX.mono {D:Nat}(A:dX C H p pl d nl sl plv nums S m)(h:m<=D):dX C H p pl d nl sl plv nums S D:=by
 obtain⟨h1,h2,Y,⟨kvs,N,h5,Z⟩,h7,J,G,B⟩:=A;exact⟨h1,h2,Y,⟨kvs,N,h5,Ma Z h⟩,h7,J,G,Ma B.1 h,Ma B.2 (M8 h)⟩
theorem dX.AD (A:dX C H p pl d nl sl plv nums S m):iL (S.dM.map λ k=>V.int (k:Nat)) (-1)=some (.int S.dE):=by
 obtain⟨xs,e⟩:=A.last;rw[e];simp only[L4,Mt,NI];unfold iL p7;simp;rw[if_pos ⋯];have B:(-1+((xs.length:Int)+1)).toNat=xs.length:=by omega
 rw[B];simp
end
inductive vQ (C:Addr) (vs:List V) (H:Hp) (Q:VK) (_:XK):Prop
 | mk (p pl d nl sl:Addr) (plv:V) (nums:List Int) (S:RS) (m:Nat) (x:Str) (_:vs=[.ref p,.str x]) (_:dX C H p pl d nl sl plv nums S m) (_:Q (.int (S.w x)) H)
inductive Nx (H:Hp) (ds:List e6) (e:End) (i:Nat) (v:V):Prop
 | JM (dd:e6) (q:Addr) (h:ds[i]?=some dd) (hv:v=.ref q) (hq:H q=some (.tup (lM dd)))
 | end_ (q:Addr) (h:ds[i]?=none) (hv:v=.ref q) (hq:H q=some (.tup (fX e)))
inductive yU (C:Addr) (vs:List V) (H:Hp) (Q:VK) (_:XK):Prop
 | mk (p pl d nl sl:Addr) (plv:V) (nums:List Int) (S:RS) (m:Nat) (ps:List Piece) (ds:List e6) (e:End) (_:vs=[.ref p]) (_:dX C H p pl d nl sl plv nums S m) (_:cW H plv (fq ps)) (_:ps[S.dE]?=some (ds,e)) (_:∀v,Nx H ds e S.place v->Q v H)
def oG:e6->Bool
 | .read _=>true
 | _=>false
def jC (ps:List Piece)(nums:List Int)(S:RS):Bool:=match ps[S.dE]? with
 | none=>false
 | some (ds,_)=>match ds[S.place]? with
  | some dd=>oG dd&&decide (S.taken=nums.length)
  | none=>false
inductive AE (C:Addr) (vs:List V) (H:Hp) (Q:VK) (_:XK):Prop
 | mk (p pl d nl sl:Addr) (plv:V) (nums:List Int) (S:RS) (m:Nat) (ps:List Piece) (_:vs=[.ref p]) (_:dX C H p pl d nl sl plv nums S m) (_:cW H plv (fq ps)) (_:S.dE<ps.length) (_:Q (.bl (jC ps nums S)) H)
inductive AF (C:Addr) (vs:List V) (H:Hp) (Q:VK) (_:XK):Prop
 | mk (p pl d nl sl:Addr) (plv:V) (nums:List Int) (S:RS) (m:Nat) (n:Int) (_:vs=[.ref p]) (_:dX C H p pl d nl sl plv nums S m) (_:nums[S.taken]?=some n) (_:∀H',dX C H' p pl d nl sl plv nums { S with taken:=S.taken+1 } m->fk p pl d sl H H'->Q (.int n) H')
inductive yV (C:Addr) (vs:List V) (H:Hp) (Q:VK) (_:XK):Prop
 | mk (p pl d nl sl q:Addr) (plv:V) (nums:List Int) (S:RS) (m:Nat) (dd:e6) (_:vs=[.ref p,.ref q]) (_:dX C H p pl d nl sl plv nums S m) (_:H q=some (.tup (lM dd))) (_:(oG dd=true->S.taken<nums.length)) (_:m<=10000) (_:∀H',dX C H' p pl d nl sl plv nums (jN nums S dd) (m+1)->fk p pl d sl H H'->Q .eu H')
inductive DD (C:Addr) (vs:List V) (H:Hp) (Q:VK) (_:XK):Prop
 | mk (p pl d nl sl:Addr) (plv:V) (nums:List Int) (S:RS) (m n:Nat) (_:vs=[.ref p,.int n]) (_:dX C H p pl d nl sl plv nums S m) (_:m<=10000) (_:∀H',dX C H' p pl d nl sl plv nums { S with dE:=n,place:=0,dM:=S.dM++[n] } (m+1)->fk p pl d sl H H'->Q .eu H')
inductive AG (C:Addr) (vs:List V) (H:Hp) (Q:VK) (_:XK):Prop
 | mk (p pl d nl sl q:Addr) (plv:V) (nums:List Int) (S:RS) (m:Nat) (e:End) (_:vs=[.ref p,.ref q]) (_:dX C H p pl d nl sl plv nums S m) (_:H q=some (.tup (fX e))) (_:m<=10000) (_:∀H',dX C H' p pl d nl sl plv nums (mC S e) (m+1)->fk p pl d sl H H'->Q .eu H')
inductive yW (C:Addr) (vs:List V) (H:Hp) (Q:VK) (_:XK):Prop
 | mk (p pl d nl sl:Addr) (plv:V) (nums:List Int) (S:RS) (m:Nat) (ps:List Piece) (_:vs=[.ref p]) (_:dX C H p pl d nl sl plv nums S m) (_:cW H plv (fq ps)) (_:S.dE<ps.length) (_:S.taken<=nums.length) (_:jC ps nums S=false) (_:m<=10000) (_:∀H',dX C H' p pl d nl sl plv nums (fN ps nums S) (m+1)->fk p pl d sl H H'->Q .eu H')
def qJ (ps:List Piece)(nums:List Int)(S:RS):RS:=if S.word = "on" then fN ps nums S else S
def eH (ps:List Piece)(nums:List Int):Nat->RS->RS
 | 0,S=>S
 | n+1,S=>qJ ps nums (eH ps nums n S)
theorem vR {ps:List Piece} {nums:List Int} {n:Nat} {S:RS} (h:(eH ps nums n S).word = "on"):eH ps nums (n+1) S=fN ps nums (eH ps nums n S):=by
 show qJ ps nums _=_;unfold qJ;rw[if_pos h]
theorem mV {ps:List Piece} {nums:List Int} {n:Nat} {S:RS} (h:¬(eH ps nums n S).word = "on"):∀k,eH ps nums (n+k) S=eH ps nums n S
 | 0=>rfl
 | k+1=>by
  show qJ ps nums (eH ps nums (n+k) S)=_;rw[mV h k];unfold qJ;rw[if_neg h]
theorem AH {ps:List Piece}{nums:List Int}{S:RS}(hp:ft ps)(h:S.dE<ps.length)(D:S.taken<=nums.length):∀n,(eH ps nums n S).dE<ps.length/\(eH ps nums n S).taken<=nums.length
 | 0=>⟨h,D⟩
 | n+1=>by
  have B:=AH hp h D n;show (qJ ps nums (eH ps nums n S)).dE<_/\(qJ ps nums (eH ps nums n S)).taken<=_;unfold qJ;split
  ·exact yR hp B.1 B.2
  ·exact B
theorem Fy {ps:List Piece}{S:RS}(h:jC ps nums S=true):fN ps nums S={ S with word := "dry" }:=by
 unfold jC at h;unfold fN;cases hx:ps[S.dE]? with
 | none=>rw[hx] at h;cases h
 | some pc =>
  obtain⟨ds,e⟩:=pc;rw[hx] at h;dsimp only at h ⊢;cases hd:ds[S.place]? with
  | none=>rw[hd] at h;cases h
  | some dd =>
   rw[hd] at h;dsimp only at h ⊢;cases dd with
   | read x =>
    have B:S.taken=nums.length:=of_decide_eq_true (by simpa [oG] using h);have hn:nums[S.taken]?=none:=by rw[B];simp
    show jN nums S (.read x)=_;unfold jN;rw[hn]
   | _=>cases h
theorem Fz {ps:List Piece}  {S:RS} (h:jC ps nums S=false) (B:S.word = "on") (G:S.taken<=nums.length):(fN ps nums S).word = "on" \/ (fN ps nums S).word = "stop" := by
 unfold jC at h;unfold fN;cases hx:ps[S.dE]? with
 | none=>exact .inl B
 | some pc =>
  obtain⟨ds,e⟩:=pc;rw[hx] at h;dsimp only at h ⊢;cases hd:ds[S.place]? with
  | none =>
   dsimp only;cases e with
   | stop=>exact .inr rfl
   | go q=>exact .inl B
   | eM b x n q r=>exact .inl B
  | some dd =>
   rw[hd] at h;dsimp only at h ⊢;cases dd with
   | read x =>
    have D:S.taken<nums.length:=by
     have:¬S.taken=nums.length:=of_decide_eq_false (by simpa [oG] using h);omega
    have hn:nums[S.taken]?=some nums[S.taken]:=by simp[D]
    show (jN nums S (.read x)).word=_\/_;unfold jN;rw[hn];exact .inl B
   | put x n=>exact .inl B
   | copy x y=>exact .inl B
   | add x n=>exact .inl B
   | tell x=>exact .inl B
def eV (pc:Nat)(w:Str->Int):RS:=⟨pc,0,w,0,[], "on",[pc]⟩
def ir (ps:List Piece)(nums:List Int)(S:RS):Bool:=decide (S.word = "stop")||jC ps nums S
def gC (ps:List Piece)(nums:List Int):Nat->RS->RS
 | 0,S=>S
 | n+1,S=>if ir ps nums (gC ps nums n S)=true then gC ps nums n S else fN ps nums (gC ps nums n S)
def kR (ps:List Piece)(nums:List Int):Nat->RS->Nat
 | 0,_=>0
 | n+1,S=>if ir ps nums (gC ps nums n S)=true then kR ps nums n S else kR ps nums n S+1
theorem DE {ps:List Piece}{S:RS}(h:ir ps nums (gC ps nums n S)=false):gC ps nums (n+1) S=fN ps nums (gC ps nums n S)/\kR ps nums (n+1) S=kR ps nums n S+1:=by
 have h':¬ir ps nums (gC ps nums n S)=true:=by rw[h];decide
 exact⟨if_neg h',if_neg h'⟩
theorem oH {ps:List Piece}{nums:List Int}{n:Nat}{S:RS}(h:ir ps nums (gC ps nums n S)=true):∀k,gC ps nums (n+k) S=gC ps nums n S/\kR ps nums (n+k) S=kR ps nums n S
 | 0=>⟨rfl,rfl⟩
 | k+1=>by
  have B:=oH h k;have h':ir ps nums (gC ps nums (n+k) S)=true:=by rw[B.1];exact h
  exact⟨(if_pos h').trans B.1,(if_pos h').trans B.2⟩
theorem BZ {ps:List Piece}{nums:List Int}{S:RS}(hp:ft ps)(h:S.dE<ps.length)(D:S.taken<=nums.length):∀n,(gC ps nums n S).dE<ps.length/\(gC ps nums n S).taken<=nums.length
 | 0=>⟨h,D⟩
 | n+1=>by
  have B:=BZ hp h D n;unfold gC;split
  ·exact B
  ·exact yR hp B.1 B.2
theorem vS {ps:List Piece} {nums:List Int} {S:RS} (Y:ft ps) (Z:S.dE<ps.length) (ht:S.taken<=nums.length) (hw:S.word = "on"):∀n,
  ((eH ps nums n S).word = "on" /\ gC ps nums n S=eH ps nums n S/\kR ps nums n S=n)\/((eH ps nums n S).word = "stop" /\ gC ps nums n S=eH ps nums n S) \/
  (eH ps nums n S={ gC ps nums n S with word := "dry" }/\(gC ps nums n S).word = "on" /\ jC ps nums (gC ps nums n S)=true/\kR ps nums n S<n)
 | 0=>.inl ⟨hw,rfl,rfl⟩
 | n+1=>by
  have gi:=BZ (ps:=ps) (nums:=nums) (S:=S) Y Z ht n
  rcases vS Y Z ht hw n with ⟨D,G,N⟩ | ⟨D,G⟩ | ⟨D,G,N,h4⟩
  ·have J:=vR D;have ns:decide ((gC ps nums n S).word = "stop")=false:=by rw[G,D];decide
   cases hl:jC ps nums (gC ps nums n S) with
   | true =>
    have hh:ir ps nums (gC ps nums n S)=true:=by unfold ir;rw[ns,hl];rfl
    have B:=oH hh 1;refine .inr (.inr ⟨?_,?_,?_,?_⟩)
    ·rw[J,B.1,<-G];exact Fy hl
    ·rw[B.1,G];exact D
    ·rw[B.1];exact hl
    ·rw[B.2,N];omega
   | false =>
    have hh:ir ps nums (gC ps nums n S)=false:=by unfold ir;rw[ns,hl];rfl
    have B:=DE hh;have w2:=Fz hl (by rw[G];exact D) gi.2;have e3:gC ps nums (n+1) S=eH ps nums (n+1) S:=by rw[B.1,J,G]
    rcases w2 with w2 | w2
    ·exact .inl ⟨by rw[<-e3,B.1];exact w2,e3,by rw[B.2,N]⟩
    ·exact .inr (.inl ⟨by rw[<-e3,B.1];exact w2,e3⟩)
  ·have hh:ir ps nums (gC ps nums n S)=true:=by unfold ir;rw[G,D];rfl
   have B:=oH hh 1;have J:=mV (n:=n) (ps:=ps) (nums:=nums) (S:=S) (by rw[D];decide) 1;exact .inr (.inl ⟨by rw[J];exact D,by rw[B.1,J];exact G⟩)
  ·have hh:ir ps nums (gC ps nums n S)=true:=by unfold ir;rw[N];simp
   have B:=oH hh 1;have J:=mV (n:=n) (ps:=ps) (nums:=nums) (S:=S) (by rw[D];show ¬(("dry" : Str) = "on");decide) 1;refine .inr (.inr ⟨?_,?_,?_,?_⟩)
   ·rw[J,B.1];exact D
   ·rw[B.1];exact G
   ·rw[B.1];exact N
   ·rw[B.2];omega
inductive DF (C:Addr) (vs:List V) (H:Hp) (Q:VK) (_:XK):Prop
 | mk (p pl d nl sl:Addr) (plv:V) (nums:List Int) (S:RS) (m:Nat) (ps:List Piece) (_:vs=[.ref p]) (_:dX C H p pl d nl sl plv nums S m) (_:cW H plv (fq ps)) (_:S.dE<ps.length) (_:Q (.bl (ir ps nums S)) H)
inductive yX (C:Addr) (vs:List V) (H:Hp) (Q:VK) (_:XK):Prop
 | mk (p pl d nl sl:Addr) (plv:V) (nums:List Int) (S:RS) (m n:Nat) (ps:List Piece) (_:vs=[.ref p,.int n]) (_:dX C H p pl d nl sl plv nums S m) (_:cW H plv (fq ps)) (_:ft ps) (_:S.dE<ps.length) (_:S.taken<=nums.length) (_:m+n<=10000) (_:∀H',dX C H' p pl d nl sl plv nums (gC ps nums n S) (m+kR ps nums n S)->fk p pl d sl H H'->Q (.int (kR ps nums n S:Nat)) H')
inductive vT (C:Addr) (vs:List V) (H:Hp) (Q:VK) (_:XK):Prop
 | mk (p dx d0 np:Addr) (plv:V) (pc:Nat) (kvs:List (Key×V)) (w:Str->Int) (nums:List Int) (_:vs=[.ref p,plv,.int pc,.ref d0,.ref np]) (_:H p=some (.ins C dx [])) (_:H d0=some (.dK kvs)) (_:DW kvs w) (_:H np=some (.tup (nums.map V.int))) (_:∀(pl d nl sl:Addr) (H':Hp),dX C H' p pl d nl sl plv nums (eV pc w) kvs.length->(∀c o,H c=some o->c≠p->H' c=some o)->H pl=none->H d=none->H nl=none->H sl=none->Q .eu H')
def kh (S:RS):PyData:=.tuple [.str S.word,.tuple (S.told.map PyData.int)]
inductive AI  (vs:List V) (H:Hp) (Q:VK) (_:XK):Prop
 | mk (d0 np:Addr) (plv:V) (pc n:Nat) (kvs:List (Key×V)) (w:Str->Int) (nums:List Int) (ps:List Piece) (_:vs=[plv,.int pc,.ref d0,.ref np,.int n]) (_:cW H plv (fq ps)) (_:ft ps) (_:pc<ps.length) (_:H d0=some (.dK kvs)) (_:DW kvs w) (_:H np=some (.tup (nums.map V.int))) (_:kvs.length<=1000) (_:n<=2000) (_:∀v H',cW H' v (kh (eH ps nums n (eV pc w)))->cy H H'->Q v H')
inductive G1  (vs:List V) (H:Hp) (Q:VK) (_:XK):Prop
 | mk (np:Addr) (plv:V) (n:Nat) (nums:List Int) (ps:List Piece) (_:vs=[plv,.ref np,.int n]) (_:cW H plv (fq ps)) (_:ft ps) (_:0<ps.length) (_:H np=some (.tup (nums.map V.int))) (_:n<=2000) (_:∀v H',cW H' v (kh (eH ps nums n (eV 0 λ _=>0)))->cy H H'->Q v H')
def se (S:RS):PyData:=.tuple (S.dM.map λ k=>PyData.int (k:Nat))
inductive DG  (vs:List V) (H:Hp) (Q:VK) (_:XK):Prop
 | mk (np:Addr) (plv:V) (n:Nat) (nums:List Int) (ps:List Piece) (_:vs=[plv,.ref np,.int n]) (_:cW H plv (fq ps)) (_:ft ps) (_:0<ps.length) (_:H np=some (.tup (nums.map V.int))) (_:n<=2000) (_:∀v H',cW H' v (se (eH ps nums n (eV 0 λ _=>0)))->cy H H'->Q v H')
theorem DH {b:Bool} {u n:Int}:JI (gF (wT b) (some u) (some u) n true) (gF (wT b) (some u) (some u) n false)=(if iF b u n=true then ("yes" : Str) else ("no" : Str)):=by
 cases b with
 | true =>
  have D:∀s,gF (wT true) (some u) (some u) n s=lN (some u) (some u) n s:=λ s=>by
   unfold gF;rw[if_pos (show wT true=("less" : Str) from rfl)]
  have G:lN (some u) (some u) n true=jn (some u) (some u) n:=by
   unfold lN;rw[if_pos rfl]
  have J:lN (some u) (some u) n false=jO (some u) (some u) n:=by
   unfold lN;rw[if_neg ⋯]
  rw[D,D,G,J];by_cases h:u<n
  ·have hb:jY (some u) n=n:=by
    show (if n > u then n else u)=n;exact if_pos h
   have f1:jO (some u) (some u) n=none:=by
    show (if u<jY (some u) n then (none:Rs) else some (some (jY (some u) n),some u))=none;rw[hb,if_pos h]
   have B:iF true u n=true:=by
    unfold iF;rw[if_pos rfl];exact decide_eq_true h
   rw[f1,if_pos B];rfl
  ·have hb:jY (some u) n=u:=by
    show (if n > u then n else u)=u;exact if_neg h
   have ht:mf (some u) n=n-1:=by
    show (if n-1<u then n-1 else u)=n-1;exact if_pos ⋯
   have f1:jO (some u) (some u) n=some (some u,some u):=by
    show (if u<jY (some u) n then (none:Rs) else some (some (jY (some u) n),some u))=_;rw[hb,if_neg (Int.lt_irrefl u)]
   have N:jn (some u) (some u) n=none:=by
    show (if mf (some u) n<u then (none:Rs) else some (some u,some (mf (some u) n)))=none;rw[ht,if_pos ⋯]
   have B:iF true u n=false:=by
    unfold iF;rw[if_pos rfl];exact decide_eq_false h
   rw[f1,N,B];rfl
 | false =>
  have D:∀s,gF (wT false) (some u) (some u) n s=sW (some u) (some u) n s:=λ s=>by
   unfold gF;rw[if_neg (show ¬wT false=("less" : Str) from BS)]
  have G:sW (some u) (some u) n true=sV (some u) (some u) n:=by
   unfold sW;rw[if_pos rfl]
  have J:sW (some u) (some u) n false=kf (some u) (some u) n:=by
   unfold sW;rw[if_neg ⋯]
  rw[D,D,G,J];by_cases h:u=n
  ·subst h;have f1:kf (some u) (some u) u=none:=by
    unfold kf;rw[if_pos rfl,if_pos rfl]
   have B:iF false u u=true:=by
    unfold iF;rw[if_neg ⋯];exact decide_eq_true rfl
   rw[f1,if_pos B];rfl
  ·have Y:¬((some u:Option Int)=some n):=λ z=>h (Mf.inj z)
   have f1:kf (some u) (some u) n=some (some u,some u):=by
    unfold kf;rw[if_neg Y,if_neg Y]
   have N:sV (some u) (some u) n=none:=by
    have Z:nE n (some u) (some u)=false:=by
     show (decide (u<=n)&&decide (n<=u))=false;by_cases g:u<=n
     ·rw[decide_eq_false (show ¬n<=u by omega),Bool.and_false]
     ·rw[decide_eq_false g,NR]
    unfold sV;rw[Z,if_neg ⋯]
   have B:iF false u n=false:=by
    unfold iF;rw[if_neg ⋯];exact decide_eq_false h
   rw[f1,N,B];rfl
theorem sf {H:Hp}:∀ns:List Int,dh H (ns.map V.int) (ns.map PyData.int)
 | []=>.nil
 | n::ns=>.cons (.int n) (sf ns)
theorem AJ {H:Hp}:∀ns:List Nat,dh H (ns.map λ k=>V.int (k:Nat)) (ns.map λ k=>PyData.int (k:Nat))
 | []=>.nil
 | n::ns=>.cons (.int n) (AJ ns)
theorem iG {c:Addr}{B D:HO}(h:H1 c=some o)(n:c≠p)(hq:H1 q=none):(upd (upd H1 q B) p D) c=some o:=by
 rw[cx n,cx (cD h hq)];exact h
theorem gY {u:HO}(k:∀c o,H c=some o->c≠p->H1 c=some o)(B:H1 p=some u)(hn:H1 q=none):H q=none/\q≠p:=by
 have n:q≠p:=λ z=>by rw[z,B] at hn;cases hn
 refine⟨?_,n⟩;cases e:H q with
 | none=>rfl
 | some o=>rw[k q o e n] at hn;cases hn
end L2
namespace HT
open PySem PyProof.Rows PySem.Spec
section
variable {prog:Program}{w:World}{A:Around}{E:Z0}{s:Shared}
theorem sH {t sl:Addr}{items:Array Value}{vl vu:Value}{lo hi:Option Int}{Q:Z0}(B:IsTup s.heap t items)(Y:s.heap.IsSliceOf sl vl vu .none)(pl:IsPart vl lo)(pu:IsPart vu hi)
  (Z:fb items.size 0 lo=0/\fb items.size items.size hi=items.size) (h:Q (.ref t) s):wpAny (model prog w) A (getItem (.ref t) (.ref sl)) Q E s:=by
 obtain⟨os,G,N,a0⟩:=id Y;have D:s.TypeIs (.ref sl) "slice" := ⟨os,G,N⟩;unfold getItem
 try with_reducible refine OC ?_
 first | refine Oz (OA ?_) | skip
 refine Oz (O7 B.typeIs ⋯ ?_);refine Oz (wpAny_callSpecial?_slot (name:=Str.ofString "__getitem__") B.typeIs PyProof.Rows.slot_tuple_getitem
  (OE PyProof.Rows.slot_tuple_getitem B.typeIs entry_tuple_getitem ?_ (args_tuple_getitem _ _)))
 show wpAny _ _ (Builtin.Tuple.tupleItemsOf (.ref t) >>= _) _ _ s;refine Oz (tupleItemsOf_ B ?_);refine Oz (ON D ?_);rw[if_pos ⋯];refine Oz (mP Y pl pu ?_);have J:((((fb items.size 0 lo:Nat):Int) == 0&&(1:Int) == 1&&(fb items.size items.size hi-fb items.size 0 lo) == items.size)=true):=by
  rw[Z.1,Z.2];simp
 show wpAny _ _ (if (((fb items.size 0 lo:Nat):Int) == 0&&(1:Int) == 1&&(fb items.size items.size hi-fb items.size 0 lo) == items.size)=true then _ else _) _ _ s;rw[if_pos J];refine Oz ?_;unfold Builtin.Tuple.tupleIsExact;refine Oz (ON B.typeIs (OA ?_));rw[if_pos ⋯];refine Oz (OI ?_)
 first
  | exact OA ⟨_,rfl,OA h⟩
  | exact Oz (OA (OA ⟨_,rfl,OA h⟩))
  | exact OA (OA ⟨_,rfl,OA h⟩)
end
end HT
namespace L2
open PySem PySem.Spec PyProof.Rows
variable {xs ys its:Array Value}{Q:Option Value->Shared->Prop}{a j b p d z q t:Addr}{D:List (Str×Addr)}{n m kk ep:Nat}{v u:Value}{ks:List Str}{es:Array DictEntry}{elts:List Expr}{P:Program}{w:World}{o:Obj}{S:RS}{K:LV}
section
variable {X:Cx}
inductive G3 (K:LV) (x:V) (lo:Option Int) (hi:Option Int) (H:Hp) (Q:VK):Prop
 | mk (a xs:_) (_:x=.ref a) (_:cE K H a xs) (_:((HT.fb xs.length 0 lo=0/\HT.fb xs.length xs.length hi=xs.length)->Q (.ref a) H)) (_:(¬(HT.fb xs.length 0 lo=0/\HT.fb xs.length xs.length hi=xs.length)->∀p,H p=none->Q (.ref p) (upd H p (.tup (jT xs lo hi)))))
theorem kT:Js X (G3 X.K):=by
 intro D s Z H x v vl vu lo hi sl Q I G J pl Y h;obtain⟨a,xs,rfl,hx,q1,q2⟩:=h;by_cases hw:HT.fb xs.length 0 lo=0/\HT.fb xs.length xs.length hi=xs.length
 ·cases G;obtain⟨its,r,N,hz⟩:=I.tuple hx;have B:its.toArray.size=xs.length:=by rw[Mi];exact r.length.symm
  exists "tuple",_,PyProof.Rows.slot_tuple_getitem.lookup,N.typeIs;exact HT.sH N J pl Y (by rw[B];exact hw) ⟨.ref a,H,I,rfl,q1 hw⟩
 ·exact Jt D s Z H (.ref a) v vl vu lo hi sl Q I G J pl Y ⟨a,xs,rfl,hx,hw,q2 hw⟩
end
theorem LH {B:Type}{x y z u v w:B}{xs:List B}:iL (x::y::z::u::v::w::xs) 5=some w:=dN (j:=5) rfl
theorem DI {x y z r:Int}(h0:0<=r)(B:r<3):∃g:Int,iL [V.int x,V.int y,V.int z] r=some (V.int g)/\(g=x\/g=y\/g=z):=by
 obtain rfl | rfl | rfl:r=0\/r=1\/r=2:=by omega
 ·exact⟨x,eG,.inl rfl⟩
 ·exact⟨y,gQ,.inr (.inl rfl)⟩
 ·exact⟨z,at2,.inr (.inr rfl)⟩
theorem iQ.mono {H:Hp}{st tl bl:Addr}{m D:Nat}(h:iQ H st d tl bl S m)(le:m<=D):iQ H st d tl bl S D:=by
 obtain⟨G,⟨kvs,h2,N,J⟩,h5,Z,Y,B⟩:=h;exact⟨G,⟨kvs,h2,N,Ma J le⟩,h5,Z,Y,Ma B.1 le,Ma B.2 (M8 le)⟩
theorem lay_ints:∀ns:List Int,(PyData.tuple (ns.map PyData.int)).canLay0=true
 | []=>rfl
 | n::ns=>by
  show (true&&(PyData.tuple (ns.map PyData.int)).canLay0)=true;rw[lay_ints ns];rfl
theorem yY:∀ns:List Nat,(PyData.tuple (ns.map λ k=>PyData.int (k:Nat))).canLay0=true
 | []=>rfl
 | n::ns=>by
  show (true&&(PyData.tuple (ns.map λ k=>PyData.int (k:Nat))).canLay0)=true;rw[yY ns];rfl
theorem xg:∀ns:List Int,PyData.depthAll (ns.map PyData.int)=0
 | []=>rfl
 | n::ns=>by
  show max 0 (PyData.depthAll (ns.map PyData.int))=0;rw[xg ns];rfl
theorem xh:∀ns:List Nat,PyData.depthAll (ns.map λ k=>PyData.int (k:Nat))=0
 | []=>rfl
 | n::ns=>by
  show max 0 (PyData.depthAll (ns.map λ k=>PyData.int (k:Nat)))=0;rw[xh ns];rfl
theorem HP (S:RS):(kh S).depth<=60:=by
 show max 0 (max (PyData.depthAll (S.told.map PyData.int)+1) 0)+1<=60;rw[xg];decide
theorem HQ (S:RS)(h:PySem.PyData.canLay0 (.str S.word)=true):(kh S).canLay0=true:=by
 show (PySem.PyData.canLay0 (.str S.word)&&((PyData.tuple (S.told.map PyData.int)).canLay0&&true))=true;rw[lay_ints,h];rfl
theorem B0 (ps:List Piece) (nums:List Int) (S:RS):(fN ps nums S).word=S.word\/(fN ps nums S).word = "stop" \/ (fN ps nums S).word = "dry" := by
 unfold fN;cases hx:ps[S.dE]? with
 | none=>exact .inl rfl
 | some pc =>
  obtain⟨ds,e⟩:=pc;dsimp only;cases hd:ds[S.place]? with
  | none =>
   dsimp only;cases e with
   | stop=>exact .inr (.inl rfl)
   | go q=>exact .inl rfl
   | eM b x n q r=>exact .inl rfl
  | some dd =>
   dsimp only;cases dd with
   | read x =>
    unfold jN;cases hn:nums[S.taken]? with
    | none=>exact .inr (.inr rfl)
    | some n=>exact .inl rfl
   | put x n=>exact .inl rfl
   | copy x y=>exact .inl rfl
   | add x n=>exact .inl rfl
   | tell x=>exact .inl rfl
theorem xi {ps:List Piece} {nums:List Int} {S:RS} (h:S.word = "on"):∀n,(eH ps nums n S).word = "on" \/ (eH ps nums n S).word = "stop" \/ (eH ps nums n S).word = "dry"
 | 0=>.inl h
 | n+1=>by
  by_cases hw:(eH ps nums n S).word = "on"
  ·rw[vR hw]
   rcases B0 ps nums (eH ps nums n S) with z | z
   ·exact .inl (z.trans hw)
   ·exact .inr z
  ·rw[mV hw 1];exact xi h n
theorem FA {ps:List Piece} {nums:List Int}  (h:S.word = "on") (n:Nat):PySem.PyData.canLay0 (.str (eH ps nums n S).word)=true:=by
 rcases xi (ps:=ps) (nums:=nums) h n with z | z | z<;>(rw[z];decide)
theorem FC (S:RS):(se S).depth<=60:=by
 show PyData.depthAll (S.dM.map λ k=>PyData.int (k:Nat))+1<=60;rw[xh];decide
theorem FE (S:RS):(se S).canLay0=true:=yY _
inductive AK  (vs:List V) (H:Hp) (Q:VK) (_:XK):Prop
 | mk (np:Addr) (plv:V) (n:Nat) (nums:List Int) (ps:List Piece) (_:vs=[plv,.ref np,.int n]) (_:cW H plv (fq ps)) (_:ft ps) (_:0<ps.length) (_:H np=some (.tup (nums.map V.int))) (_:n<=2000) (_:∀st d tl bl H',iQ H' st d tl bl (eH ps nums n (eV 0 λ _=>0)) n->cy H H'->Q (.ref st) H')
inductive yZ  (vs:List V) (H:Hp) (Q:VK) (_:XK):Prop
 | mk (b:Addr) (_:vs=[.ref b]) (_:e7 H b) (_:∀(t:Addr) (nums:List Int) (H':Hp),H' t=some (.tup (nums.map V.int))->e7 H' b->Fix b H H'->Q (.ref t) H')
theorem sY {x:Str}(h:(dm P w).is (Sum.inr x) v=true):∃t,v=.str x t:=by
 cases v with
 | str y t =>
  have:y=x:=by simpa [dm,lJ,Value.isStrOf] using h
  exact⟨t,by rw[this]⟩
 | _=>simp[dm,lJ,Value.isStrOf] at h
theorem uR:∀{vs:List Value} {ks:List Str},vs.length=ks.length->(∀(j:Nat) (v:Value) (x:Str),vs[j]?=some v->ks[j]?=some x->∃t,v=.str x t)->StrsAre vs ks
 | [],[],_,_=>.nil
 | v::vs,x::ks,hl,h=>by
  obtain⟨t,rfl⟩:=h 0 v x rfl rfl;exact .cons x t (uR (by simpa using hl) λ j v' B G D=>h (j+1) v' B (by simpa using G) (by simpa using D))
 | [],_::_,hl,_=>by simp at hl
 | _::_,[],hl,_=>by simp at hl
section
variable {prog:Program}{w:World}{A:Around}{E:Z0}{s:Shared}
open PySem.Calls PySem.W in
theorem gather {T:String}{r:Addr}{P:Nat->Value->Prop}{OK:Heap->Prop}{G:List Value->Shared->Prop}(J:KdlSrc prog w T r d n P OK)(calm:A.handled=none)(ok:OK s.heap)(er:n<=sizeLine)
  (N:∀(g:Heap) (D:Nat) (B:Array Value),(∀b o,s.heap.get? b=some o->g.get? b=some o)->ItemsOf P B n->s.heap.objs.size<=g.objs.size->G B.toList { s with heap:=g,toks:=D }) :
  wpAny (model prog w) A (collect (.ref r)) G E s:=by
 obtain⟨Y,a0⟩:=J.there _ ok;unfold collect;refine Oz (O0 (OG entry_proto_collect' ?_));rw[MS PySem.F.plain_proto_collect _];show wpAny _ A.in1 (newList [] >>= λ z=>again (.builtin "list.__iadd__" ⟨[z,.ref r],[]⟩)) _ _ s;refine Oz (OD (OA ⟨plainId_quiet PySem.F.plain_list_iadd _,OG entry_list_iadd' ?_⟩));rw[MS PySem.F.plain_list_iadd _];show wpAny _ A.in1 (Builtin.List.listExtendWith (.ref s.heap.objs.size) (.ref r) (.ref s.heap.objs.size)) _ _ _;have made:(s.heap.push { cls:=.type "list",data:=.seq ([]:List Value).toArray }).get? s.heap.objs.size=some { cls:=.type "list",data:=.seq #[] }:=L7 _ rfl;have run:=kdl_extend (A:=A) (s:={ s with heap:=s.heap.push { cls:=.type "list",data:=.seq ([]:List Value).toArray } })
  (R:=λ (z:Result) (t:Shared)=>∃(g:Heap) (D:Nat) (B:Array Value) (c:Nat),z=.ok (.ret (.ref s.heap.objs.size))/\t={ s with heap:=g,toks:=D } /\
   (∀b o,s.heap.get? b=some o->g.get? b=some o)/\g.get? s.heap.objs.size=some { cls:=.type "list",dict:=none,data:=.seq B c,slots:=#[] }/\ItemsOf P B n)
  J calm (J.keep _ _ ok λ b _ o e=>L3 _ e) s.heap.objs.size (ML Y) (ML a0) (.ref s.heap.objs.size) 0 made
  (λ g D B c kept at_ its=>⟨g,D,B,c,rfl,rfl,λ b o e=>kept b o (L5 (L0 e)) (L3 _ e),at_,its⟩) er
 refine OB run (λ z t x=>?_) λ z t ⟨_,_,_,_,Z,_⟩=>by cases Z
 cases z with
 | done f =>
  obtain⟨g,D,B,c,e,rfl,kept,at_,its⟩:=x;cases e;show wpAny _ A (load s.heap.objs.size >>= _) _ _ _;exact Oz (OT at_ (OA (N g D B kept its (Mr (L0 at_)))))
 | again more =>
  refine⟨x.1,OJ x.2 λ z' t' ⟨g,D,B,c,e1,e2,kept,at_,its⟩=>?_⟩;subst e1 e2;show wpAny _ A (load s.heap.objs.size >>= _) _ _ _;exact Oz (OT at_ (OA (N g D B kept its (Mr (L0 at_)))))
theorem y3 {kvs:List (Key×Value)}{Q:Z0}(hh:A.handled=none)(lo:(a == sysModules)=false)(dd:s.heap.DictOf (dm prog w) a kvs)
  (hk:kvs.map (·.1)=ks.map Sum.inr) (J:ks.length<64)
  (h:∀(h':Heap) (tk:Nat) (D:Addr) (out:Array Value) (B:List Str) (e:Nat),(∀b o,s.heap.get? b=some o->h'.get? b=some o)->s.heap.objs.size<=D->h'.get? D=some { cls:=.type "list",data:=.seq out e } ->
   StrsAre out.toList B->B.Perm ks->sortedS B=true->Q (.ref D) { s with heap:=h',toks:=tk }) :
  wpAny (model prog w) A (call (.builtin "sorted") [.ref a]) Q E s:=by
 refine Calls.call_function_entry kind_sorted plain_sorted entry_sorted (args_sorted1 _) ?_;unfold Builtin.«sorted»;refine Oz (m:=checkCount "sorted" 1 1 _) (OA ?_);obtain⟨ep,a3⟩:=dd.dictAt;have Z:kvs.length=ks.length:=by have:=congrArg Nc hk;simpa using this
 have hs:sizeLine=16777216\/64<=sizeLine:=.inr ⋯;have hz:kvs.length<=sizeLine:=by rw[Z];exact Ma (Mr J) ⋯
 refine Oz (gather (A:=A.in1) (PySem.W.kdl_dict (knd:=dm prog w) (kvs:=kvs) (ep:=ep) lo) hh a3 hz λ h' tk acc Y G hsz=>?_);have hl:acc.toList.length=ks.length:=by rw[MD,G.1,Z]
 have hS:StrsAre acc.toList ks:=uR hl λ j v x h1 h2=>by
  obtain⟨k,y,e1,e2⟩:=G.2 j v (by rw[<-NH];exact h1);have e3:(kvs.map (·.1))[j]?=some k:=by rw[L6,e1];rfl
  rw[hk,L6,h2] at e3;cases (Mf.inj e3);exact sY e2
 refine Oz (wpAny_newList ?_ (by rw[hl];exact Ma (Mr J) ⋯));have N:(h'.push (seqObj "list" acc.toList.toArray 0)).get? h'.objs.size=some (seqObj "list" acc.toList.toArray 0):=L7 _ rfl;refine Oz (OC (OE slot_list_sort ⟨_,N,rfl⟩ entry_list_sort (list_sort_treeK strKind_oneLt N hS.keysOf (λ a6 a5 rest e=>keyKind_strs (by rw[<-e];exact hS)) (by rw[hl];exact J) λ a4 a1 a2=>⟨_,rfl,?_⟩) (args_list_sort _)));obtain⟨B,b1,b2,b3⟩:=sorted_out_str hS a1 a2;obtain⟨e,he⟩:=sortedHeap_at (out:=(arrOf a4).map (·.2)) N;refine OA ⟨_,rfl,h _ tk _ _ B e (λ b o ho=>?_) hsz he b1 b2 b3⟩;have h1:=Y b o ho;have a0:=L0 h1;rw[sortedHeap_old (L5 a0) (by rw[size_push'];exact ME a0)];exact L3 _ h1
end
theorem vU:∀{us:List Value} {ys:List Str},StrsAre us ys->Vals (ys.map V.str) us
 | _,_,.nil=>.nil
 | _,_,.cons x t r=>.cons ⟨t,rfl⟩ (vU r)
section
variable {X:Cx}
theorem y4 (hc:X.calm=true):il X (.builtin "sorted") (λ vs H Q=>∃(a:Addr) (kvs:List (Key×V)) (ks:List Str),vs=[.ref a]/\H a=some (.dK kvs)/\kvs.map (·.1)=ks.map Sum.inr/\ks.length<64 /\
  ∀(l:Addr) (ss:List Str),ss.Perm ks->sortedS ss=true->H l=none->Q (.ref l) (upd H l (.lst (ss.map V.str)))):=by
 intro Y s LQ H xs us Q I r h;obtain⟨a,kvs,ks,rfl,Z,hk,J,q⟩:=h;obtain⟨u,rfl,ru⟩:=vals1 r;cases (show u=Value.ref a from ru);obtain⟨z,hd,vs,rel,dd⟩:=yl I.de Z;refine y3 (I.ok.hd hc) hd dd (by rw[<-rel.keys];exact hk) J λ h' tk D out B e G N he hS hp hs=>?_
 have hv:Vals (B.map V.str) out.toList:=vU hS;refine⟨.ref D,_,I.laid (t':=tk) (o:=.lst (B.map V.str)) G N (show ff X.prog X.w _ h' _ (.lst (B.map V.str)) from ⟨?_,out.toList,e,hv,by simpa using he⟩),rfl,q D B hp hs (I.de.fresh N)⟩;rw[LU,hp.length_eq];exact Ma (Mr J) ⋯
end
section
variable {X:Cx}
end
theorem sub_len {B:Type}[DecidableEq B]:∀{l m:List B},l.Nodup->(∀x∈l,x∈m)->l.length<=m.length
 | [],_,_,_=>Me _
 | x::l,m,nd,h=>by
  rw[M5] at nd;have hx:=h x (L9 ..);have G:=sub_len (l:=l) (m:=m.erase x) nd.2 λ y D=>(List.mem_erase_of_ne (λ z=>nd.1 (by rw[<-z];exact D))).mpr (h y (Mc _ D))
  rw[List.length_erase_of_mem hx] at G;have J:0<m.length:=List.length_pos_of_mem hx;show l.length+1<=m.length;omega
theorem nI:bootBuiltins "sorted" = some (.builtin "sorted"):=PyProof.Rows.boot_sorted
theorem DJ {kvs:List (Key×V)}{k:Key}{v:V}:(putK kvs k v).map (·.1)=kvs.map (·.1)/\k∈kvs.map (·.1)\/(putK kvs k v).map (·.1)=kvs.map (·.1)++[k]/\¬k∈kvs.map (·.1):=by
 unfold putK;by_cases h:(kvs.any λ D=>decide (D.1=k))=true
 ·rw[if_pos h];refine .inl ⟨?_,?_⟩
  ·rw[MT];refine MV λ p _=>?_
   show (if p.1=k then (p.1,v) else p).1=p.1;split<;>rfl
  ·obtain⟨p,hp,B⟩:=List.any_eq_true.mp h;exact Mb.mpr ⟨p,hp,of_decide_eq_true B⟩
 ·rw[if_neg h];refine .inr ⟨by rw[L4];rfl,λ hm=>h ?_⟩;obtain⟨p,hp,B⟩:=Mb.mp hm;exact List.any_eq_true.mpr ⟨p,hp,decide_eq_true B⟩
def si:e6->Str
 | .put x _=>x
 | .copy x _=>x
 | .add x _=>x
 | .read x=>x
 | .tell x=>x
theorem FF (B:e6):iL (lM B) 1=some (.str (si B)):=by cases B<;>exact gQ
theorem fV.name {xs:List Str}{B:e6}(h:fV xs B):si B∈xs:=by
 cases B with
 | put x n=>exact h.1
 | copy x y=>exact h.1
 | add x n=>exact h.1
 | read x=>exact h
 | tell x=>exact h
theorem e7.put {H:Hp}{o:HO}(h:e7 H b)(n:b≠p):e7 (upd H p o) b:=by
 obtain⟨x,y,e,z⟩:=h;exact⟨x,y,by rw[cx n];exact e,z⟩
section
variable {X:Cx}
end
section
variable {a0 a1 z:V}
end
section
variable {C D:Addr}{H H':Hp}{wp p pl d nl sl:Addr}{plv:V}{nums:List Int}{S:RS}{m:Nat}
end
section
variable (C D:Addr)
end
section
variable {C D:Addr}{H H':Hp}{wp p pl d nl sl st d2 tl bl np:Addr}{plv:V}{nums nums':List Int}{S S':RS}{m m':Nat}
end
section
variable (C D:Addr)
end
section
variable {C D:Addr}{H0 H H1 H2:Hp}{wp p pl d nl sl st st' d2 tl bl np b:Addr}{plv:V}{nums more:List Int}{S S':RS}{m m':Nat}
end
section
variable {X:Cx}
inductive Kw  (x:V) (y:V) (H:Hp) (Q:VK):Prop
 | mk (a b xs ys:_) (_:x=.ref a) (_:y=.ref b) (_:H a=some (.tup xs)) (_:H b=some (.tup ys)) (_:xs.length+ys.length<=sizeLine) (_:∀t H',H' t=some (.tup (xs++ys))->cy H H'->Q (.ref t) H')
theorem oJ:iK X (binaryOp .Add) Kw:=by
 intro a2 s LQ H x y v u Q I rx ry h;obtain⟨a,b,xs,ys,rfl,rfl,ha,hb,hz,q⟩:=h;cases rx;cases ry;obtain⟨its,Y,p1,_⟩:=I.tuple (cE.of ha);obtain⟨G,r2,p2,_⟩:=I.tuple (cE.of hb);by_cases hx:xs=[]
 ·subst hx;have hi:its=[]:=Y.vG.mpr rfl;subst hi;obtain⟨⟨cls,dd,data,sl⟩,ho,hc,n,hd⟩:=id p1;obtain⟨⟨a3,a0,Z,a1⟩,B,J,n2,N⟩:=id p2;simp only at hc hd J N;subst hc hd J N;exact concat_meets ⟨_,ho,rfl⟩ ⟨_,B,rfl⟩ noFill_tuple_add seq_tuple_add PySem.F.slot_tuple_add PySem.F.entry_tuple_add (PySem.F.args_tuple_add_2 _ _)
   (tuple_addW0 a b [].toArray G.toArray n n2 dd a0 sl a1 (by simp)) ⟨ho,B,⟨.ref b,H,I,rfl,q b H hb (cy.refl H)⟩⟩
 ·refine HT.HB p1 p2 (λ z=>hx (Y.vG.mp z)) (λ z=>⟨.ref a,H,I,rfl,q a H (by rw[r2.vG.mp z,Nb];exact ha) (cy.refl H)⟩) (λ z=>?_) (by rw[<-Y.length,<-r2.length];exact hz);have fr:=I.de.fresh (a:=s.heap.objs.size) (LW _);refine⟨.ref s.heap.objs.size,_,I.laid (t':=s.toks) (o:=.tup (xs++ys)) (λ b ob q=>L3 _ q) (LW _) ?_,rfl,q _ _ cu (cy.new fr)⟩;exact⟨by rw[LY];exact hz,_,Y.append r2,⟨_,L7 _ rfl,rfl,_,rfl,rfl⟩⟩
end
section
variable {ps:List Piece}{nums more:List Int}{S S0:RS}{m n:Nat}
end
section
variable {ps:List Piece}{nums more:List Int}{S:RS}{m n:Nat}
end
inductive Call where
 | hand (ns:List Int)
 | go (n:Nat)
structure JN where
 S:RS
 nums:List Int
 m:Nat
structure WA where
 wp:Addr
 p:Addr
 pl:Addr
 d:Addr
 nl:Addr
 sl:Addr
section
variable {C D:Addr}{H H' H0:Hp}{x y:WA}{pv pv':V}{s s':JN}{c:Addr}{o:HO}
end
section
variable (C D:Addr)
end
section
variable {C D:Addr}{H0 H H1:Hp}{w0 w1 w2:WA}{wl cl nb:Addr}{plv ov:V}{x0 x1 x2 x':JN}{n0 n1 n':List Int}{vs:List V}{cs:List Call}
end
section
variable {prog:Program}{w:World}{A:Around}{E:Z0}{s:Shared}
theorem uS {x:Value}{Q:Z0}(G:s.heap.IsTupleIter j t n)(Y:s.heap.IsTuple t its)(hx:its[n]?=some x)
  (hQ:∀g,g.IsTupleIter j t (n+1)->Mx j s.heap g->Q x { s with heap:=g }):wpAny (model prog w) A (Builtin.SmallTypes.nextOf (.ref j)) Q E s:=by
 obtain⟨ob,D,N,B⟩:=id G;obtain⟨ot,Z,_,k,J⟩:=Y;unfold Builtin.SmallTypes.nextOf;refine Oz (wpAny_callSpecial?_slot (name:=Str.ofString "__next__") G.typeIs F.slot_tuple_iterator_next (OE F.slot_tuple_iterator_next G.typeIs F.entry_tuple_iterator_next ?_ (F.args_tuple_iterator_next_1 _)));show wpAny _ _ (field (.ref j) 0 >>= _) _ _ s;refine Oz (OF D B (x:=.ref t) rfl ?_);show wpAny _ _ (if (Value.ref t == Value.none)=true then _ else _) _ _ s;refine (if_neg (c:=(Value.ref t == Value.none)=true) Mv) ▸ ?_;show wpAny _ _ (field (.ref j) 1 >>= _) _ _ s;refine Oz (OF D B (x:=.int n 0) rfl (Oz (OH Z J ?_)));simp only[hx,M7];refine Oz (OO D B (by simp) (OA ⟨x,rfl,OA (hQ _ ⟨_,MX _ D (Obj.isFreed_of_fields (Obj.data_mapFields B _)),(Obj.cls_mapFields ..).trans N,?_⟩ (Mx.update ..))⟩));rw[Obj.data_mapFields B];simp[rawInt]
theorem vV {Q:Z0}(J:A.handled=none)(G:s.heap.IsTupleIter j t n)(Z:s.heap.IsTuple t its)(hx:its[n]?=none)
    (Y:∀g e,Heap.ExtBut j s.heap g->(∃o,g.get? e=some o/\o.cls=.type "StopIteration")->E (.ref e) { s with heap:=g }):wpAny (model prog w) A (Builtin.SmallTypes.nextOf (.ref j)) Q E s:=by
  obtain⟨ob,D,ec,B⟩:=id G;obtain⟨ot,et,_,k,N⟩:=Z;unfold Builtin.SmallTypes.nextOf;refine Oz (wpAny_callSpecial?_slot (name:=Str.ofString "__next__") G.typeIs F.slot_tuple_iterator_next (OE F.slot_tuple_iterator_next G.typeIs F.entry_tuple_iterator_next ?_ (F.args_tuple_iterator_next_1 _)));show wpAny _ _ (field (.ref j) 0 >>= _) _ _ s;refine Oz (OF D B (x:=.ref t) rfl ?_);show wpAny _ _ (if (Value.ref t == Value.none)=true then _ else _) _ _ s;refine (if_neg (c:=(Value.ref t == Value.none)=true) Mv) ▸ ?_;show wpAny _ _ (field (.ref j) 1 >>= _) _ _ s;refine Oz (OF D B (x:=.int n 0) rfl (Oz (OH et N ?_)));simp only[hx,M7];refine Oz (OI (Oz (OO D B (by simp) ?_)));show wpAny _ _ (newExc (.type "StopIteration") [] >>= λ _=>_) _ _ _;refine Oz ?_;simp only[newTuple,newExc];refine Oz (OD (Oz (m:=firstArgMember _ _) (wpAny_of_eq (a:=Value.none) (by first | rfl | (simp only[firstArgMember];rfl)) (OD ?_ (by size_fits)))) (by size_fits));simp only[raiseNew];refine Oz (wpAny_handled (by
    first | rw[show A.in1.handled=none from J] | rw[J]
    exact Oz (OA (wpAny_throw (Y _ _ (((Mx.update ..).extBut.push _).push _) ⟨_,L7 _ rfl,rfl⟩)))))
structure AL (z p q j k a b:Addr):Prop where
 pz:p≠z
 qz:q≠z
 jz:j≠z
 kz:k≠z
 pq:p≠q
 pj:p≠j
 pk:p≠k
 qj:q≠j
 qk:q≠k
 jk:j≠k
 az:a≠z
 aq:a≠q
 aj:a≠j
 ak:a≠k
 bz:b≠z
 bq:b≠q
 bj:b≠j
 bk:b≠k
theorem j5 {h g:Heap}(x:h.IsTuple a xs)(k:∀o,h.get? a=some o->g.get? a=some o):g.IsTuple a xs:=by
 obtain⟨o,e,r⟩:=x;exact⟨o,k o e,r⟩
theorem HR {k:Addr}{x y:Value}{Q:Z0}(D:AL z p q j k a b)
  (gz:IsZip s.heap z p q .none) (gp:IsPair s.heap p (.ref j) (.ref k)) (gq:IsPair s.heap q u v)
  (gj:s.heap.IsTupleIter j a m) (gk:s.heap.IsTupleIter k b n) (ga:s.heap.IsTuple a xs) (gb:s.heap.IsTuple b ys) (hx:xs[m]?=some x) (hy:ys[n]?=some y)
  (hQ:∀g,IsZip g z p q (rawInt s.heap.objs.size)->IsPair g q x y->g.IsTupleIter j a (m+1)->g.IsTupleIter k b (n+1)->IsPair g s.heap.objs.size x y->g.objs.size=s.heap.objs.size+1 ->
   (∀c o,c≠z->c≠q->c≠j->c≠k->s.heap.get? c=some o->g.get? c=some o)->Q (.ref s.heap.objs.size) { s with heap:=g }) :
  wpAny (model prog w) A (Builtin.«zip.__next__» ⟨[.ref z],[]⟩) (λ a4 s'=>∃v,a4=.done (.ret v)/\Q v s') E s:=by
 show wpAny _ _ (field (.ref z) 2 >>= λ _=>_) _ _ _;refine Oz (OF gz rfl (x:=.bool false) rfl ?_);show wpAny _ _ (field (.ref z) 3 >>= λ _=>_) _ _ _;refine Oz (OF gz rfl (x:=.ref p) rfl (Oz (OH gp rfl ?_)));show wpAny _ _ (Builtin.SmallTypes.ownedTupleIsFree (.ref z) >>= λ _=>_) _ _ _;refine Oz ?_;unfold Builtin.SmallTypes.ownedTupleIsFree;refine Oz (OF gz rfl (x:=.none) rfl (OA ?_));simp only[if_true];refine Oz (OI (Oz (OF gz rfl (x:=.ref q) rfl (Oz (OU gz (by simp) λ g1 a0 N=>?_)))))
 replace a0:IsZip g1 z p q .ellipsis:=a0
 refine Oz ?_;simp only[Ng,NY,List.zipIdx_cons,List.zipIdx_nil];refine Oz (Oz (O1 ?_));show wpAny _ _ (Builtin.SmallTypes.nextOf (.ref j) >>= λ _=>_) _ _ _;refine Oz (uS (gj.extBut N.extBut D.jz) (j5 ga λ o e=>N.extBut _ _ D.az e) hx λ g2 a5 t2=>OA ?_);have a3:IsPair g2 q u v:=t2.extBut _ _ D.qj (N.extBut _ _ D.qz gq);refine Oz (OH a3 rfl (Oz (Pa a3 λ g3 Y t3=>?_)))
 replace Y:IsPair g3 q x v:=Y
 refine Oz (wpAny_letGo (OA (Oz (Oz (O1 ?_)))));show wpAny _ _ (Builtin.SmallTypes.nextOf (.ref k) >>= λ _=>_) _ _ _;refine Oz (uS (((gk.extBut N.extBut D.kz).extBut t2.extBut D.jk.symm).extBut t3.extBut D.qk.symm) (j5 gb λ o e=>t3.extBut _ _ D.bq (t2.extBut _ _ D.bj (N.extBut _ _ D.bz e))) hy λ g4 a8 t4=>OA ?_);have a2:IsPair g4 q x v:=t4.extBut _ _ D.qk Y;refine Oz (OH a2 rfl (Oz (Pa a2 λ B J t5=>?_)))
 replace J:IsPair B q x y:=J
 refine Oz (wpAny_letGo (OA (OA (Oz (OH J rfl (Oz (wpAny_newTuple ?_)))))));have ez:B.objs.size=s.heap.objs.size:=by rw[t5.1,t4.1,t3.1,t2.1,N.1]
 have a1:IsZip B z p q .ellipsis:=t5.extBut _ _ D.qz.symm (t4.extBut _ _ D.kz.symm (t3.extBut _ _ D.qz.symm (t2.extBut _ _ D.jz.symm a0)));have k5:∀c o,c≠z->c≠q->c≠j->c≠k->s.heap.get? c=some o->B.get? c=some o:=λ c o c1 c2 c3 c4 e=>t5.extBut _ _ c2 (t4.extBut _ _ c4 (t3.extBut _ _ c2 (t2.extBut _ _ c3 (N.extBut _ _ c1 e))))
 have a6:B.IsTupleIter j a (m+1):=((a5.extBut t3.extBut D.qj.symm).extBut t4.extBut D.jk).extBut t5.extBut D.qj.symm;have a7:B.IsTupleIter k b (n+1):=a8.extBut t5.extBut D.qk.symm;have lz:z<B.objs.size:=L0 a1;show wpAny _ _ (Builtin.SmallTypes.ownedTupleHandOut (.ref z) (.ref B.objs.size) >>= λ _=>_) _ _ _;refine Oz ?_;unfold Builtin.SmallTypes.ownedTupleHandOut;have a9:IsZip (B.push { cls:=.type "tuple",data:=.seq #[x,y] }) z p q .ellipsis:=L3 _ a1;refine Oz (OU a9 (by simp) λ g7 Z t7=>?_)
 replace Z:IsZip g7 z p q (rawInt B.objs.size):=Z
 refine OU Z (by simp) λ g8 G t8=>?_
 replace G:IsZip g8 z p q (rawInt B.objs.size):=G
 have up:∀c o,c≠z->B.get? c=some o->g8.get? c=some o:=λ c o c1 e=>t8.extBut _ _ c1 (t7.extBut _ _ c1 (L3 _ e))
 have gT:IsPair g8 B.objs.size x y:=t8.extBut _ _ (ML lz) (t7.extBut _ _ (ML lz) (L7 _ rfl));have e8:g8.objs.size=B.objs.size+1:=by rw[t8.1,t7.1,Ml]
 rw[ez] at G gT e8;refine OA ⟨_,rfl,?_⟩;show Q (.ref B.objs.size) _;rw[ez];refine hQ g8 G (up _ _ D.qz J) ?_ ?_ gT e8 λ c o c1 c2 c3 c4 e=>up c o c1 (k5 c o c1 c2 c3 c4 e)
 ·obtain⟨o,e,r⟩:=a6;exact⟨o,up _ _ D.jz e,r⟩
 ·obtain⟨o,e,r⟩:=a7;exact⟨o,up _ _ D.kz e,r⟩
theorem JO {k b:Addr}{Q:Fin->Shared->Prop}(ha:A.handled=none)(D:AL z p q j k a b)
  (gz:IsZip s.heap z p q .none) (gp:IsPair s.heap p (.ref j) (.ref k)) (gq:IsPair s.heap q u v)
  (gj:s.heap.IsTupleIter j a m) (gk:s.heap.IsTupleIter k b n) (ga:s.heap.IsTuple a xs) (gb:s.heap.IsTuple b ys) (a0:xs[m]?=none\/ys[n]?=none)
  (hE:∀g e,(∀c o,c≠z->c≠q->c≠j->c≠k->s.heap.get? c=some o->g.get? c=some o)->(∃o,g.get? e=some o/\o.cls=.type "StopIteration")->E (.ref e) { s with heap:=g }) :
  wpAny (model prog w) A (Builtin.«zip.__next__» ⟨[.ref z],[]⟩) Q E s:=by
 show wpAny _ _ (field (.ref z) 2 >>= λ _=>_) _ _ _;refine Oz (OF gz rfl (x:=.bool false) rfl ?_);show wpAny _ _ (field (.ref z) 3 >>= λ _=>_) _ _ _;refine Oz (OF gz rfl (x:=.ref p) rfl (Oz (OH gp rfl ?_)));show wpAny _ _ (Builtin.SmallTypes.ownedTupleIsFree (.ref z) >>= λ _=>_) _ _ _;refine Oz ?_;unfold Builtin.SmallTypes.ownedTupleIsFree;refine Oz (OF gz rfl (x:=.none) rfl (OA ?_));simp only[if_true];refine Oz (OI (Oz (OF gz rfl (x:=.ref q) rfl (Oz (OU gz (by simp) λ g1 J G=>?_)))))
 replace J:IsZip g1 z p q .ellipsis:=J
 refine Oz ?_;simp only[Ng,NY,List.zipIdx_cons,List.zipIdx_nil];refine Oz (Oz (O1 ?_));show wpAny _ _ (Builtin.SmallTypes.nextOf (.ref j) >>= λ _=>_) _ _ _;cases hx:xs[m]? with
 | none =>
  refine Oz (vV ha (gj.extBut G.extBut D.jz) (j5 ga λ o e=>G.extBut _ _ D.az e) hx λ g2 e N he=>?_);obtain⟨oe,B,ce⟩:=he;have a2:IsZip g2 z p q .ellipsis:=N _ _ D.jz.symm J;have ne:e≠z:=λ x=>by subst x;rw[a2] at B;cases B;simp at ce
  exact OU a2 (by simp) λ g3 _ Y=>hE g3 e (λ c o c1 _ c3 _ x=>Y.extBut _ _ c1 (N _ _ c3 (G.extBut _ _ c1 x))) ⟨oe,Y.extBut _ _ ne B,ce⟩
 | some x =>
  have hy:ys[n]?=none:=a0.elim (λ h=>by rw[hx] at h;cases h) id;refine Oz (uS (gj.extBut G.extBut D.jz) (j5 ga λ o e=>G.extBut _ _ D.az e) hx λ g2 a3 N=>OA ?_);have a1:IsPair g2 q u v:=N.extBut _ _ D.qj (G.extBut _ _ D.qz gq);refine Oz (OH a1 rfl (Oz (Pa a1 λ g3 a4 Y=>?_)));refine Oz (wpAny_letGo (OA (Oz (Oz (O1 ?_)))));show wpAny _ _ (Builtin.SmallTypes.nextOf (.ref k) >>= λ _=>_) _ _ _;refine Oz (vV ha (((gk.extBut G.extBut D.kz).extBut N.extBut D.jk.symm).extBut Y.extBut D.qk.symm) (j5 gb λ o e=>Y.extBut _ _ D.bq (N.extBut _ _ D.bj (G.extBut _ _ D.bz e))) hy λ g4 e t4 he=>?_);obtain⟨oe,B,ce⟩:=he;have Z:IsZip g4 z p q .ellipsis:=t4 _ _ D.kz.symm (Y.extBut _ _ D.qz.symm (N.extBut _ _ D.jz.symm J));have ne:e≠z:=λ x=>by subst x;rw[Z] at B;cases B;simp at ce
  exact OU Z (by simp) λ g5 _ t5=>hE g5 e (λ c o c1 c2 c3 c4 x=>t5.extBut _ _ c1 (t4 _ _ c4 (Y.extBut _ _ c2 (N.extBut _ _ c3 (G.extBut _ _ c1 x))))) ⟨oe,t5.extBut _ _ ne B,ce⟩
theorem HS {k:Addr}{x y:Value}(D:AL z p q j k a b)
  (G:IsZip s.heap z p q .none) (gp:IsPair s.heap p (.ref j) (.ref k)) (gq:IsPair s.heap q u v)
  (J:s.heap.IsTupleIter j a m) (gk:s.heap.IsTupleIter k b n) (ga:s.heap.IsTuple a xs) (gb:s.heap.IsTuple b ys) (hx:xs[m]?=some x) (hy:ys[n]?=some y)
  (hQ:∀g,IsZip g z p q (rawInt s.heap.objs.size)->IsPair g q x y->g.IsTupleIter j a (m+1)->g.IsTupleIter k b (n+1)->IsPair g s.heap.objs.size x y->g.objs.size=s.heap.objs.size+1 ->
   (∀c o,c≠z->c≠q->c≠j->c≠k->s.heap.get? c=some o->g.get? c=some o)->Q (some (.ref s.heap.objs.size)) { s with heap:=g }) :
  wpAny (model prog w) A (pyNext (.ref z)) Q E s:=by
 have B:s.TypeIs (.ref z) "zip" := ⟨_,G,rfl⟩;unfold pyNext;exact Oz (OR (wpAny_callSpecial?_slot (name:=Str.ofString "__next__") B F.slot_zip_next (OE F.slot_zip_next B F.entry_zip_next
   (HR D G gp gq J gk ga gb hx hy λ g a1 a2 N Y a5 Z a7=>OA (hQ g a1 a2 N Y a5 Z a7)) (F.args_zip_next_1 _))))
theorem HU {k:Addr}(ha:A.handled=none)(D:AL z p q j k a b)
  (J:IsZip s.heap z p q .none) (gp:IsPair s.heap p (.ref j) (.ref k)) (gq:IsPair s.heap q u v)
  (N:s.heap.IsTupleIter j a m) (Y:s.heap.IsTupleIter k b n) (ga:s.heap.IsTuple a xs) (gb:s.heap.IsTuple b ys) (B:xs[m]?=none\/ys[n]?=none)
  (hQ:∀g,(∀c o,c≠z->c≠q->c≠j->c≠k->s.heap.get? c=some o->g.get? c=some o)->Q none { s with heap:=g }):wpAny (model prog w) A (pyNext (.ref z)) Q E s:=by
 have G:s.TypeIs (.ref z) "zip" := ⟨_,J,rfl⟩;unfold pyNext;refine Oz (OR (wpAny_callSpecial?_slot (name:=Str.ofString "__next__") G F.slot_zip_next (OE F.slot_zip_next G F.entry_zip_next
   (JO ha D J gp gq N Y ga gb B λ g e hk he=>?_) (F.args_zip_next_1 _))))
 obtain⟨o,eo,Z⟩:=he;exact Oz (OW (T := "StopIteration") (b:=true) ⟨o,eo,Z⟩ isSubtype_stop (OA (hQ _ hk)))
abbrev DK (h:Heap)(a:Addr):Heap:=h.push { cls:=.type "tuple_iterator",data:=.fields #[.ref a,.int 0 0] }
abbrev G4 (h:Heap)(a b:Addr):Heap:=(DK h a).push { cls:=.type "tuple_iterator",data:=.fields #[.ref b,.int 0 0] }
abbrev G5 (h:Heap)(a b:Addr):Heap:=(G4 h a b).push { cls:=.type "tuple",data:=.seq #[.ref h.objs.size,.ref (DK h a).objs.size] }
abbrev G6 (h:Heap)(a b:Addr):Heap:=(G5 h a b).push { cls:=.type "tuple",data:=.seq #[.none,.none] }
abbrev AM (h:Heap)(a b:Addr):Heap:=(G6 h a b).push { cls:=.type "zip",data:=.fields #[.none,.bool false,.bool false,.ref (G4 h a b).objs.size,.ref (G5 h a b).objs.size] }
theorem JP (a b:Addr) (xs ys:Array Value):Meets (Builtin.«zip.__new__» ⟨[.type "zip",.ref a,.ref b],[]⟩) (λ _ R s=>s.heap.IsTuple a xs/\s.heap.IsTuple b ys /\
   R (.ok (.ret (.ref (G6 s.heap a b).objs.size))) { s with heap:=AM s.heap a b }) :=
 .of_wp λ P w' A' R' Z hh=>by
  obtain⟨hp,g,d,B,os⟩:=Z;obtain⟨N,Y,hh⟩:=hh;have D:=sub_zip;have J:Heap.IsTuple (Shared.heap ⟨hp,g,d,B,os⟩) a xs:=N;have G:Heap.IsTuple (Shared.heap ⟨DK hp a,g,d,B,os⟩) b ys:=j5 Y λ o e=>L3 _ e
  wp_walk using OQ J,OQ G
  exact⟨_,rfl,hh⟩
theorem HV {Q:Z0}(Y:s.heap.IsTuple a xs)(Z:s.heap.IsTuple b ys)
  (h:∀g,IsZip g (s.heap.objs.size+4) (s.heap.objs.size+2) (s.heap.objs.size+3) .none->IsPair g (s.heap.objs.size+2) (.ref s.heap.objs.size) (.ref (s.heap.objs.size+1)) ->
   IsPair g (s.heap.objs.size+3) .none .none->g.IsTupleIter s.heap.objs.size a 0->g.IsTupleIter (s.heap.objs.size+1) b 0 ->
   (∀c o,s.heap.get? c=some o->g.get? c=some o)->Q (.ref (s.heap.objs.size+4)) { s with heap:=g }) :
  wpAny (model prog w) A (call (.type "zip") [.ref a,.ref b]) Q E s:=by
 refine callType_new F.called_zip ⋯ (F.typeCall_zip_2 _ _) (F.newCall_zip_2 _ _) (λ obj=>F.args_object_init_3 obj _ _) F.entry_zip_new (JP a b xs ys) ⟨Y,Z,?_⟩;have D:(DK s.heap a).objs.size=s.heap.objs.size+1:=Ml ..;have J:(G4 s.heap a b).objs.size=s.heap.objs.size+2:=by rw[Ml,D]
 have G:(G5 s.heap a b).objs.size=s.heap.objs.size+3:=by rw[Ml,J]
 have N:(G6 s.heap a b).objs.size=s.heap.objs.size+4:=by rw[Ml,G]
 have up:∀{h:Heap} {c:Addr} {o o':Obj},h.get? c=some o->(h.push o').get? c=some o:=λ e=>L3 _ e
 have B:(AM s.heap a b).get? (G6 s.heap a b).objs.size=some _:=L7 _ rfl;have q4:(AM s.heap a b).get? (G5 s.heap a b).objs.size=some _:=up (L7 _ rfl);have q3:(AM s.heap a b).get? (G4 s.heap a b).objs.size=some _:=up (up (L7 _ rfl));have q2:(AM s.heap a b).get? (DK s.heap a).objs.size=some _:=up (up (up (L7 _ rfl)));have q1:(AM s.heap a b).get? s.heap.objs.size=some _:=up (up (up (up (L7 _ rfl))));show _/\_;rw[J,G,N] at B;rw[D,J] at q3;rw[G] at q4;rw[D] at q2;rw[N];exact⟨⟨_,B,rfl⟩,h _ B q3 q4 ⟨_,q1,rfl,rfl⟩ ⟨_,q2,rfl,rfl⟩ λ c o x=>up (up (up (up (up x))))⟩
end
section
variable {X:Cx}{pins:Z1}{LQ : List (Option V)}{H H':Hp}{s:Shared}{h':Heap}
theorem Inv.oM {t':Nat}{fp:List Addr}(I:Inv X pins LQ H s)(k:∀b o,b∉fp->s.heap.get? b=some o->h'.get? b=some o)(f:∀b∈fp,jQ X pins H b):Inv X pins LQ H { s with heap:=h',toks:=t' }:=by
 have D:∀b u,H b=some u->b∉fp:=λ b u e z=>by rw[(f b z).1] at e;cases e
 refine I.step (g':=s.gens) (d':=s.drawn) (ch:=fp) (λ b hb=>?_) (λ b o _ _ B e _=>k b o B e) (λ b o _ _ B e _=>⟨o.slots,k b o B e⟩) (λ _ _ _ _ n=>n)
  (λ b o B e=>⟨o,k b o B e⟩) (λ _ _ e=>e) (λ _ _ _ e=>e) (λ b ps e=>⟨#[],by rw[e];simp⟩) (λ m hm=>?_) (λ b u e=>?_) I.bare
 ·obtain⟨f0,f1,Y,N,G,J⟩:=f b hb;exact⟨N,f1,G,J⟩
 ·obtain⟨o,es,ep,ho,r⟩:=hm;exact⟨o,es,ep,k _ o (λ z=>(f _ z).2.1 rfl) ho,r⟩
 ·refine (I.de b u e).vC (λ c v B q=>k c v ?_ q) (λ _ q=>q) λ _ _ q=>q
  rcases B with z | z
  ·rw[z];exact D b u e
  ·exact D c _ z
def G7 (K:LV)(a b:Addr):It :=
 ⟨λ i H=>∃xs ys x y,cE K H a xs/\cE K H b ys/\xs[i]?=some x/\ys[i]?=some y,
  λ i H v H'=>∃t x y,v=.ref t/\H t=none/\H' = upd H t (.tup [x,y])/\∀xs ys,cE K H a xs->cE K H b ys->xs[i]?=some x/\ys[i]?=some y,
  λ i H=>∃xs ys,cE K H a xs/\cE K H b ys/\(xs.length<=i\/ys.length<=i)⟩
theorem FG {pos:Pos}(a b z p q j k:Addr)(D:AL z p q j k a b) :
    Turn P w K (.Tuple elts kk pos) (G7 K a b) [z,p,q,j,k] z (λ i h=>IsZip h z p q .none/\IsPair h p (.ref j) (.ref k)/\(∃u v,IsPair h q u v)/\h.IsTupleIter j a i/\h.IsTupleIter k b i) where
  mem:=by simp
  obj:=λ i h st c B=>by
    obtain⟨J,G,⟨u,v,N⟩,⟨oj,ej,cj,dj⟩,⟨ok,Y,ck,dk⟩⟩:=st;simp only[LZ,MH,or_false] at B
    rcases B with rfl | rfl | rfl | rfl | rfl
    . exact⟨_,J,λ v e=>by cases e⟩
    . exact⟨_,G,λ v e=>by cases e⟩
    . exact⟨_,N,λ v e=>by cases e⟩
    . exact⟨oj,ej,λ v e=>by rw[dj] at e;cases e⟩
    . exact⟨ok,Y,λ v e=>by rw[dk] at e;cases e⟩
  keep:=λ i h g st kp=>by
    obtain⟨J,G,⟨u,v,N⟩,⟨oj,ej,rj⟩,⟨ok,Y,rk⟩⟩:=st;exact⟨kp z (by simp) _ J,kp p (by simp) _ G,⟨u,v,kp q (by simp) _ N⟩,⟨oj,kp j (by simp) _ ej,rj⟩,⟨ok,kp k (by simp) _ Y,rk⟩⟩
  item:=by
    intro X hP hw hK B i pins s LQ H E I hf st hg;subst hP hw hK;obtain⟨J,G,⟨u,v,N⟩,gj,gk⟩:=st;obtain⟨xs,ys,x,y,ha,hb,hx,hy⟩:=hg;obtain⟨is,ra,pa,_⟩:=I.tuple ha;obtain⟨js,rb,pb,_⟩:=I.tuple hb;obtain⟨Z,a7,rx⟩:=ra.get hx;obtain⟨yv,a9,ry⟩:=rb.get hy;have sz:∀c∈[z,p,q,j,k],c≠s.heap.objs.size:=λ c B e=>by
      subst e;simp only[LZ,MH,or_false] at B
      rcases B with e | e | e | e | e
      . exact absurd (L0 J) (by rw[<-e];exact Mq _)
      . exact absurd (L0 G) (by rw[<-e];exact Mq _)
      . exact absurd (L0 N) (by rw[<-e];exact Mq _)
      . obtain⟨oj,ej,_⟩:=gj
        exact absurd (L0 ej) (by rw[<-e];exact Mq _)
      . obtain⟨ok,Y,_⟩:=gk
        exact absurd (L0 Y) (by rw[<-e];exact Mq _)
    refine HS D J G N gj gk (show s.heap.IsTuple a is.toArray from pa) (show s.heap.IsTuple b js.toArray from pb) (x:=Z) (y:=yv) (by simpa using a7) (by simpa using a9) λ g a1 a2 a3 a4 a5 a6 hk=>?_
    refine⟨.ref s.heap.objs.size,rfl,wpAny_letOwnedTupleGo_zip a1 λ g' a0 sb=>?_⟩;have fr:=I.de.fresh (a:=s.heap.objs.size) (LW _);have I1:Inv X pins LQ (upd H s.heap.objs.size (.tup [x,y])) { s with heap:=s.heap.push { cls:=.type "tuple",data:=.seq #[Z,yv] },toks:=s.toks } :=
      I.laid (λ _ _ e=>L3 _ e) (LW _) ⟨by show 2<=sizeLine;decide,[Z,yv],.cons rx (.cons ry .nil),by first | exact IsTup.new _ _ | exact⟨_,L7 _ rfl,rfl,_,rfl,rfl⟩⟩
    have f1:∀c∈[z,p,q,j,k],jQ X pins (upd H s.heap.objs.size (.tup [x,y])) c:=λ c B=>by
      obtain⟨f0,a8⟩:=hf c B;exact⟨by rw[cx (sz c B)];exact f0,a8⟩
    have I2:Inv X pins LQ (upd H s.heap.objs.size (.tup [x,y])) { s with heap:=g',toks:=s.toks }:=Inv.oM (s:={ s with heap:=s.heap.push { cls:=.type "tuple",data:=.seq #[Z,yv] },toks:=s.toks }) (fp:=[z,p,q,j,k]) (h':=g') (t':=s.toks) I1 (λ c o B e=>by
      simp only[LZ,MH,or_false,not_or] at B;refine sb.extBut _ _ B.1 ?_
      rcases Heap.get?_push_cases e with ⟨rfl,rfl⟩ | e
      . exact a5
      . exact hk c o B.1 B.2.2.1 B.2.2.2.1 B.2.2.2.2 e) f1
    refine⟨.ref s.heap.objs.size,_,I2,rfl,⟨_,x,y,rfl,fr,rfl,λ ab aa h1 h2=>?_⟩,⟨a0,sb.extBut _ _ D.pz (hk _ _ D.pz D.pq D.pj D.pk G),⟨Z,yv,sb.extBut _ _ D.qz a2⟩,a3.extBut sb.extBut D.jz,a4.extBut sb.extBut D.kz⟩,λ c B=>(f1 c B).1⟩;rw[I.nj h1 ha,I.nj h2 hb];exact⟨hx,hy⟩
  done:=by
    intro X hP hw hK B i pins s LQ H E I hf st hg;subst hP hw hK;obtain⟨J,G,⟨u,v,N⟩,gj,gk⟩:=st;obtain⟨xs,ys,ha,hb,hl⟩:=hg;obtain⟨is,ra,pa,_⟩:=I.tuple ha;obtain⟨js,rb,pb,_⟩:=I.tuple hb;have la:=ra.length;have lb:=rb.length;have he:is.toArray[i]?=none\/js.toArray[i]?=none:=by
      rcases hl with h | h
      . exact .inl (by simp;omega)
      . exact .inr (by simp;omega)
    exact HU (I.ok.hd B) D J G N gj gk (show s.heap.IsTuple a is.toArray from pa) (show s.heap.IsTuple b js.toArray from pb) he λ g hk=>⟨rfl,I.oM (fp:=[z,p,q,j,k]) (t':=s.toks) (λ c o B e=>by
      simp only[LZ,MH,or_false,not_or] at B;exact hk c o B.1 B.2.2.1 B.2.2.2.1 B.2.2.2.2 e) hf⟩
  self:=λ _ _ _ _ _ st h=>wpAny_pyIter_zip st.1 h
theorem LI {N a b:Nat}(D:a<N)(hb:b<N):AL (N+4:Nat) (N+2:Nat) (N+3:Nat) N (N+1:Nat) a b :=
 have ne:∀{u v:Nat},u<v->¬(u=v):=λ h e=>by omega
 have B:∀{u v:Nat},v<u->¬(u=v):=λ h e=>by omega
 ⟨ne ⋯,ne ⋯,ne ⋯,ne ⋯,ne ⋯,B ⋯,B ⋯,B ⋯,B ⋯,ne ⋯,ne ⋯,ne ⋯,ne ⋯,ne ⋯,ne ⋯,ne ⋯,ne ⋯,ne ⋯⟩
theorem JQ:bootBuiltins "zip" = some (.type "zip"):=by decide
inductive HW (K:LV) (R:(It->Hp->Prop)) (vs:List V) (H1:Hp):Prop
 | mk (a b:_) (_:vs=[.ref a,.ref b]) (_:(∃xs,cE K H1 a xs)) (_:(∃ys,cE K H1 b ys)) (_:R (G7 K a b) H1)
def Lr (K:LV)(ta:TA):TI:=λ LQ H R=>ta LQ H λ vs H1=>HW K R vs H1
theorem DL {a b:Expr} {N:TA} {p pos tp:Pos}   (hg:Gl X "zip") (hm:X.mg "zip" = none) (ha:PA X [a,b] N) (hs:starEach [a,b] X.env=[(false,eval a X.env),(false,eval b X.env)]:=by rfl) (G:starEach [b] X.env=[(false,eval b X.env)]:=by rfl) :
  PI X (.Tuple elts kk tp) (.Call (.Name "zip" p) [a,b] [] pos) (Lr X.K N):=by
 intro pins s LQ H R I h;refine Call_ (jJ I hg hm JQ (PyProof.Rows.callWith_type1 (dC (ha pos pins s LQ H _ I h) λ us B ⟨vs,H1,D,r1,q1⟩=>?_) (by rw[hs,G]) (by rw[G];rfl)));obtain⟨x,y,e,⟨xs,hx⟩,⟨ys,hy⟩,q⟩:=q1;subst e;cases r1 with
 | cons r rr =>
  cases rr with
  | cons r' rr =>
   cases rr;cases r;cases r';obtain⟨is,rx,Z,_⟩:=D.tuple hx;obtain⟨js,ry,J,_⟩:=D.tuple hy;have lx:x<B.heap.objs.size:=Z.lt;have ly:y<B.heap.objs.size:=J.lt;refine HV (show B.heap.IsTuple x is.toArray from Z) (show B.heap.IsTuple y js.toArray from J) λ g gz gp gq gj gk up=>?_
   refine wpAny_pyIter_zip gz ?_;have I2:Inv X pins LQ H1 { B with heap:=g }:=D.kept (t':=B.toks) up;refine⟨_,[B.heap.objs.size+4,B.heap.objs.size+2,B.heap.objs.size+3,B.heap.objs.size,B.heap.objs.size+1],_,G7 X.K x y,H1,rfl,I2,FG x y _ _ _ _ _ ?_,⟨gz,gp,⟨_,_,gq⟩,gj,gk⟩,λ c Y=>?_,q⟩
   ·exact LI lx ly
   ·have le:B.heap.objs.size<=c:=by
     simp only[LZ,MH,or_false] at Y
     rcases Y with rfl | rfl | rfl | rfl | rfl
     ·exact NL _ _
     ·exact NL _ _
     ·exact NL _ _
     ·exact LW _
     ·exact NL _ _
    exact D.qy le (D.de.fresh le)
theorem DM {K:LV}{a b acc:Addr}{xs ys:List V}{js:List Nat}{g:TG}{ct:TT}{Z:TE}{LQ : St}{H1:Hp}{Q:VK}(J:Nat->List V->St->Hp->Prop)(h0:J 0 [] (kJ n js LQ) (upd H1 acc (.lst [])))
  (hl:∀i B D H,i<=min xs.length ys.length->J i B D H->cE K H a xs/\cE K H b ys/\H acc=some (.lst B)/\B.length<sizeLine)
  (hs:∀i x y B D H t,xs[i]?=some x->ys[i]?=some y->H t=none->J i B D H->g (.ref t) D (upd H t (.tup [x,y])) λ G H4=>ct G H4 λ b H5=>if b=true then Z G H5 λ v H6=>H6 acc=some (.lst B)/\J (i+1) (B++[v]) G (upd H6 acc (.lst (B++[v]))) else J (i+1) B G H5)
  (hd:∀B D H,J (min xs.length ys.length) B D H->Q (.ref acc) H) :
  yJ (G7 K a b) n js g ct Z acc LQ H1 Q:=by
 exists λ i m B D H=>m=min xs.length ys.length-i/\i<=min xs.length ys.length/\J i B D H,⟨min xs.length ys.length,by simp,Me _,h0⟩;rintro i m B D H ⟨rfl,hi,p⟩;obtain⟨Y,N,q2,q3⟩:=hl i B D H hi p;exists q2,q3;by_cases hlt:i<min xs.length ys.length
 ·have l1:i<xs.length:=by omega
  have l2:i<ys.length:=by omega
  refine .inr ⟨⟨xs,ys,xs[i],ys[i],Y,N,by simp[l1],by simp[l2]⟩,J (i+1),λ a1 a0 H' p'=>⟨min xs.length ys.length-(i+1),by omega,rfl,hlt,p'⟩,λ v H' y=>?_⟩;obtain⟨t,x,y,rfl,ht,rfl,h⟩:=y;obtain⟨h1,h2⟩:=h xs ys Y N;exact hs i x y B D H t h1 h2 ht p
 ·have e:i=min xs.length ys.length:=by omega
  subst e;refine .inl ⟨⟨xs,ys,Y,N,?_⟩,hd B D H p⟩
  rcases Nat.le_total xs.length ys.length with h | h
  ·exact .inl ⋯
  ·exact .inr ⋯
end
structure FH (K:LV) (mg:Z2) (nm:Str) (a:Addr) (D:List (Str×Addr)):Prop where
 xj:mg nm=some (.ref a)
 lk:∃es ep,K.lookup a=some ⟨.type "dict",none,.dict es ep,#[]⟩/\KTD.Rows (λ d v=>v=Value.ref d) es.toList D
section
variable {prog:Program}{w:World}{A:Around}{E:Z0}{s:Shared}
theorem FI {k:Str}{t:Tok}(ho:s.heap.get? a=some o)(hd:o.data=.dict es ep)
  (B:KTD.Rows (λ d v=>v=Value.ref d) es.toList D) (G:KTD.datumAt k D=some d) (q:Q (some (.ref d)) { s with toks:=s.toks+1 }):wpAny (model prog w) A (dictGet a (.str k t)) Q E s:=by
 unfold dictGet
 try with_reducible refine OC ?_
 refine Oz (O6 (Oz (KTD.kt_dictFind_strs (s:={ s with toks:=s.toks+1 }) ho hd (by have:=B.exact;obtain⟨l⟩:=es;simpa using this) ?_)));have hq:Q (findBy (λ k v=>v.isStr k) es k) { s with toks:=s.toks+1 }:=by
  obtain⟨v,J,rfl⟩:=B.find_some G;have e:findBy (λ k v=>v.isStr k) es k=some (.ref d):=by
   rw[<-J];obtain⟨l⟩:=es;simp[findBy]
  rw[e];exact q
 rw[findBy_of_findIdx?] at hq;cases hi:es.findIdx? λ e=>e.key.isStr k with
 | some i=>rw[hi] at hq;exact Oz (wpAny_dictEntries (s:={ s with toks:=s.toks+1 }) ho hd (OA hq))
 | none=>rw[hi] at hq;exact OA hq
theorem FJ {k:Str} {t:Tok}  {Q:Z0} (B:s.TypeIs (.ref a) "dict") (ho:s.heap.get? a=some o) (hd:o.data=.dict es ep)
  (J:KTD.Rows (λ d v=>v=Value.ref d) es.toList D) (G:KTD.datumAt k D=some d) (q:Q (.ref d) { s with toks:=s.toks+1 }):wpAny (model prog w) A (getItem (.ref a) (.str k t)) Q E s:=by
 unfold getItem
 try with_reducible refine OC ?_
 refine Oz (O7 B ⋯ (Oz (wpAny_callSpecial?_slot (name:=Str.ofString "__getitem__") B slot_dict_getitem (OE slot_dict_getitem B entry_dict_getitem ?_ (args_dict_getitem _ _)))));show wpAny _ _ (dictGet a (.str k t) >>= λ _=>_) _ _ s;exact Oz (FI ho hd J G (OA ⟨_,rfl,OA q⟩))
end
section
variable {X:Cx}
theorem vW {N:Str}   {i:Expr} {p pos:Pos} {Y:TE} (G:FH X.K X.mg N a D) (hg:Gl X N) (hi:PE X i Y) (hs:yQ i) (Z:(N == ("__debug__" : Str))=false:=by decide) :
  PE X (.Subscript (.Name N p) i pos) (λ J H Q=>Y J H λ y H1=>∃x d,y=.str x/\KTD.datumAt x D=some d/\Q (.ref d) H1):=by
 intro B s J H Q I h;obtain⟨es,ep,hk,hr⟩:=G.lk;refine rX PySem.F.slot_dict_getitem.lookup hs (dC (j4 (v:=.ref a) hg G.xj rfl Z B s J H (λ x H1=>x=.ref a/\Y J H1 λ y H1=>∃x d,y=.str x/\KTD.datumAt x D=some d/\Q (.ref d) H1) I ⟨rfl,h⟩) λ u s1 ⟨x,H1,I1,rx,ex,q1⟩=>?_);subst ex;obtain rfl:u=Value.ref a:=rx;refine dC (hi B s1 J H1 _ I1 q1) λ iv s2 ⟨y,H2,I2,ry,k,d,ey,hd,q2⟩=>?_
 subst ey;obtain⟨t,rfl⟩:=(show ∃t,iv=Value.str k t from ry);have ho:=I2.lP a _ hk;exact⟨⟨_,ho,rfl⟩,FJ ⟨_,ho,rfl⟩ ho rfl hr hd ⟨.ref d,H2,I2.tok _,rfl,q2⟩⟩
end
def pick (w:Str)(xs:List V)(ks:List Str):List V:=((xs.zip ks).filter λ p=>decide (p.2=w)).map (·.1)
def nJ (w:Str)(xs:List V)(ks:List Str)(i:Nat):List V:=(((xs.zip ks).take i).filter λ p=>decide (p.2=w)).map (·.1)
theorem Ca {w:Str}{xs:List V}{i:Nat}{x:V}{k:Str}(hx:xs[i]?=some x)(B:ks[i]?=some k):nJ w xs ks (i+1)=nJ w xs ks i++(if k=w then [x] else []):=by
 have hz:(xs.zip ks)[i]?=some (x,k):=by rw[List.getElem?_zip_eq_some];exact⟨hx,B⟩
 unfold nJ;rw[Mz,hz,NM,L4]
 congr 1
 by_cases h:k=w
 ·rw[if_pos h];simp[h]
 ·rw[if_neg h];simp[h]
theorem DN {w:Str}{xs:List V}:nJ w xs ks (min xs.length (ks.map V.str).length)=pick w xs ks:=by
 unfold nJ pick;rw[LU,Oq (by rw[List.length_zip];exact LW _)]
theorem DO {w:Str}{xs:List V}{ks:List Str}{i:Nat}:(nJ w xs ks i).length<=i:=by
 unfold nJ;rw[LU];exact Ma (M9 ..) (by rw[Mu];exact Nat.min_le_left ..)
theorem cE.same {K:LV}{H H':Hp}{a:Addr}{xs:List V}(h:cE K H a xs)(s:cy H H'):cE K H' a xs:=by
 rcases h with h | h
 ·rcases h with h | h
  ·exact .inl (.inl (s _ _ h))
  ·obtain⟨b,hb⟩:=h;exact .inl (.inr ⟨b,s _ _ hb⟩)
 ·exact .inr h
inductive vX (K:LV) (vs:List V) (H:Hp) (Q:VK) (_:XK):Prop
 | mk (t s:Addr) (v0:V) (xs:List V) (ks:List Str) (w:Str) (_:vs=[.ref t,.ref s,.str w]) (_:H t=some (.tup (v0::xs))) (_:cE K H s (ks.map V.str)) (_:xs.length<=1000) (_:∀l H',H' l=some (.lst (pick w xs ks))->cy H H'->Q (.ref l) H')
def KTup (K:LV)(a:Addr)(ks:List Str):Prop:=∃(o:Obj) (its:Array Value) (n:Nat),K.lookup a=some o/\o.cls=.type "tuple" /\ o.data=.seq its n/\its.size<=sizeLine/\Vals (ks.map V.str) its.toList
structure y6 (K:LV) (mg:Z2) (aE s0 s1 s2 s3:Addr):Prop where
 tab:FH K mg "END_PARTS" aE [("stop",s0),("go",s1),("less",s2),("is",s3)]
 q0:KTup K s0 []
 q1:KTup K s1 ["piece"]
 q2:KTup K s2 ["name", "number", "piece", "piece"]
 q3:KTup K s3 ["name", "number", "piece", "piece"]
def cC:End->List Nat
 | .stop=>[]
 | .go p=>[p]
 | .eM _ _ _ p q=>[p,q]
def kE:End->List Str
 | .stop=>[]
 | .go _=>["piece"]
 | .eM ..=>["name", "number", "piece", "piece"]
def wE:End->Str
 | .stop => "stop"
 | .go _ => "go"
 | .eM b ..=>wT b
theorem DP (e:End):∃xs,fX e=.str (wE e)::xs/\xs.length<=1000/\pick "piece" xs (kE e)=(cC e).map λ k=>V.int (k:Nat):=by
 cases e with
 | stop=>exact⟨[],rfl,by decide,rfl⟩
 | go p=>exact⟨_,rfl,by show 1<=1000;decide,by simp[pick,kE,cC]⟩
 | eM b x n p q =>
  refine⟨_,rfl,by show 4<=1000;decide,?_⟩;have D:¬("name" : Str) = "piece" := by decide
  have B:¬("number" : Str) = "piece" := by decide
  simp[pick,kE,cC,D,B]
theorem y6.at_ {mg:Z2} {aE s0 N Z Y:Addr} (G:y6 K mg aE s0 N Z Y) (e:End):∃s,KTD.datumAt (wE e) [(("stop" : Str),s0),("go",N),("less",Z),("is",Y)]=some s/\KTup K s (kE e):=by
 have J:∀{k:Str} {d:Addr} {D:List (Str×Addr)},KTD.datumAt k ((k,d)::D)=some d:=λ {k d D}=>by
  show (if decide (k=k)=true then some d else KTD.datumAt k D)=some d;rw[if_pos (decide_eq_true rfl)]
 have B:∀{k x:Str} {d:Addr} {D:List (Str×Addr)} {o:Option Addr},¬k=x->KTD.datumAt k D=o->KTD.datumAt k ((x,d)::D)=o:=λ {k x d D o} h e=>by
  show (if decide (k=x)=true then some d else KTD.datumAt k D)=o;rw[if_neg (by rw[decide_eq_false h];decide)];exact e
 cases e with
 | stop=>exact⟨s0,J,G.q0⟩
 | go p=>exact⟨N,B (show ¬(("go" : Str) = "stop") by decide) J,G.q1⟩
 | eM b x n p q =>
  cases b with
  | true=>exact⟨Z,B (show ¬(("less" : Str) = "stop") by decide) (B (show ¬(("less" : Str) = "go") by decide) J),G.q2⟩
  | false=>exact⟨Y,B (show ¬(("is" : Str) = "stop") by decide) (B (show ¬(("is" : Str) = "go") by decide) (B (show ¬(("is" : Str) = "less") by decide) J)),G.q3⟩
inductive lU  (vs:List V) (H:Hp) (Q:VK) (_:XK):Prop
 | mk (ea:Addr) (e:End) (_:vs=[.ref ea]) (_:H ea=some (.tup (fX e))) (_:∀t H',H' t=some (.tup ((cC e).map λ k=>V.int (k:Nat)))->cy H H'->Q (.ref t) H')
end L2
namespace LS
open PySem
variable {Q:Option Value->Shared->Prop}{xs:Array Nat}{B:Array (Int×Value)}{i n j slot ep c:Nat}{its:Array Value}{first:Value}{t t':SetTable}{T I b x y:Addr}{h:Int}{oT:Obj}
def Up (xs:Array Nat):Prop:=∀(i j:Nat) (a b:Nat),i<j->xs[i]?=some a->xs[j]?=some b->a<b
theorem FK (up:Up xs):∀(B lo hi:Nat),hi-lo<=B->lo<=hi->hi<=xs.size ->
  (∀i a,i<lo->xs[i]?=some a->a<j)->(∀i a,hi<=i->xs[i]?=some a->j<=a) ->
  (∀i a,i<SetTable.below.go xs j B lo hi->xs[i]?=some a->a<j)/\(∀i a,SetTable.below.go xs j B lo hi<=i->xs[i]?=some a->j<=a)/\SetTable.below.go xs j B lo hi<=xs.size:=by
 intro B
 induction B with
 | zero =>
  intro lo hi h1 h2 N J Z;have e:lo=hi:=by omega
  subst e;unfold SetTable.below.go;exact⟨J,Z,N⟩
 | succ f ih =>
  intro lo hi h1 h2 N J Z;unfold SetTable.below.go;by_cases hl:lo<hi
  ·rw[if_pos hl];dsimp only;have hm:(lo+hi) / 2<hi:=by omega
   have G:lo<=(lo+hi) / 2:=by omega
   generalize (lo+hi) / 2=mid at hm G;have hs:mid<xs.size:=by omega
   have Y:xs[mid]?=some xs[mid]:=by simp[hs]
   have hd:xs.getD mid j=xs[mid]:=by simp[Array.getD,hs]
   rw[hd];by_cases hc:xs[mid]<j
   ·rw[if_pos hc];refine ih (mid+1) hi ⋯ ⋯ N (λ i a a0 D=>?_) Z;by_cases e:i=mid
    ·subst e;rw[Y] at D;cases D;exact hc
    ·have:=up i mid a _ ⋯ D Y;omega
   ·rw[if_neg hc];refine ih lo mid ⋯ G ⋯ J (λ i a a0 D=>?_);by_cases e:i=mid
    ·subst e;rw[Y] at D;cases D;omega
    ·have:=up mid i _ a ⋯ Y D;omega
  ·rw[if_neg hl];have e:lo=hi:=by omega
   subst e;exact⟨J,Z,N⟩
theorem tR {j:Nat}(up:Up xs) :
    (∀i a,i<SetTable.below xs j->xs[i]?=some a->a<j)/\(∀i a,SetTable.below xs j<=i->xs[i]?=some a->j<=a)/\SetTable.below xs j<=xs.size :=
  FK up xs.size 0 xs.size ⋯ (Me _) (LW _) (λ _ _ h=>absurd h (Nat.not_lt_zero _)) (λ i a h e=>by
    have:xs[i]?=none:=by simp;omega
    rw[this] at e;cases e)
theorem y7 {B:Type}{xs:Array B}{p:Nat}{x:B}(hp:p<=xs.size)(i:Nat) :
  (SetTable.insertAt xs p x)[i]?=if i<p then xs[i]? else if i=p then some x else xs[i-1]?:=by
 unfold SetTable.insertAt;have D:(xs.extract 0 p).size=p:=by simp;omega
 rw[Array.getElem?_append];have G:((xs.extract 0 p).push x).size=p+1:=by simp;omega
 rw[G];by_cases a:i<p
 ·rw[if_pos ⋯,if_pos a,Array.getElem?_push,D,if_neg ⋯];rw[Array.getElem?_extract];simp;omega
 ·rw[if_neg a];by_cases b:i=p
  ·subst b;rw[if_pos ⋯,if_pos rfl,Array.getElem?_push,D,if_pos rfl]
  ·rw[if_neg ⋯,if_neg b];rw[Array.getElem?_extract];have:p+(i-(p+1))=i-1:=by omega
   rw[this];by_cases c:i-1<xs.size
   ·simp;omega
   ·have:xs[i-1]?=none:=by simp;omega
    rw[this];simp
theorem Up.insert {j:Nat}(up:Up xs)(hn:xs[SetTable.below xs j]?≠some j):Up (SetTable.insertAt xs (SetTable.below xs j) j):=by
 obtain⟨N,J,h3⟩:=tR (j:=j) up;generalize SetTable.below xs j=p at N J h3 hn;have D:∀i a,p<=i->xs[i]?=some a->j<a:=λ i a hi e=>by
  have q:=J i a hi e;by_cases z:i=p
  ·subst z
   rcases Nat.lt_or_ge j a with c | c
   ·exact c
   ·have:a=j:=by omega
    subst this;exact absurd e hn
  ·have G:p<xs.size:=by
    have:i<xs.size:=by
     rcases Nat.lt_or_ge i xs.size with c | c
     ·exact c
     ·have:xs[i]?=none:=by simp;omega
      rw[this] at e;cases e
    omega
   have Z:xs[p]?=some xs[p]:=by simp[G]
   have q1:=J p _ (LW _) Z;have q2:=up p i _ _ ⋯ Z e;omega
 intro a b x y Y B hb;rw[y7 h3] at B hb;by_cases c1:a<p
 ·rw[if_pos c1] at B;by_cases d1:b<p
  ·rw[if_pos d1] at hb;exact up a b _ _ Y B hb
  ·rw[if_neg d1] at hb;by_cases d2:b=p
   ·rw[if_pos d2] at hb;cases hb;exact N a _ c1 B
   ·rw[if_neg d2] at hb;exact NX (N a _ c1 B) (D (b-1) _ ⋯ hb)
 ·rw[if_neg c1] at B;by_cases c2:a=p
  ·rw[if_pos c2] at B;cases B;rw[if_neg ⋯,if_neg ⋯] at hb;exact D (b-1) _ ⋯ hb
  ·rw[if_neg c2] at B;rw[if_neg ⋯,if_neg ⋯] at hb;exact up (a-1) (b-1) _ _ ⋯ B hb
def Rp (t:SetTable):Prop:=t.plain=true->Up t.place
theorem FL {f:Nat->Int}:∀(B:Nat) (p:SetTable.Probe) (j:Nat) (d:Option Nat),(∀x,p.dummy=some x->t.place[SetTable.below t.place x]?≠some x) ->
  SetTable.probe.go t f h B p=some (.empty j d)->t.place[SetTable.below t.place (d.getD j)]?≠some (d.getD j):=by
 intro B
 induction B with
 | zero=>intro p j d _ e;unfold SetTable.probe.go at e;cases e
 | succ n ih =>
  intro p j d hd e;unfold SetTable.probe.go at e;have D:∀q:SetTable.Probe,(t.advance q).dummy=q.dummy:=λ q=>by unfold SetTable.advance;split<;>rfl
  cases hs:t.slot p.j with
  | empty =>
   rw[hs] at e;dsimp only at e;injection e with e
   injection e with e1 e2
   subst e1;subst e2;unfold SetTable.slot at hs;dsimp only at hs;split at hs
   ·cases hs
   ·rename_i hne
    cases hdm:p.dummy with
    | none=>intro z;exact hne (by rw[show (none:Option Nat).getD p.j=p.j from rfl] at z;simpa using z)
    | some x=>exact hd x hdm
  | dummy =>
   rw[hs] at e;dsimp only at e;refine ih _ j d (λ x hx=>?_) e;rw[D] at hx;injection hx with hx
   subst hx;unfold SetTable.slot at hs;dsimp only at hs;split at hs
   ·cases hs
   ·rename_i hne
    intro z;exact hne (by simpa using z)
  | live i =>
   rw[hs] at e;dsimp only at e;split at e
   ·cases e
   ·exact ih _ j d (λ x hx=>hd x (by rw[D] at hx;exact hx)) e
theorem y8 {b:Bool}(e:t.freeSlot h=some (j,b)):t.place[SetTable.below t.place j]?≠some j:=by
 unfold SetTable.freeSlot at e;split at e
 ·rename_i j' d hp
  injection e with e
  injection e with e1 e2
  subst e1;unfold SetTable.probe at hp;exact FL _ _ _ _ (λ x hx=>by cases hx) hp
 ·cases e
theorem Rp.standIn (t:SetTable)(n:Nat):Rp (t.standIn n):=λ h=>by cases h
theorem Rp.layNew {t:SetTable}(r:Rp t)(es:Array (Int×Value))(h:Int)(x:Value):Rp (layNew t es h x).2.1/\(layNew t es h x).2.1.led=t.led:=by
 unfold PySem.layNew;split
 ·rename_i j b e
  dsimp only;unfold SetTable.orStandIn;split
  ·refine⟨λ hp=>?_,rfl⟩;exact (r hp).insert (y8 e)
  ·exact⟨Rp.standIn _ _,rfl⟩
 ·exact⟨Rp.standIn _ _,rfl⟩
theorem FN (n:Nat)(f:Nat->Option Nat):Up (((L1 n).filterMap λ j=>(f j).map λ k=>(j,k)).map (·.1)).toArray:=by
 have N:Nf (· < ·) (((L1 n).filterMap λ j=>(f j).map λ k=>(j,k)).map (·.1)):=by
  have J:List.Sublist (((L1 n).filterMap λ j=>(f j).map λ k=>(j,k)).map (·.1)) (L1 n):=by
   generalize L1 n=l
   induction l with
   | nil=>exact List.Sublist.refl _
   | cons a l ih =>
    rw[Nw];cases e:f a with
    | none=>exact ih.cons a
    | some k=>exact ih.cons₂ a
  exact Nf.sublist J List.pairwise_lt_range
 intro i j a b D B hb;rw[List.getElem?_toArray] at B hb;have hi:i<_:=(Md.mp B).1;have G:j<_:=(Md.mp hb).1;have:=List.pairwise_iff_getElem.mp N i j hi G D;rw[(Md.mp B).2,(Md.mp hb).2] at this;exact this
theorem Rp.relayAll (t:SetTable)(es:Array (Int×Value))(n:Nat):Rp (relayAll t es n).2.1/\(relayAll t es n).2.1.led=t.led:=by
 unfold PySem.relayAll;split
 ·rename_i t' order e
  dsimp only;split
  ·unfold SetTable.relaid SetTable.laid at e;simp only[bind,Option.bind] at e;split at e
   ·cases e
   ·rename_i owner _
    injection e with e
    injection e with e1 _
    subst e1;exact⟨λ _=>FN _ _,rfl⟩
  ·exact⟨Rp.standIn _ _,rfl⟩
 ·exact⟨Rp.standIn _ _,rfl⟩
theorem Cb (up:Up xs){a:Nat}(e:xs[i]?=some a):SetTable.below xs (a+1)=i+1:=by
 obtain⟨J,G,N⟩:=tR (j:=a+1) up;have hi:i<xs.size:=(Array.getElem?_eq_some_iff.mp e).1
 rcases Nat.lt_trichotomy (SetTable.below xs (a+1)) (i+1) with c | c | c
 ·have:=G i a ⋯ e;omega
 ·exact c
 ·have D:i+1<xs.size:=by omega
  have B:xs[i+1]?=some xs[i+1]:=by simp[D]
  have q1:=J (i+1) _ c B;have q2:=up i (i+1) _ _ ⋯ e B;omega
theorem Cc (up:Up xs):SetTable.below xs 0=0:=by
 obtain⟨D,J,G⟩:=tR (j:=0) up
 rcases Nat.eq_zero_or_pos (SetTable.below xs 0) with c | c
 ·exact c
 ·have B:xs[0]?=some xs[0]:=by simp
  have:=D 0 _ c B;omega
theorem Up.er (h:xs.size<=1):Up xs:=λ i j a b B D hb=>by
 have:=(Array.getElem?_eq_some_iff.mp hb).1;omega
open PySem.Spec PyProof.Rows
section
variable {prog:Program}{w:World}{K:Type}[DecidableEq K]{knd:KeyKind prog w K}
variable {A:Around}{E:Z0}{s:Shared}
def Ent (knd:KeyKind prog w K)(e:Int×Value)(k:K):Prop:=knd.is k e.2=true/\e.1=knd.hash k/\e.2.scannable=true
structure dX (knd:KeyKind prog w K) (h:Heap) (a:Addr) (ks:List K) (o:Obj) (es:Array (Int×Value)) (ep:Nat) (t:SetTable):Prop where
 at_:h.get? a=some o
 ex:o.ExactSet
 data:o.data=.set es ep t
 ents:∃ls:List K,ls.Perm ks/\Paired (Ent knd) es.toList ls
 nd:ks.Nodup
 er:es.size<scanBound
 fits:t.fits es.size=true
 led:t.led = !(w.params.followText "set-order")
 up:Rp t
def iy (knd:KeyKind prog w K)(h:Heap)(a:Addr)(ks:List K):Prop:=∃o es ep t,dX knd h a ks o es ep t
theorem nW {G J:Type}{F:G->J->Prop}:∀{l D:List G},l.Perm D->∀{B:List J},Paired F D B->∃m,m.Perm B/\Paired F l m:=by
 intro l D p
 induction p with
 | nil=>intro B h;exact⟨B,.refl _,h⟩
 | cons x p ih =>
  intro B h;cases h with
  | cons r t=>obtain⟨m,q,e⟩:=ih t;exact⟨_,q.cons _,.cons r e⟩
 | swap x y l =>
  intro B h;cases h with
  | cons r t=>cases t with
   | cons r' t'=>exact⟨_,.swap _ _ _,.cons r' (.cons r t')⟩
 | trans p q ih1 ih2 =>
  intro B h;obtain⟨m1,a1,Z⟩:=ih2 h;obtain⟨N,a2,Y⟩:=ih1 Z;exact⟨N,a2.trans a1,Y⟩
theorem mE {B D:Type}{F:B->D->Prop}:∀{l:List B} {m:List D},Paired F l m->(∀x∈l,∃y∈m,F x y)/\(∀y∈m,∃x∈l,F x y)
 | _,_,.nil=>⟨(λ _ h=>nomatch h),(λ _ h=>nomatch h)⟩
 | _,_,.cons r t=>by
  obtain⟨J,G⟩:=mE t;refine⟨λ x hx=>?_,λ y hy=>?_⟩
  ·rcases LZ.mp hx with rfl | hx
   ·exact⟨_,L9 ..,r⟩
   ·obtain⟨y,hy,f⟩:=J x hx;exact⟨y,Mc _ hy,f⟩
  ·rcases LZ.mp hy with rfl | hy
   ·exact⟨_,L9 ..,r⟩
   ·obtain⟨x,hx,f⟩:=G y hy;exact⟨x,Mc _ hx,f⟩
theorem sZ {B D:Type}{F:B->D->Prop}{x:B}{y:D}(f:F x y):∀{l:List B} {m:List D},Paired F l m->Paired F (l++[x]) (m++[y])
 | _,_,.nil=>.cons f .nil
 | _,_,.cons r t=>.cons r (sZ f t)
variable {a:Addr}{ks:List K}{o:Obj}{es:Array (Int×Value)}{ep:Nat}{t:SetTable}{h h':Heap}
theorem dX.elems (S:dX knd h a ks o es ep t):ElemsOf knd es.toList:=λ e B=>by
 obtain⟨ls,_,p⟩:=S.ents;obtain⟨k,_,f⟩:=(mE p).1 e B;exact⟨⟨k,f.1,f.2.1⟩,f.2.2⟩
theorem dX.len (S:dX knd h a ks o es ep t):es.size=ks.length:=by
 obtain⟨ls,q,p⟩:=S.ents;rw[<-MD,p.length,q.length_eq]
theorem dX.mem (S:dX knd h a ks o es ep t)(k:K):k∈ks↔∃e∈es.toList,knd.is k e.2=true:=by
 obtain⟨ls,q,p⟩:=S.ents;rw[<-q.mem_iff]
 constructor
 ·intro N;obtain⟨e,D,f⟩:=(mE p).2 k N;exact⟨e,D,f.1⟩
 ·rintro⟨e,D,f⟩;obtain⟨J,B,G⟩:=(mE p).1 e D;rw[knd.inj e.2 k J f G.1];exact B
theorem dX.setOf (S:dX knd h a ks o es ep t):h.SetOf knd a (λ k=>decide (k∈ks)) ks.length :=
 ⟨o,es,ep,t,S.at_,S.ex,S.data,S.elems,λ k=>by rw[decide_eq_true_eq];exact S.mem k,S.er,S.fits,S.len⟩
theorem dX.keep (S:dX knd h a ks o es ep t)(k:∀o,h.get? a=some o->h'.get? a=some o):dX knd h' a ks o es ep t:={ S with at_:=k _ S.at_ }
theorem iy.keep (S:iy knd h a ks)(k:∀o,h.get? a=some o->h'.get? a=some o):iy knd h' a ks:=let ⟨o,es,ep,t,S⟩:=S;⟨o,es,ep,t,S.keep k⟩
theorem iy.setOf (S:iy knd h a ks):h.SetOf knd a (λ k=>decide (k∈ks)) ks.length:=let ⟨_,_,_,_,S⟩:=S;S.setOf
theorem y9 {o:Obj}{es:Array (Int×Value)}{ep:Nat}{t:SetTable}(hd:o.data=.set es ep t):Obj.putSet B t' o={ o with data:=.set B (ep+1) t' }:=putSet_of B t' hd
theorem dX.store {D:List K}(S:dX knd h a ks o es ep t)(G:∃ls:List K,ls.Perm D/\Paired (Ent knd) B.toList ls)(nd:D.Nodup)(er:B.size<scanBound)
  (fits:t'.fits B.size=true) (led:t'.led=t.led) (up:Rp t'):dX knd (h.update a (Obj.putSet B t')) a D { o with data:=.set B (ep+1) t' } B (ep+1) t' where
 at_:=by
  have q:=MX (Obj.putSet B t') S.at_ (by rw[y9 S.data];rfl);rw[y9 S.data] at q;exact q
 ex:=S.ex
 data:=rfl
 ents:=G
 nd:=nd
 er:=er
 fits:=fits
 led:=led.trans S.led
 up:=up
theorem tS {g:Bool->Sem Unit}(hg:∀(b:Bool) (G:Shared) (Q':Unit->Shared->Prop),Q' () G->wpAny (model prog w) A (g b) Q' E G){D:SetTable}{N:List K}
  (S:dX knd s.heap a ks o es ep t) (he:∃ls:List K,ls.Perm N/\Paired (Ent knd) B.toList ls) (nd:N.Nodup) (er:B.size<scanBound) (fits:D.fits B.size=true) (led:D.led=t.led) (up:Rp D) {wd:Bool}
  {R:Option Bool->Shared->Prop} (q:∀h',Mx a s.heap h'->iy knd h' a N->R (some true) { s with heap:=h' }) :
  wpAny (model prog w) A (storeSet a B D >>= λ _=>if (!wd&&D.tooFull)=true then g (relayAll D B (SetTable.grown B.size)).2.2 >>= λ _ =>
   storeSet a (relayAll D B (SetTable.grown B.size)).1 (relayAll D B (SetTable.grown B.size)).2.1 >>= λ _=>pure (some true) else pure (some true)) R E s:=by
 refine Oz (wpAny_storeSet_of S.at_ S.data ?_ (fits_of_scanBound er));have Z:=S.store he nd er fits led up;have b1:=Mx.update s.heap a (Obj.putSet B D);by_cases hc:(!wd&&D.tooFull)=true
 ·rw[if_pos hc];have p1:=relayAll_perm D B (SetTable.grown B.size);have p2:=relayAll_fits D B (SetTable.grown B.size);have p3:=Rp.relayAll D B (SetTable.grown B.size);generalize relayAll D B (SetTable.grown B.size)=R3 at p1 p2 p3;obtain⟨Y,t3,gv⟩:=R3;obtain⟨ls,l1,l2⟩:=he;obtain⟨a0,l3,l4⟩:=nW p1 l2;have z:Y.size=B.size:=by rw[<-MD,p1.length_eq,MD]
  have J:Y.size<scanBound:=by rw[z];exact er
  refine Oz (hg _ _ _ ?_);refine Oz (wpAny_storeSet_of Z.at_ Z.data ?_ (fits_of_scanBound J));exact OA (q _ (b1.trans (Mx.update _ a _)) ⟨_,_,_,_,Z.store ⟨a0,l3.trans l1,l4⟩ nd J p2 p3.2 p3.1⟩)
 ·rw[if_neg hc];exact OA (q _ b1 ⟨_,_,_,_,Z⟩)
theorem Cd {k:K}{x:Value}{Q:Bool->Shared->Prop}(hk:knd.is k x=true)(N:x.scannable=true)(S:iy knd s.heap a ks)(room:ks.length+1<scanBound)
  (q:∀h',Mx a s.heap h'->iy knd h' a (if k∈ks then ks else ks++[k])->Q (!decide (k∈ks)) { s with heap:=h' }) :
  wpAny (model prog w) A (setAddHashed a x (knd.hash k)) Q E s:=by
 obtain⟨o,es,ep,t,S⟩:=S;have a0:es.size+1<scanBound:=by rw[S.len];exact room
 unfold setAddHashed setAddHashedIn;refine OC (Oz (OV S.at_ S.data S.fits ?_));dsimp only;rw[byScan_of N S.er S.elems];simp only[↓reduceIte];unfold setAddByScan;refine Oz (Oz (OI ?_));refine Oz (wpAny_setScan_of hk S.at_ S.data S.fits S.elems ?_);cases hr:List.findIdx? (λ e=>knd.is k e.2) es.toList with
 | some j =>
  obtain⟨hj,a1,_⟩:=List.findIdx?_eq_some_iff_getElem.mp hr;have B:k∈ks:=(S.mem k).mpr ⟨es.toList[j],MU hj,a1⟩;refine OA (OA ?_);have:=q s.heap (Mx.refl a s.heap) (by rw[if_pos B];exact⟨o,es,ep,t,S⟩);rw[decide_eq_true B] at this;exact this
 | none =>
  have B:¬k∈ks:=λ z=>by
   obtain⟨e,he,hp⟩:=(S.mem k).mp z;have:=List.findIdx?_eq_none_iff.mp hr e he;rw[hp] at this;exact Bool.noConfusion this
  rw[if_neg B,decide_eq_false B] at q;have p1:=layNew_perm t es (knd.hash k) x;have p2:=layNew_fits t es (knd.hash k) x;have J:=S.up.layNew es (knd.hash k) x;dsimp only;generalize layNew t es (knd.hash k) x=L at p1 p2 J ⊢;obtain⟨Z,t1,wd,gv⟩:=L;dsimp only at p1 p2 J ⊢;rw[Array.toList_push] at p1;have hE:∃ls:List K,ls.Perm (ks++[k])/\Paired (Ent knd) Z.toList ls:=by
   obtain⟨ls,l1,l2⟩:=S.ents;obtain⟨m,m1,m2⟩:=nW p1 (sZ (F:=Ent knd) (x:=(knd.hash k,x)) (y:=k) ⟨hk,rfl,N⟩ l2);exact⟨m,m1.trans (l1.append_right _),m2⟩
  have Y:(ks++[k]).Nodup:=by
   rw[Nq];exact⟨S.nd,by simp,λ y hy z hz e=>B (by rw[LX] at hz;rw[<-hz,<-e];exact hy)⟩
  have D:Z.size<scanBound:=by rw[<-MD,p1.length_eq,LY,MD];simpa using a0
  have gw:∀(b:Bool) (G:Shared) (Q':Unit->Shared->Prop),Q' () G->wpAny (model prog w) A (match b with | true=>rule "set.scan.the-table-gave-way" | false=>pure ()) Q' E G:=λ b G Q' hq=>by
   cases b
   ·exact OA hq
   ·exact OI hq
  refine Oz (gw _ _ _ ?_);by_cases hp:t1.plain=true
  ·rw[if_pos hp];refine Oz ?_;rw[hashByValue_scannable 8 N];refine OA ?_;by_cases hv:plainKind x=true
   ·rw[if_pos hv];exact tS gw S hE Y D p2 J.2 J.1 λ h' b Sk=>OA (q h' b Sk)
   ·rw[if_neg hv];exact tS gw S hE Y D (SetTable.fits_plain_off p2) J.2 (λ z=>by cases z) λ h' b Sk=>OA (q h' b Sk)
  ·rw[if_neg hp];refine Oz (OA ?_);rw[if_pos rfl];exact tS gw S hE Y D p2 J.2 J.1 λ h' b Sk=>OA (q h' b Sk)
theorem qK {led:Bool} (B:led = !(w.params.followText "set-order")) (at_:h.get? a=some { cls:=.type "set",dict:=none,data:=.set #[] 0 (.fresh 0 0 led) }):iy knd h a [] :=
 ⟨_,#[],0,_,at_,⟨rfl,rfl,rfl⟩,rfl,⟨[],.refl _,.nil⟩,Nr,by decide,by rfl,B,λ _=>Up.er (Me _)⟩
end
theorem pf {D:Type}:∀(l:List D) (i:Nat) (h:i<l.length),(l[i]::l.eraseIdx i).Perm l
 | x::l,0,_=>.refl _
 | x::l,i+1,h=>by
  have hi:i<l.length:=by simpa using h
  have B:=pf l i hi;show (l[i]::x::l.eraseIdx i).Perm (x::l);exact (List.Perm.swap x _ _).trans (B.cons x)
theorem DQ {D:Type}(f:Nat->Nat):∀(n k:Nat) (l:List D) (out:Array D),l.length=n->(pickOrder.go f n k l out).toList.Perm (out.toList++l):=by
 intro n
 induction n with
 | zero =>
  intro k l out G;have:l=[]:=List.length_eq_zero_iff.mp G;subst this;unfold pickOrder.go;simp
 | succ n ih =>
  intro k l out G;unfold pickOrder.go;have B:f k % l.length<l.length:=Nat.mod_lt _ ⋯;rw[MB B];dsimp only;refine (ih _ _ _ (by rw[List.length_eraseIdx_of_lt B];omega)).trans ?_;rw[Array.toList_push,MK];refine List.Perm.append_left _ ?_;exact pf _ _ B
theorem kU {B:Type}(f:Nat->Nat)(xs:Array B):(pickOrder f xs).toList.Perm xs.toList:=by
 unfold pickOrder;have:=DQ f xs.size 0 xs.toList #[] (by simp);simpa using this
section
variable {prog:Program}{w:World}{A:Around}{E:Z0}{s:Shared}
theorem sj {Q:Bool->Shared->Prop} (q:Q (w.params.followText "set-order") s):wpAny (model prog w) A setsByText Q E s:=by
 unfold setsByText;exact Oz (O2 (OA q))
theorem HX {B:Source}{Q:Nat->Shared->Prop}(hn:n≠0)(q:∀(i:Nat) (d:_),i<n->Q i { s with drawn:=d }):wpAny (model prog w) A (choose B n) Q E s:=by
 intro G p D;show Sem.wp _ _ (.choose B n .pure) _ _ _ _;rw[Sem.wp_choose];exact⟨hn,q _ _ (Nat.mod_lt _ (Nat.pos_of_ne_zero hn))⟩
theorem Kx:∀(n:Nat) (xs:List Nat) (s:Shared) {Q:List Nat->Shared->Prop},xs.length=n->(∀(ys:List Nat) (d:_),ys.Perm xs->Q ys { s with drawn:=d })->wpAny (model prog w) A (drawOrder n xs) Q E s:=by
 intro n
 induction n with
 | zero =>
  intro xs s Q B q;have:xs=[]:=List.length_eq_zero_iff.mp B;subst this;unfold drawOrder;exact OA (q [] s.drawn (.refl _))
 | succ n ih =>
  intro xs s Q B q;cases xs with
  | nil=>cases B
  | cons x0 xs =>
   unfold drawOrder;refine Oz (HX (by simp) λ i d hi=>?_);rw[MB hi];dsimp only;refine Oz (ih _ _ (by rw[List.length_eraseIdx_of_lt hi];omega) λ ys d' hp=>?_);refine OA (q _ d' ?_);exact (hp.cons _).trans (pf _ _ hi)
end
section
variable {prog:Program}{w:World}{K:Type}[DecidableEq K]{knd:KeyKind prog w K}
variable {A:Around}{E:Z0}{s:Shared}{a:Addr}{ks:List K}{o:Obj}{es:Array (Int×Value)}{ep:Nat}{t:SetTable}
theorem DR {Q:Option (Value×Nat)->Shared->Prop} (S:dX knd s.heap a ks o es ep t) (hb:w.params.followText "set-order" = true)
  (q:Q (((pickOrder (w.params.setOrder a ep) es)[i]?).map λ e=>(e.2,slot)) s):wpAny (model prog w) A (setNext a slot i ep) Q E s:=by
 unfold setNext;refine Oz (OV S.at_ S.data S.fits ?_);dsimp only;refine Oz (sj ?_);rw[hb,if_pos rfl];rw[if_neg (by simp)];unfold setWalk;refine Oz (Oz (OV S.at_ S.data S.fits ?_));dsimp only;refine Oz (sj ?_);rw[hb,if_pos rfl];exact Oz (O2 (OA (OA q)))
theorem DS {Q:Option (Value×Nat)->Shared->Prop} (S:dX knd s.heap a ks o es ep t) (hb:w.params.followText "set-order" = false) (hd:t.plain=true\/es.size<=1) (D:SetTable.below t.place slot=i)
  (q:Q (match es[i]?,t.place[i]? with | some (_,x),some j=>some (x,j+1) | _,_=>none) s):wpAny (model prog w) A (setNext a slot i ep) Q E s:=by
 unfold setNext;refine Oz (OV S.at_ S.data S.fits ?_);dsimp only;refine Oz (sj ?_);rw[hb,if_neg Mv];refine O3 (λ h=>absurd (show (!t.plain&&decide (es.size > 1))=true from h) ?_) (λ _=>?_)
 ·rcases hd with h | h
  ·rw[h];simp
  ·rw[show decide (es.size > 1)=false by simp;omega];simp
 have B:t.led=true:=by rw[S.led,hb];rfl
 refine Oz ?_;show wpAny _ _ (if (!t.led&&!es.isEmpty)=true then unsupported "set:maker-not-led" else pure ()) _ _ s;rw[B,if_neg (by simp)];refine OA ?_;rw[D];exact OA q
theorem JR {e:Int×Value}{Q:Z0}(S:dX knd s.heap a ks o es ep t)(B:es[i]?=some e)(q:Q e.2 s):wpAny (model prog w) A (setNextDrawn a i ep) Q E s:=by
 unfold setNextDrawn;refine Oz (OV S.at_ S.data S.fits ?_);dsimp only;rw[if_neg (by simp)];rw[B];exact OA q
theorem slot_next:Slot "set_iterator" "__next__" "set_iterator.__next__" :=
  Slot.of (owner := "set_iterator") (n := "__next__")
    (by rw[typeLookup_type,builtinLookup_eq_fast]
        kernel_rfl)
    ⋯
    ⋯
    ⋯
    (by first
      | exact .inl ⋯
      | exact .inr ⋯)
    (by rw[isSubtype_type]
        kernel_rfl)
theorem entry_next:entryFor table "set_iterator.__next__" = some Builtin.«set_iterator.__next__» :=
 entryFor_of_tree (by kernel_rfl)
theorem xk:Manifest.owners.lookup (String.ofList ['r','o','t','a','r','e','t','i','_','t','e','s'].reverse)=some Manifest.sig_set_iterator:=by
 kernel_rfl
theorem args_next (v:Value):argsOk "set_iterator.__next__" ⟨[v],[]⟩:=by
 unfold argsOk;rw[signature?_of (id := "set_iterator.__next__") (n:=['_','_','t','x','e','n','_','_']) (o:=['r','o','t','a','r','e','t','i','_','t','e','s'])
  (by kernel_rfl) xk]
 kernel_rfl
end
def iV (h:Heap)(I:Addr)(first:Value)(i:Nat)(a:Addr)(n ep:Nat):Prop :=
 ∃oI,h.get? I=some oI/\oI.cls=.type "set_iterator" /\ oI.data=.fields #[first,.int i 0,.ref a,.int n 0,.int ep 0]
theorem iV.type {s:Shared}    {a:Addr}  (h:iV s.heap I first i a n ep):s.TypeIs (.ref I) "set_iterator" := let ⟨o,e,c,_⟩:=h;⟨o,e,c⟩
theorem iV.keep {h h':Heap}{a:Addr}(x:iV h I first i a n ep)(k:∀o,h.get? I=some o->h'.get? I=some o):iV h' I first i a n ep :=
 let ⟨o,e,c⟩:=x;⟨o,k _ e,c⟩
section
variable {prog:Program}{w:World}{K:Type}[DecidableEq K]{knd:KeyKind prog w K}
variable {A:Around}{E:Z0}{s:Shared}{a I:Addr}{ks:List K}{o:Obj}{es:Array (Int×Value)}{ep:Nat}{t:SetTable}
theorem za {slot nx:Nat}{x:Value}(B:iV s.heap I (.int slot 0) i a es.size ep)(S:dX knd s.heap a ks o es ep t)
  (hn:∀(A:Around) (E:Z0) (Q:Option (Value×Nat)->Shared->Prop),Q (some (x,nx)) s->wpAny (model prog w) A (setNext a slot i ep) Q E s)
  (q:∀h',iV h' I (.int nx 0) (i+1) a es.size ep->Mx I s.heap h'->Q (some x) { s with heap:=h' }):wpAny (model prog w) A (pyNext (.ref I)) Q E s:=by
 obtain⟨N,ho,J,hd⟩:=id B;unfold pyNext;refine Oz (OR (wpAny_callSpecial?_slot (name:=Str.ofString "__next__") B.type slot_next (OE slot_next B.type entry_next ?_ (args_next _))));unfold Builtin.«set_iterator.__next__»;refine Oz (OA ?_);refine Oz (O4 ho hd ?_);dsimp only;refine Oz (OX S.at_ S.data S.fits ?_);rw[if_neg (by simp)];simp only[M7];refine Oz (hn _ _ _ ?_);dsimp only;refine Oz (OO ho hd (by simp) ?_);have D:(Obj.mapFields (·.setIfInBounds 0 (rawInt (nx:Int))) N).data=.fields #[.int nx 0,.int i 0,.ref a,.int es.size 0,.int ep 0]:=by rw[Obj.data_mapFields hd];simp[rawInt]
 have G:=MX (Obj.mapFields (·.setIfInBounds 0 (rawInt (nx:Int)))) ho (Obj.isFreed_of_fields (Obj.data_mapFields hd _));refine Oz (OO G D (by simp) ?_);refine OA ⟨_,rfl,OA (q _ ⟨_,MX _ G (Obj.isFreed_of_fields (Obj.data_mapFields D _)),?_,?_⟩ ((Mx.update ..).trans (Mx.update ..)))⟩
 ·exact (Obj.cls_mapFields ..).trans ((Obj.cls_mapFields ..).trans J)
 ·rw[Obj.data_mapFields D];simp[rawInt]
theorem tf {Q:Option Value->Shared->Prop}{s0:Shared}(hh:A.handled=none)(B:∀b o,b≠I->s0.heap.get? b=some o->s.heap.get? b=some o)
  (q:∀h',(∀b o,b≠I->s0.heap.get? b=some o->h'.get? b=some o)->Q none { s with heap:=h' }) :
  wpAny (model prog w) A.in1 (newExc (.type "StopIteration") [] >>= λ e=>(raiseNew e:Sem Fin)) (λ _ _=>False)
   (λ e D=>wpAny (model prog w) A (isInstance e (.type "StopIteration") >>= λ b=>if b=true then pure none else throw e) Q E D) s:=by
 refine Oz ?_;simp only[newExc,newTuple];refine Oz (OD ?_ (by size_fits));refine Oz (m:=firstArgMember _ _) (wpAny_of_eq (a:=Value.none) (by first | rfl | (simp only[firstArgMember];rfl)) ?_);refine OD ?_ (by size_fits);simp only[raiseNew];refine Oz (wpAny_handled ?_);rw[show A.in1.handled=none from hh];refine Oz (OA (wpAny_throw ?_));refine Oz (OW (T := "StopIteration") (b:=true) ⟨_,L7 _ rfl,rfl⟩ isSubtype_stop ?_);exact OA (q _ λ b o hb e=>L3 _ (L3 _ (B b o hb e)))
theorem AN {slot:Nat}(hh:A.handled=none)(B:iV s.heap I (.int slot 0) i a es.size ep)(S:dX knd s.heap a ks o es ep t)
  (hn:∀(A:Around) (E:Z0) (Q:Option (Value×Nat)->Shared->Prop),Q none s->wpAny (model prog w) A (setNext a slot i ep) Q E s)
  (q:∀h',(∀b o,b≠I->s.heap.get? b=some o->h'.get? b=some o)->Q none { s with heap:=h' }):wpAny (model prog w) A (pyNext (.ref I)) Q E s:=by
 obtain⟨G,ho,D,hd⟩:=id B;unfold pyNext;refine Oz (OR (wpAny_callSpecial?_slot (name:=Str.ofString "__next__") B.type slot_next (OE slot_next B.type entry_next ?_ (args_next _))));unfold Builtin.«set_iterator.__next__»;refine Oz (OA ?_);refine Oz (O4 ho hd ?_);dsimp only;refine Oz (OX S.at_ S.data S.fits ?_);rw[if_neg (by simp)];simp only[M7];refine Oz (hn _ _ _ ?_);dsimp only;refine Oz (OO ho hd (by simp) ?_);refine OB (tf (I:=I) (s0:=s) (E:=E) (Q:=Q) hh (λ b o hb e=>(MY _ _ (Ne.symm hb)).trans e) λ h' k=>q h' k) (λ _ _ z=>z.elim) λ e J z=>z
theorem FO {k:Nat}{x:Int×Value}(B:iV s.heap I (.ref T) i a es.size ep)(S:dX knd s.heap a ks o es ep t)
  (G:s.heap.get? T=some oT) (N:oT.data=.seq its c) (J:its[i]?=some (.int k 0)) (hx:es[k]?=some x)
  (q:∀h',iV h' I (.ref T) (i+1) a es.size ep->Mx I s.heap h'->Q (some x.2) { s with heap:=h' }):wpAny (model prog w) A (pyNext (.ref I)) Q E s:=by
 obtain⟨Y,ho,D,hd⟩:=id B;unfold pyNext;refine Oz (OR (wpAny_callSpecial?_slot (name:=Str.ofString "__next__") B.type slot_next (OE slot_next B.type entry_next ?_ (args_next _))));unfold Builtin.«set_iterator.__next__»;refine Oz (OA ?_);refine Oz (O4 ho hd ?_);dsimp only;refine Oz (OX S.at_ S.data S.fits ?_);rw[if_neg (by simp)];refine Oz (OH G N ?_);dsimp only;simp only[M7];rw[J];dsimp only;simp only[M7];refine Oz (JR S hx ?_);refine Oz (OO ho hd (by simp) ?_);refine OA ⟨_,rfl,OA (q _ ⟨_,MX _ ho (Obj.isFreed_of_fields (Obj.data_mapFields hd _)),?_,?_⟩ (Mx.update ..))⟩
 ·exact (Obj.cls_mapFields ..).trans D
 ·rw[Obj.data_mapFields hd];simp[rawInt]
theorem HZ (hh:A.handled=none)(B:iV s.heap I (.ref T) i a es.size ep)(S:dX knd s.heap a ks o es ep t)
  (D:s.heap.get? T=some oT) (Z:oT.data=.seq its c) (J:its[i]?=none)
  (q:∀h',(∀b o,b≠I->s.heap.get? b=some o->h'.get? b=some o)->Q none { s with heap:=h' }):wpAny (model prog w) A (pyNext (.ref I)) Q E s:=by
 obtain⟨G,ho,hc,hd⟩:=id B;unfold pyNext;refine Oz (OR (wpAny_callSpecial?_slot (name:=Str.ofString "__next__") B.type slot_next (OE slot_next B.type entry_next ?_ (args_next _))));unfold Builtin.«set_iterator.__next__»;refine Oz (OA ?_);refine Oz (O4 ho hd ?_);dsimp only;refine Oz (OX S.at_ S.data S.fits ?_);rw[if_neg (by simp)];refine Oz (OH D Z ?_);dsimp only;simp only[M7];rw[J];dsimp only;refine Oz (OO ho hd (by simp) ?_);have N:(Obj.mapFields (·.setIfInBounds 0 (rawInt 0)) G).data=.fields #[.int 0 0,.int i 0,.ref a,.int es.size 0,.int ep 0]:=by rw[Obj.data_mapFields hd];simp[rawInt]
 have Y:=MX (Obj.mapFields (·.setIfInBounds 0 (rawInt 0))) ho (Obj.isFreed_of_fields (Obj.data_mapFields hd _));refine Oz (OO Y N (by simp) ?_);refine OB (tf (I:=I) (s0:=s) (E:=E) (Q:=Q) hh (λ b o hb e=>(MY _ _ (Ne.symm hb)).trans ((MY _ _ (Ne.symm hb)).trans e)) λ h' k=>q h' k) (λ _ _ z=>z.elim) λ e s' z=>z
theorem uT:Slot "set_iterator" "__iter__" "set_iterator.__iter__" :=
  Slot.of (owner := "set_iterator") (n := "__iter__")
    (by rw[typeLookup_type,builtinLookup_eq_fast]
        kernel_rfl)
    ⋯
    ⋯
    ⋯
    (by first
      | exact .inl ⋯
      | exact .inr ⋯)
    (by rw[isSubtype_type]
        kernel_rfl)
theorem zV:entryFor table "set_iterator.__iter__" = some Builtin.«dict_keyiterator.__iter__» :=
 entryFor_alias (id' := "dict_keyiterator.__iter__")
  (by kernel_rfl) rfl
  ⋯
  (by kernel_rfl)
theorem Ce (v:Value):argsOk "set_iterator.__iter__" ⟨[v],[]⟩:=by
 unfold argsOk;rw[signature?_of (id := "set_iterator.__iter__") (n:=['_','_','r','e','t','i','_','_']) (o:=['r','o','t','a','r','e','t','i','_','t','e','s'])
  (by kernel_rfl) xk]
 kernel_rfl
theorem qL {Q:Z0}(B:iV s.heap I first i a n ep)(q:Q (.ref I) s):wpAny (model prog w) A (pyIter (.ref I)) Q E s:=by
 refine wpAny_pyIter_slot B.type uT (OE uT B.type zV ?_ (Ce _));show wpAny _ _ (ret (.ref I)) _ _ s;exact OA ⟨_,rfl, "set_iterator",_,B.type,slot_next.lookup,q⟩
theorem JS (hh:A.handled=none) (G:a≠I) (hb:w.params.followText "set-order" = true) (nd:True) :
  Walks prog w A I [I,a] [I] es.size (λ i v=>∃e,(pickOrder (w.params.setOrder a ep) es)[i]?=some e/\e.2=v) (λ i h=>iV h I (.int 0 0) i a es.size ep/\dX knd h a ks o es ep t) where
 sub:=λ b hb=>by simp at hb;simp[hb]
 frame:=λ _ _ _ st k=>⟨st.1.keep λ o e=>k I (by simp) o e,st.2.keep λ o e=>k a (by simp) o e⟩
 item:=λ i s Q E hi st q=>by
  have z:(pickOrder (w.params.setOrder a ep) es).size=es.size:=by have:=(kU (w.params.setOrder a ep) es).length_eq;simpa using this
  have g:(pickOrder (w.params.setOrder a ep) es)[i]?=some ((pickOrder (w.params.setOrder a ep) es)[i]'⋯):=by simp
  refine za (slot:=0) (nx:=0) st.1 st.2 (λ A E Q h=>DR st.2 hb (by rw[g];exact h)) λ h' B D=>?_
  exact q _ h' s.toks ⟨_,g,rfl⟩ ⟨B,st.2.keep λ o e=>D.extBut a o G e⟩ λ b o hb e=>D.extBut b o (λ z=>hb (by simp[z])) e
 done:=λ s Q E st q=>by
  have z:(pickOrder (w.params.setOrder a ep) es).size=es.size:=by have:=(kU (w.params.setOrder a ep) es).length_eq;simpa using this
  refine AN (slot:=0) hh st.1 st.2 (λ A E Q h=>DR st.2 hb (by rw[Array.getElem?_eq_none ⋯];exact h)) λ h' k=>?_
  exact q h' s.toks λ b o hb e=>k b o (λ z=>hb (by simp[z])) e
 self:=λ _ _ _ _ st q=>qL st.1 q
theorem tT {B:Type}{es:Array B}:∀{ys:List Nat},(∀k∈ys,k<es.size)->∀i:Nat,(ys.filterMap λ k=>es[k]?)[i]?=(ys[i]?).bind λ k=>es[k]?
 | [],_,i=>by simp
 | y::ys,h,i=>by
  have D:es[y]?=some (es[y]'(h y (L9 ..))):=by simp
  rw[Nw,D];cases i with
  | zero=>simp
  | succ i =>
   have:=tT (ys:=ys) (λ k G=>h k (Mc _ G)) i;simpa using this
def uU (t:SetTable):Nat->Nat
 | 0=>0
 | i+1=>t.place.getD i 0+1
theorem uV {t:SetTable}(up:Up t.place)(h:i<=t.place.size):SetTable.below t.place (uU t i)=i:=by
 cases i with
 | zero=>exact Cc up
 | succ i =>
  have hi:i<t.place.size:=by omega
  have e:t.place[i]?=some (t.place.getD i 0):=by simp[Array.getD,hi]
  exact Cb up e
theorem JT (hh:A.handled=none) (J:a≠I) (hb:w.params.followText "set-order" = false) (hd:t.plain=true\/es.size<=1) (hf:t.fits es.size=true) (G:Rp t) :
  Walks prog w A I [I,a] [I] es.size (λ i v=>∃e,es[i]?=some e/\e.2=v) (λ i h=>iV h I (.int (uU t i) 0) i a es.size ep/\dX knd h a ks o es ep t) where
 sub:=λ b hb=>by simp at hb;simp[hb]
 frame:=λ _ _ _ st k=>⟨st.1.keep λ o e=>k I (by simp) o e,st.2.keep λ o e=>k a (by simp) o e⟩
 item:=λ i s Q E hi st q=>by
  have z:t.place.size=es.size:=by simp only[SetTable.fits,MA,beq_iff_eq] at hf;exact hf.1
  have up:Up t.place:=by
   rcases hd with c | c
   ·exact G c
   ·exact Up.er ⋯
  have g:es[i]?=some es[i]:=by simp[hi]
  have N:t.place[i]?=some (t.place.getD i 0):=by simp[Array.getD,z,hi]
  refine za (slot:=uU t i) (nx:=uU t (i+1)) (x:=es[i].2) st.1 st.2 (λ A E Q h=>DS st.2 hb hd (uV up ⋯) (by rw[g,N];exact h)) λ h' B D=>?_
  exact q _ h' s.toks ⟨_,g,rfl⟩ ⟨B,st.2.keep λ o e=>D.extBut a o J e⟩ λ b o hb e=>D.extBut b o (λ z=>hb (by simp[z])) e
 done:=λ s Q E st q=>by
  have z:t.place.size=es.size:=by simp only[SetTable.fits,MA,beq_iff_eq] at hf;exact hf.1
  have up:Up t.place:=by
   rcases hd with c | c
   ·exact G c
   ·exact Up.er ⋯
  refine AN (slot:=uU t es.size) hh st.1 st.2 (λ A E Q h=>DS st.2 hb hd (uV up ⋯) (by rw[Array.getElem?_eq_none (LW _)];exact h)) λ h' k=>?_
  exact q h' s.toks λ b o hb e=>k b o (λ z=>hb (by simp[z])) e
 self:=λ _ _ _ _ st q=>qL st.1 q
theorem JU {oT:Obj}{ys:List Nat}(hh:A.handled=none)(hI:a≠I)(hT:T≠I)(Y:oT.data=.seq (ys.map λ (i:Nat)=>rawInt i).toArray 0)(hp:ys.Perm (L1 es.size)) :
  Walks prog w A I [I,a,T] [I] es.size (λ i v=>∃e,((ys.filterMap λ k=>es[k]?))[i]?=some e/\e.2=v) (λ i h=>iV h I (.ref T) i a es.size ep/\dX knd h a ks o es ep t/\h.get? T=some oT) where
 sub:=λ b hb=>by simp at hb;simp[hb]
 frame:=λ _ _ _ st k=>⟨st.1.keep λ o e=>k I (by simp) o e,st.2.1.keep λ o e=>k a (by simp) o e,k T (by simp) _ st.2.2⟩
 item:=λ i s Q E hi st q=>by
  have Z:ys.length=es.size:=by rw[hp.length_eq,Nt]
  have D:∀k∈ys,k<es.size:=λ k G=>MI.mp (hp.mem_iff.mp G)
  have N:ys[i]?=some (ys[i]'⋯):=by simp
  have G:ys[i]'⋯<es.size:=D _ (MU _);generalize ys[i]'⋯=k at N G;have hx:es[k]?=some es[k]:=by simp[G]
  have hv:(ys.filterMap λ k=>es[k]?)[i]?=some es[k]:=by
   rw[tT D,N];exact hx
  refine FO (k:=k) (x:=es[k]) st.1 st.2.1 st.2.2 Y (by simp[N,rawInt]) hx λ h' B J=>?_
  exact q _ h' s.toks ⟨_,hv,rfl⟩ ⟨B,st.2.1.keep λ o e=>J.extBut a o hI e,J.extBut T _ hT st.2.2⟩ λ b o hb e=>J.extBut b o (λ z=>hb (by simp[z])) e
 done:=λ s Q E st q=>by
  have Z:ys.length=es.size:=by rw[hp.length_eq,Nt]
  refine HZ hh st.1 st.2.1 st.2.2 Y (by simp[Z]) λ h' k=>?_
  exact q h' s.toks λ b o hb e=>k b o (λ z=>hb (by simp[z])) e
 self:=λ _ _ _ _ st q=>qL st.1 q
theorem qM (h:b∈[x,y]):b=x\/b=y:=by simpa using h
theorem FP {z:Addr}(h:b∈[x,y,z]):b=x\/b=y\/b=z:=by simpa using h
theorem Cf:entryFor table "set.__iter__" = some Builtin.«frozenset.__iter__» :=
 entryFor_alias (id' := "frozenset.__iter__")
  (by kernel_rfl) rfl
  ⋯
  (by kernel_rfl)
theorem dX.typeIs (S:dX knd s.heap a ks o es ep t):s.TypeIs (.ref a) "set" := ⟨o,S.at_,S.ex.1⟩
theorem zW {Q:Bool->Shared->Prop} (S:dX knd s.heap a ks o es ep t) (q:Q (!(w.params.followText "set-order")&&(!t.plain&&decide (es.size > 1))) s):wpAny (model prog w) A (setDrawn a) Q E s:=by
 unfold setDrawn;refine Oz (OV S.at_ S.data S.fits ?_);dsimp only;exact Oz (sj (OA q))
def Comes (es:Array (Int×Value))(P:Nat->Value->Prop):Prop:=∃l:List (Int×Value),l.Perm es.toList/\P=λ i v=>∃e,l[i]?=some e/\e.2=v
theorem FQ {Q:Z0}(hh:A.handled=none)(S:dX knd s.heap a ks o es ep t)
  (q:∀(I:Addr) (h':Heap) (d:_) (fp:List Addr) (P:Nat->Value->Prop) (St:Nat->Heap->Prop),(∀b o,s.heap.get? b=some o->h'.get? b=some o)->s.heap.objs.size<=I->(∀b∈fp,b<h'.objs.size)->(∀b,h'.objs.size<=b->b∉fp) ->
   (∀b∈fp,b=a\/s.heap.objs.size<=b)->Comes es P->(∀A:Around,A.handled=none->Walks prog w A I fp [I] es.size P St)->St 0 h'->Q (.ref I) { s with heap:=h',drawn:=d }) :
  wpAny (model prog w) A (pyIter (.ref a)) Q E s:=by
 have B:a<s.heap.objs.size:=L0 S.at_;refine wpAny_pyIter_slot S.typeIs PySem.F.slot_set_iter (OE PySem.F.slot_set_iter S.typeIs Cf ?_ (PySem.F.args_set_iter_1 _));unfold Builtin.«frozenset.__iter__»;refine Oz ?_;unfold Builtin.Frozenset.slot0;refine Oz (OA ?_);refine OA ?_;refine Oz ?_;unfold Builtin.Frozenset.sizeOf;refine Oz (OX S.at_ S.data S.fits (OA ?_));refine Oz (zW S ?_);cases hb:w.params.followText "set-order" with
 | true =>
  rw[Bool.not_true,NR,if_neg Mv];refine Oz (OA ?_);refine Oz (Pb S.at_ S.data S.fits ?_);refine Oz ?_;simp only[newFields];refine OD (OA ⟨_,rfl, "set_iterator",_,⟨_,L7 _ rfl,rfl⟩,slot_next.lookup,?_⟩) (by size_fits);refine q _ _ s.drawn [s.heap.objs.size,a] _ _ (λ b o e=>L3 _ e) (LW _) (λ b hb=>?_) (λ b hb hm=>?_) (λ b hb=>?_) ⟨_,kU (w.params.setOrder a ep) es,?_⟩ (λ A hh=>JS (knd:=knd) (ks:=ks) (o:=o) (t:=t) hh (L5 B) hb trivial) ⟨⟨_,L7 _ rfl,rfl,rfl⟩,S.keep λ o e=>L3 _ e⟩
  ·rw[Ml]
   rcases qM hb with e | e
   ·rw[e];exact MG _
   ·rw[e];exact ME B
  ·rw[Ml] at hb
   rcases qM hm with e | e
   ·rw[e] at hb;exact NZ _ hb
   ·rw[e] at hb;exact Mq _ (Mo B (NN hb))
  ·rcases qM hb with e | e
   ·exact .inr (by rw[e];exact LW _)
   ·exact .inl e
  ·funext i v;simp
 | false =>
  rw[Bool.not_false,N0];by_cases hd:(!t.plain&&decide (es.size > 1))=true
  ·rw[hd,if_pos rfl];refine Oz (Kx es.size (L1 es.size) s (by simp) λ ys d hp=>?_);have hz:(ys.map λ (i:Nat)=>rawInt i).length<=sizeLine:=by rw[LU,hp.length_eq,Nt];exact fits_of_scanBound S.er
   refine Oz (wpAny_newTuple ?_ hz);have D:dX knd (s.heap.push { cls:=.type "tuple",data:=.seq (ys.map λ (i:Nat)=>rawInt i).toArray }) a ks o es ep t:=S.keep λ o e=>L3 _ e
   refine Oz (Pb D.at_ D.data D.fits ?_);refine Oz ?_;simp only[newFields];refine OD (OA ⟨_,rfl, "set_iterator",_,⟨_,L7 _ rfl,rfl⟩,slot_next.lookup,?_⟩) (by size_fits);refine q _ _ d [(s.heap.push { cls:=.type "tuple",data:=.seq (ys.map λ (i:Nat)=>rawInt i).toArray }).objs.size,a,s.heap.objs.size] _ _ (λ b o e=>L3 _ (L3 _ e)) (by rw[Ml];exact MJ _) (λ b hb=>?_) (λ b hb hm=>?_) (λ b hb=>?_) ⟨ys.filterMap λ k=>es[k]?,?_,rfl⟩
    (λ A hh=>JU (knd:=knd) (ks:=ks) (o:=o) (t:=t) (oT:={ cls:=.type "tuple",data:=.seq (ys.map λ (i:Nat)=>rawInt i).toArray }) hh (by rw[Ml];exact L5 (ME B)) (by rw[Ml];exact L5 (MG _)) rfl hp) ⟨⟨_,L7 _ rfl,rfl,rfl⟩,D.keep λ o e=>L3 _ e,L3 _ (L7 _ rfl)⟩
   ·rw[Ml,Ml]
    rcases FP hb with e | e | e
    ·rw[e,Ml];exact MG _
    ·rw[e];exact ME (ME B)
    ·rw[e];exact ME (MG _)
   ·rw[Ml,Ml] at hb
    rcases FP hm with e | e | e
    ·rw[e,Ml] at hb;exact NZ _ hb
    ·rw[e] at hb;exact Mq _ (Mo B (NN (NN hb)))
    ·rw[e] at hb;exact NZ _ (NN hb)
   ·rcases FP hb with e | e | e
    ·exact .inr (by rw[e,Ml];exact MJ _)
    ·exact .inl e
    ·exact .inr (by rw[e];exact LW _)
   ·refine (hp.filterMap _).trans ?_;have:((L1 es.size).filterMap λ k=>es[k]?)=es.toList:=by
     refine N5 λ i=>?_
     rw[tT (λ k J=>MI.mp J)];by_cases hi:i<es.size
     ·rw[Ot hi];simp
     ·rw[Na (by simp;omega),Na (by simp;omega)];rfl
    rw[this]
  ·rw[if_neg hd];refine Oz (OA ?_);refine Oz (Pb S.at_ S.data S.fits ?_);refine Oz ?_;simp only[newFields];refine OD (OA ⟨_,rfl, "set_iterator",_,⟨_,L7 _ rfl,rfl⟩,slot_next.lookup,?_⟩) (by size_fits);have G:t.plain=true\/es.size<=1:=by
    cases hp:t.plain with
    | true=>exact .inl rfl
    | false=>right;rw[hp] at hd;simp at hd;exact hd
   refine q _ _ s.drawn [s.heap.objs.size,a] _ _ (λ b o e=>L3 _ e) (LW _) (λ b hb=>?_) (λ b hb hm=>?_) (λ b hb=>?_) ⟨es.toList,.refl _,?_⟩ (λ A hh=>JT (knd:=knd) (ks:=ks) (o:=o) (t:=t) hh (L5 B) hb G S.fits S.up) ⟨⟨_,L7 _ rfl,rfl,rfl⟩,S.keep λ o e=>L3 _ e⟩
   ·rw[Ml]
    rcases qM hb with e | e
    ·rw[e];exact MG _
    ·rw[e];exact ME B
   ·rw[Ml] at hb
    rcases qM hm with e | e
    ·rw[e] at hb;exact NZ _ hb
    ·rw[e] at hb;exact Mq _ (Mo B (NN hb))
   ·rcases qM hb with e | e
    ·exact .inr (by rw[e];exact LW _)
    ·exact .inl e
   ·funext i v;simp
theorem FR {Q:Bool->Shared->Prop} (G:s.TypeIs (.ref a) "set") (q:Q false s):wpAny (model prog w) A (Builtin.List.listLengthHint (.ref a)) Q E s:=by
 unfold Builtin.List.listLengthHint;refine Oz (wpAny_specialOf G PySem.F.slot_set_len.lookup ?_);generalize D:("set.__len__" : String)=id0
 wp_delta
 rw[show splitId id0=some ("set", "__len__") from by subst D;decide];subst D;refine Oz (OW (T := "set") (b:=true) G sub_set_self ?_);refine O3 (λ B=>absurd B ⋯) (λ _=>?_);refine O3 (λ _=>?_) (λ B=>absurd ⋯ B);refine Oz (ON G ?_);exact OA q
end
open PySem.Calls PySem.W
section
variable {prog:Program}{w:World}{K:Type}[DecidableEq K]{knd:KeyKind prog w K}
variable {A:Around}{E:Z0}{s:Shared}{a:Addr}{ks:List K}{o:Obj}{es:Array (Int×Value)}{ep:Nat}{t:SetTable}
theorem zX {P:Nat->Value->Prop}{B:Array Value}(G:Comes es P)(hi:ItemsOf P B es.size):∃l:List (Int×Value),l.Perm es.toList/\B.toList=l.map (·.2):=by
 obtain⟨l,hp,rfl⟩:=G;exists l,hp;have Y:l.length=es.size:=by rw[hp.length_eq,MD]
 refine N5 λ i=>?_
 rw[L6];by_cases h:i<es.size
 ·have D:B.toList[i]?=some (B[i]'(by rw[hi.1];exact h)):=by simp[hi.1,h]
  obtain⟨e,N,J⟩:=hi.2 i _ (by rw[<-NH];exact D);rw[D,N,<-J];rfl
 ·rw[Na (by rw[MD,hi.1];omega),Na ⋯];rfl
theorem Cg {R:Result->Shared->Prop}(hh:A.handled=none)(S:dX knd s.heap a ks o es ep t)(L:Addr)(a0:L≠a)(hL:s.heap.get? L=some { cls:=.type "list",data:=.seq #[] 0 })(res:Value)
  (J:∀(g:Heap) (tk:Nat) (d:_) (B:Array Value) (c:Nat),(∀b o,b≠L->s.heap.get? b=some o->g.get? b=some o)->g.get? L=some { cls:=.type "list",dict:=none,data:=.seq B c,slots:=#[] } ->
   (∃l:List (Int×Value),l.Perm es.toList/\B.toList=l.map (·.2))->R (.ok (.ret res)) { s with heap:=g,toks:=tk,drawn:=d }) :
  wpAny (model prog w) A.in1 (Builtin.List.listExtendWith (.ref L) (.ref a) res)
   (λ J Y=>match J with | .done f=>R (.ok f) Y | .again c'=>c'.quiet=true/\codeAny (model prog w) A c' R Y) (λ e Y=>R (.error e) Y) s:=by
 have hz:es.size<=sizeLine:=fits_of_scanBound S.er;unfold Builtin.List.listExtendWith;refine Oz (ON S.typeIs ?_);have h1:Builtin.List.listSameRef (.ref L) (.ref a)=false:=by simp[Builtin.List.listSameRef,a0]
 rw[h1];have h2:(Value.type "set" == Value.type "list")=false:=by decide
 have h3:(Value.type "set" == Value.type "tuple")=false:=by decide
 rw[h2,h3];rw[if_neg ⋯];refine Oz (FQ (A:=A.in1) hh S λ I h1 d fp P St keep hI a8 a7 a4 hc W st=>?_);have D:L<s.heap.objs.size:=L0 hL;have a1:L∉fp:=λ hm=>by
  rcases a4 L hm with e | e
  ·exact a0 e
  ·exact Mq _ (Mo D e)
 have a9:L≠I:=λ e=>Mq _ (Mo D (e ▸ hI))
 have Wk:=W A.in1 hh;have G:∀(g:Heap) (c tk:Nat),St 0 g->(∀b o,b≠L->s.heap.get? b=some o->g.get? b=some o)->g.get? L=some { cls:=.type "list",data:=.seq #[] c } ->
   codeAny (model prog w) A (.builtin "list.extend.loop" ⟨[.ref L,.ref I,res],[]⟩) R { s with heap:=g,toks:=tk,drawn:=d }:=by
  intro g c tk a5 kp gL;refine codeAny_extend_loopS Wk.toS hz L a1 res es.size 0 _ #[] c rfl (Me _) a5 gL (ItemsOf.nil _) λ Y B c' mv a6 its=>?_
  have e:=Moved.eq_with mv;rw[e];refine J Y.heap Y.toks d B c' (λ b o hb e=>mv.heap b o (λ hm=>?_) (kp b o hb e)) a6 (zX hc its)
  rcases LZ.mp hm with e' | hm
  ·exact hb e'
  ·rw[LX] at hm;subst hm;exact Mq _ (Mo (L0 e) hI)
 have N:=keep _ _ hL;refine Oz (OC (FR ⟨o,keep _ _ S.at_,S.ex.1⟩ ?_));refine O3 (λ _=>?_) (λ _=>OA ⟨plainId_quiet PySem.F.plain_extend_loop _,G _ 0 _ st (λ b o _ e=>keep b o e) N⟩);refine Oz (OI ?_);refine Oz ?_;show wpAny _ _ (updateSeq L (·.push .none) >>= λ _=>updateSeq L (·.pop)) _ _ _;refine Oz (wpAny_updateSeq N rfl ?_);have Z:=MX (Obj.mapSeq (·.push Value.none)) N rfl;refine wpAny_updateSeq (hz:=by seq_fits) Z rfl ?_;have a3:=MX (Obj.mapSeq (·.pop)) Z rfl;refine OA ⟨plainId_quiet PySem.F.plain_extend_loop _,G _ _ _ ?_ (λ b o hb e=>?_) a3⟩
 ·refine Wk.frame 0 _ _ st λ b hb o e=>?_
  have a2:b≠L:=λ h=>a1 (h ▸ hb)
  exact (MY _ _ (Ne.symm a2)).trans ((MY _ _ (Ne.symm a2)).trans e)
 ·exact (MY _ _ (Ne.symm hb)).trans ((MY _ _ (Ne.symm hb)).trans (keep b o e))
theorem uW {G:List Value->Shared->Prop}(calm:A.handled=none)(S:dX knd s.heap a ks o es ep t)
  (J:∀(g:Heap) (D:Nat) (d:_) (B:Array Value),(∀b o,s.heap.get? b=some o->g.get? b=some o)->(∃l:List (Int×Value),l.Perm es.toList/\B.toList=l.map (·.2))->s.heap.objs.size<=g.objs.size->G B.toList { s with heap:=g,toks:=D,drawn:=d }) :
  wpAny (model prog w) A (collect (.ref a)) G E s:=by
 have Z:a<s.heap.objs.size:=L0 S.at_;unfold collect;refine Oz (O0 (OG entry_proto_collect' ?_));rw[MS PySem.F.plain_proto_collect _];show wpAny _ A.in1 (newList [] >>= λ z=>again (.builtin "list.__iadd__" ⟨[z,.ref a],[]⟩)) _ _ s;refine Oz (OD (OA ⟨plainId_quiet PySem.F.plain_list_iadd _,OG entry_list_iadd' ?_⟩));rw[MS PySem.F.plain_list_iadd _];show wpAny _ A.in1 (Builtin.List.listExtendWith (.ref s.heap.objs.size) (.ref a) (.ref s.heap.objs.size)) _ _ _;have made:(s.heap.push { cls:=.type "list",data:=.seq ([]:List Value).toArray }).get? s.heap.objs.size=some { cls:=.type "list",data:=.seq #[] 0 }:=L7 _ rfl;have run:=Cg (A:=A) (s:={ s with heap:=s.heap.push { cls:=.type "list",data:=.seq ([]:List Value).toArray } })
  (R:=λ (z:Result) (t:Shared)=>∃(g:Heap) (D:Nat) (d:_) (B:Array Value) (c:Nat),z=.ok (.ret (.ref s.heap.objs.size))/\t={ s with heap:=g,toks:=D,drawn:=d } /\
   (∀b o,s.heap.get? b=some o->g.get? b=some o)/\g.get? s.heap.objs.size=some { cls:=.type "list",dict:=none,data:=.seq B c,slots:=#[] }/\∃l:List (Int×Value),l.Perm es.toList/\B.toList=l.map (·.2))
  calm (S.keep λ o e=>L3 _ e) s.heap.objs.size (ML Z) made (.ref s.heap.objs.size)
  (λ g D d B c kept at_ its=>⟨g,D,d,B,c,rfl,rfl,λ b o e=>kept b o (L5 (L0 e)) (L3 _ e),at_,its⟩)
 refine OB run (λ z t x=>?_) λ z t ⟨_,_,_,_,_,N,_⟩=>by cases N
 cases z with
 | done f =>
  obtain⟨g,D,d,B,c,e,rfl,kept,at_,its⟩:=x;cases e;show wpAny _ A (load s.heap.objs.size >>= _) _ _ _;exact Oz (OT at_ (OA (J g D d B kept its (Mr (L0 at_)))))
 | again more =>
  refine⟨x.1,OJ x.2 λ z' t' ⟨g,D,d,B,c,Y,e2,kept,at_,its⟩=>?_⟩;subst Y e2;show wpAny _ A (load s.heap.objs.size >>= _) _ _ _;exact Oz (OT at_ (OA (J g D d B kept its (Mr (L0 at_)))))
end
end LS
namespace L2
open PySem PySem.Spec PyProof.Rows LS
variable {m ks:List Key}{P:Program}{w:World}{a:Addr}{Q:Z0}
theorem zY {i:Int}{v:Value}(h:(dm P w).is (Sum.inl i) v=true):∃t,v=.int i t:=by
 rcases fO (show lJ (Sum.inl i) v=true from h) with ⟨j,t,e,rfl⟩ | ⟨x,t,e,rfl⟩
 ·cases e;exact⟨t,rfl⟩
 ·cases e
def uX (m:List Key):List Str:=m.filterMap λ k=>match k with | .inr x=>some x | .inl _=>none
def uY (m:List Key):List Int:=m.filterMap λ k=>match k with | .inl x=>some x | .inr _=>none
theorem DT (B:List Str):uX (B.map Sum.inr)=B:=by
 induction B with
 | nil=>rfl
 | cons x B ih=>show x::uX (B.map Sum.inr)=x::B;rw[ih]
theorem DU (B:List Int):uY (B.map Sum.inl)=B:=by
 induction B with
 | nil=>rfl
 | cons x B ih=>show x::uY (B.map Sum.inl)=x::B;rw[ih]
theorem FT {D:List Str}(p:m.Perm (D.map Sum.inr)):m=(uX m).map Sum.inr/\(uX m).Perm D:=by
 refine⟨?_,by have:=p.filterMap (λ k:Key=>match k with | .inr x=>some x | .inl _=>none);rw[show List.filterMap _ (D.map Sum.inr)=D from DT D] at this;exact this⟩;have B:∀k∈m,∃x,k=Sum.inr x:=λ k G=>by
  obtain⟨x,_,rfl⟩:=Mb.mp (p.mem_iff.mp G);exact⟨x,rfl⟩
 clear p
 induction m with
 | nil=>rfl
 | cons k m ih =>
  obtain⟨x,rfl⟩:=B k (L9 ..);have:=ih λ k G=>B k (Mc _ G)
  show Sum.inr x::m=Sum.inr x::(uX m).map Sum.inr;rw[<-this]
theorem FU {D:List Int}(p:m.Perm (D.map Sum.inl)):m=(uY m).map Sum.inl/\(uY m).Perm D:=by
 refine⟨?_,by have:=p.filterMap (λ k:Key=>match k with | .inl x=>some x | .inr _=>none);rw[show List.filterMap _ (D.map Sum.inl)=D from DU D] at this;exact this⟩;have B:∀k∈m,∃x,k=Sum.inl x:=λ k G=>by
  obtain⟨x,_,rfl⟩:=Mb.mp (p.mem_iff.mp G);exact⟨x,rfl⟩
 clear p
 induction m with
 | nil=>rfl
 | cons k m ih =>
  obtain⟨x,rfl⟩:=B k (L9 ..);have:=ih λ k G=>B k (Mc _ G)
  show Sum.inl x::m=Sum.inl x::(uY m).map Sum.inl;rw[<-this]
section
variable {prog:Program}{w:World}{A:Around}{E:Z0}{s:Shared}{a:Addr}{ks:List Key}{o:Obj}{es:Array (Int×Value)}{ep:Nat}{t:SetTable}
theorem zb {B:List Value}(S:LS.dX (dm prog w) s.heap a ks o es ep t)(h:∃l:List (Int×Value),l.Perm es.toList/\B=l.map (·.2)):∃m:List Key,m.Perm ks/\Paired (λ v k=>(dm prog w).is k v=true) B m:=by
 obtain⟨l,hp,rfl⟩:=h;obtain⟨ls,q1,q2⟩:=S.ents;obtain⟨m,D,G⟩:=nW hp q2;exists m,D.trans q1;clear hp q2 D
 induction G with
 | nil=>exact .nil
 | cons r _ ih=>exact .cons r.1 ih
theorem qN:∀{got:List Value} {ss:List Str},Paired (λ v k=>(dm prog w).is k v=true) got (ss.map Sum.inr)->StrsAre got ss
 | _,[],.nil=>.nil
 | _,x::ss,.cons r t=>by
  obtain⟨t',rfl⟩:=sY r;exact .cons x t' (qN t)
theorem qO:∀{got:List Value} {ss:List Int},Paired (λ v k=>(dm prog w).is k v=true) got (ss.map Sum.inl)->IntsAre got ss
 | _,[],.nil=>.nil
 | _,x::ss,.cons r t=>by
  obtain⟨t',rfl⟩:=zY r;exact .cons x t' (qO t)
theorem zZ {ss:List Str}(hh:A.handled=none)(S:LS.dX (dm prog w) s.heap a (ss.map Sum.inr) o es ep t)(a0:ss.length<64)
  (q:∀(h':Heap) (tk:Nat) (d:_) (D:Addr) (out:Array Value) (B:List Str) (e:Nat),(∀b o,s.heap.get? b=some o->h'.get? b=some o)->s.heap.objs.size<=D->h'.get? D=some { cls:=.type "list",data:=.seq out e } ->
   StrsAre out.toList B->B.Perm ss->sortedS B=true->Q (.ref D) { s with heap:=h',toks:=tk,drawn:=d }) :
  wpAny (model prog w) A (call (.builtin "sorted") [.ref a]) Q E s:=by
 refine Calls.call_function_entry kind_sorted plain_sorted entry_sorted (args_sorted1 _) ?_;unfold Builtin.«sorted»;refine Oz (m:=checkCount "sorted" 1 1 _) (OA ?_);refine Oz (uW (A:=A.in1) hh S λ h' tk d acc G N hsz=>?_);obtain⟨m,m1,m2⟩:=zb S N;obtain⟨e1,p1⟩:=FT m1;rw[e1] at m2;have Z:=qN m2;have hl:acc.toList.length<64:=by rw[m2.length,LU,p1.length_eq];exact a0
 refine Oz (wpAny_newList ?_ (Ma (Mr hl) ⋯));have J:(h'.push (seqObj "list" acc.toList.toArray 0)).get? h'.objs.size=some (seqObj "list" acc.toList.toArray 0):=L7 _ rfl;refine Oz (OC (OE slot_list_sort ⟨_,J,rfl⟩ entry_list_sort (list_sort_treeK strKind_oneLt J Z.keysOf (λ a5 a4 rest e=>keyKind_strs (by rw[<-e];exact Z)) hl λ a3 a1 a2=>⟨_,rfl,?_⟩) (args_list_sort _)));obtain⟨B,b1,b2,b3⟩:=sorted_out_str Z a1 a2;obtain⟨e,he⟩:=sortedHeap_at (out:=(arrOf a3).map (·.2)) J;refine OA ⟨_,rfl,q _ tk d _ _ B e (λ b o ho=>?_) hsz he b1 (b2.trans p1) b3⟩;have h1:=G b o ho;have Y:=L0 h1;rw[sortedHeap_old (L5 Y) (by rw[size_push'];exact ME Y)];exact L3 _ h1
theorem z3 {ss:List Int}(hh:A.handled=none)(S:LS.dX (dm prog w) s.heap a (ss.map Sum.inl) o es ep t)(Z:ss.length<64)
  (q:∀(h':Heap) (tk:Nat) (d:_) (D:Addr) (out:Array Value) (B:List Int) (e:Nat),(∀b o,s.heap.get? b=some o->h'.get? b=some o)->s.heap.objs.size<=D->h'.get? D=some { cls:=.type "list",data:=.seq out e } ->
   IntsAre out.toList B->B.Perm ss->B.Pairwise (· <= ·)->Q (.ref D) { s with heap:=h',toks:=tk,drawn:=d }) :
  wpAny (model prog w) A (call (.builtin "sorted") [.ref a]) Q E s:=by
 refine Calls.call_function_entry kind_sorted plain_sorted entry_sorted (args_sorted1 _) ?_;unfold Builtin.«sorted»;refine Oz (m:=checkCount "sorted" 1 1 _) (OA ?_);refine Oz (uW (A:=A.in1) hh S λ h' tk d acc G Y hsz=>?_);obtain⟨m,m1,m2⟩:=zb S Y;obtain⟨e1,p1⟩:=FU m1;rw[e1] at m2;have hS:=qO m2;have hl:acc.toList.length<64:=by rw[m2.length,LU,p1.length_eq];exact Z
 refine Oz (wpAny_newList ?_ (Ma (Mr hl) ⋯));have J:(h'.push (seqObj "list" acc.toList.toArray 0)).get? h'.objs.size=some (seqObj "list" acc.toList.toArray 0):=L7 _ rfl;refine Oz (OC (OE slot_list_sort ⟨_,J,rfl⟩ entry_list_sort (list_sort_tree J hS hl λ out B b1 b2 b3=>⟨_,rfl,?_⟩) (args_list_sort _)));obtain⟨e,he⟩:=sortedHeap_at (out:=out) J;refine OA ⟨_,rfl,q _ tk d _ _ B e (λ b o ho=>?_) hsz he b1 (b2.trans p1) b3⟩;have h1:=G b o ho;have N:=L0 h1;rw[sortedHeap_old (L5 N) (by rw[size_push'];exact ME N)];exact L3 _ h1
end
def fJ (P:Program)(w:World)(a:Addr)(ks:List Key):HO:=.ext λ h=>iy (dm P w) h a ks
theorem oO {H:Hp}{h:Heap}(S:iy (dm P w) h a ks):ff P w H h a (fJ P w a ks) :=
 ⟨S,let ⟨o,_,_,_,S⟩:=S;⟨o,S.at_⟩,λ D B S k=>S.keep k⟩
section
variable {X:Cx}{pins:Z1}{LQ : List (Option V)}{H:Hp}{s:Shared}
theorem Inv.vY (I:Inv X pins LQ H s)(h:H a=some (fJ X.prog X.w a ks)):iy (dm X.prog X.w) s.heap a ks:=(I.de a _ h).1
theorem Inv.AO {d:_}(I:Inv X pins LQ H s):Inv X pins LQ H { s with drawn:=d }:=⟨I.ok,I.os,I.bare,I.base,I.loc,I.cell,I.free,I.jy,I.pin,I.de,I.len⟩
theorem xW (hc:X.calm=true):il X (.builtin "sorted") (λ vs H Q=>∃(a:Addr) (N:List Str),vs=[.ref a]/\H a=some (fJ X.prog X.w a (N.map Sum.inr))/\N.length<64 /\
  ∀(l:Addr) (B:List Str),B.Perm N->sortedS B=true->H l=none->Q (.ref l) (upd H l (.lst (B.map V.str)))):=by
 intro pins s LQ H xs us Q I r h;obtain⟨a,N,rfl,Z,J,q⟩:=h;obtain⟨u,rfl,ru⟩:=vals1 r;cases (show u=Value.ref a from ru);obtain⟨o,es,ep,t,S⟩:=I.vY Z;refine zZ (I.ok.hd hc) S J λ h' tk d D out B e G Y he hS hp hs=>?_
 have hv:Vals (B.map V.str) out.toList:=vU hS;refine⟨.ref D,_,(I.AO (d:=d)).laid (t':=tk) (o:=.lst (B.map V.str)) G Y (show ff X.prog X.w _ h' _ (.lst (B.map V.str)) from ⟨?_,out.toList,e,hv,by simpa using he⟩),rfl,q D B hp hs (I.de.fresh Y)⟩;rw[LU,hp.length_eq];exact Ma (Mr J) ⋯
theorem p9 (hc:X.calm=true):il X (.builtin "sorted") (λ vs H Q=>∃(a:Addr) (N:List Int),vs=[.ref a]/\H a=some (fJ X.prog X.w a (N.map Sum.inl))/\N.length<64 /\
  ∀(l:Addr) (B:List Int),B.Perm N->B.Pairwise (· <= ·)->H l=none->Q (.ref l) (upd H l (.lst (B.map V.int)))):=by
 intro pins s LQ H xs us Q I r h;obtain⟨a,N,rfl,Z,J,q⟩:=h;obtain⟨u,rfl,ru⟩:=vals1 r;cases (show u=Value.ref a from ru);obtain⟨o,es,ep,t,S⟩:=I.vY Z;refine z3 (I.ok.hd hc) S J λ h' tk d D out B e G Y he hS hp hs=>?_
 have hv:Vals (B.map V.int) out.toList:=lR hS;refine⟨.ref D,_,(I.AO (d:=d)).laid (t':=tk) (o:=.lst (B.map V.int)) G Y (show ff X.prog X.w _ h' _ (.lst (B.map V.int)) from ⟨?_,out.toList,e,hv,by simpa using he⟩),rfl,q D B hp hs (I.de.fresh Y)⟩;rw[LU,hp.length_eq];exact Ma (Mr J) ⋯
end
end L2
namespace LS
open PySem PySem.Spec PyProof.Rows L2
variable {v:Value}{ks:List Key}{Q:Z0}{a:Addr}
section
variable {K:Type}[DecidableEq K]
def putIn (acc:List K)(k:K):List K:=if k∈acc then acc else acc++[k]
def gS (ms:List K):List K:=ms.foldl putIn []
theorem jq {acc:List K}{k x:K}:x∈putIn acc k↔x∈acc\/x=k:=by
 unfold putIn;split
 ·rename_i h
  exact⟨.inl,λ z=>z.elim id (λ e=>e ▸ h)⟩
 ·simp
theorem DV (acc:List K)(k:K):(putIn acc k).length<=acc.length+1:=by unfold putIn;split<;>simp
theorem tU:∀(ms acc:List K) (x:K),x∈ms.foldl putIn acc↔x∈acc\/x∈ms
 | [],acc,x=>by simp
 | k::ms,acc,x=>by
  rw[Nn,tU ms,jq];simp[or_assoc]
theorem xl {ms:List K}{x:K}:x∈gS ms↔x∈ms:=by unfold gS;rw[tU];simp
theorem zc:∀(ms acc:List K),(ms.foldl putIn acc).length<=acc.length+ms.length
 | [],acc=>by simp
 | k::ms,acc=>by
  rw[Nn];have:=zc ms (putIn acc k);have:=DV acc k;simp only[Ms];omega
theorem vZ:∀(ms acc:List K),acc.Nodup->(ms.foldl putIn acc).Nodup
 | [],acc,h=>h
 | k::ms,acc,h=>by
  rw[Nn];refine vZ ms _ ?_;unfold putIn;split
  ·exact h
  ·rename_i hn
   rw[Nq];exact⟨h,by simp,λ a B b hb e=>hn (by rw[LX] at hb;rw[<-hb,<-e];exact B)⟩
theorem zd (ms:List K):(gS ms).Nodup:=vZ ms [] Nr
end
section
variable {prog:Program}{w:World}{A:Around}{E:Z0}{s:Shared}
theorem ze {k:Key}(h:(dm prog w).is k v=true):v.scannable=true:=by
 rcases fO (show lJ k v=true from h) with ⟨j,t,_,rfl⟩ | ⟨x,t,_,rfl⟩<;>rfl
theorem v5 {k:Key}{Q:Bool->Shared->Prop}(B:(dm prog w).is k v=true)(S:iy (dm prog w) s.heap a ks)(room:ks.length+1<scanBound)
  (q:∀h',Mx a s.heap h'->iy (dm prog w) h' a (putIn ks k)->∀c:Bool,Q c { s with heap:=h',toks:=s.toks+1 }):wpAny (model prog w) A (setAdd a v) Q E s:=by
 unfold setAdd;refine OC ?_;refine Oz ((dm prog w).pyHash B ?_);exact Cd (s:={ s with toks:=s.toks+1 }) B (ze B) S room λ h' b S'=>q h' b S' _
theorem FW {k:Key}(B:(dm prog w).is k v=true)(S:iy (dm prog w) s.heap a ks)(room:ks.length+1<scanBound)
  (q:∀h',Mx a s.heap h'->iy (dm prog w) h' a (putIn ks k)->Q .none { s with heap:=h',toks:=s.toks+1 }):wpAny (model prog w) A (call (.builtin "set.add") [.ref a,v]) Q E s:=by
 refine OE PySem.F.slot_set_add S.setOf.typeIs PySem.F.entry_set_add ?_ (PySem.F.args_set_add_2 _ _);unfold Builtin.«set.add» Builtin.Frozenset.oneOther;simp only[List.isEmpty_nil,bind_assoc];unfold Builtin.Frozenset.addrOf;refine Oz (OA ?_);refine Oz (OA ?_);refine Oz (v5 B S room λ h' b S' _=>?_);exact OA ⟨_,rfl,q h' b S'⟩
theorem DX {I L:Addr}{fp wr:List Addr}{G:Array GenState->Array GenState->Prop}{n:Nat}{P:Nat->Value->Prop}{St:Nat->Shared->Prop}{R:Result->Shared->Prop}(W:WalksS prog w A.in1 I fp wr G n P St)(N:L∉fp)
  (ms:List Key) (hl:ms.length=n) (hm:∀i v,P i v->∃k,ms[i]?=some k/\(dm prog w).is k v=true) (hb:n+1<scanBound) :
  ∀(k i:Nat) (s:Shared),n-i=k->i<=n->St i s->iy (dm prog w) s.heap L (gS (ms.take i)) ->
   (∀B,Moved (L::wr) G s B->iy (dm prog w) B.heap L (gS ms)->R (.ok (.ret .none)) B) ->
   codeAny (model prog w) A (.builtin "set.update.loop" ⟨[.ref L,.ref I],[]⟩) R s:=by
 have J:L∉wr:=λ h=>N (W.sub _ h)
 intro k
 induction k with
 | zero =>
  intro i s hk hi st S q;have e:i=n:=by omega
  subst e;refine OG PyProof.Rows.F.entry_set_update_loop ?_;rw[MS PyProof.Rows.F.plain_set_update_loop _];show wpAny _ A.in1 (pyNext (.ref I) >>= _) _ _ s;refine Oz (W.done s _ _ st λ B mv=>?_);refine OA (q B (mv.mono λ b hb=>Mc _ hb) ?_);rw[Oq ⋯] at S;exact S.keep λ o e=>mv.heap L _ J e
 | succ k ih =>
  intro i s hk hi st S q;have Y:i<n:=by omega
  refine OG PyProof.Rows.F.entry_set_update_loop ?_;rw[MS PyProof.Rows.F.plain_set_update_loop _];show wpAny _ A.in1 (pyNext (.ref I) >>= _) _ _ s;refine Oz (W.item i s _ _ Y st λ v B hP a2 mv=>?_);obtain⟨key,D,a0⟩:=hm i v hP;have S':iy (dm prog w) B.heap L (gS (ms.take i)):=S.keep λ o e=>mv.heap L _ J e
  refine Oz (OC (v5 a0 S' ?_ λ h' sb S2 _=>?_))
  ·have h1:=zc (ms.take i) [];have h2:(ms.take i).length<=i:=by rw[Mu];omega
   have h3:(gS (ms.take i)).length<=0+(ms.take i).length:=h1;omega
  ·have e1:putIn (gS (ms.take i)) key=gS (ms.take (i+1)):=by
    unfold gS;rw[Mz,D,NO];rfl
   rw[e1] at S2;refine OA ⟨plainId_quiet PyProof.Rows.F.plain_set_update_loop _,ih (i+1) _ ⋯ Y (W.frame _ B _ _ a2 (MJ _) λ b hb o e=>?_) S2 λ Z a1 S3=>?_⟩
   ·rw[sb.2 b (λ h:b=L=>N (by rw[<-h];exact hb))];exact e
   ·refine q Z (Moved.trans W.gtrans ((mv.mono λ b hb=>Mc _ hb).then_heap (MJ _) λ b o hb e=>?_) a1) S3;rw[sb.2 b (λ h:b=L=>hb (by rw[h];exact L9))];exact e
end
theorem ph {B D:Type}{F:B->D->Prop}:∀{l:List B} {m:List D},Paired F l m->∀{i:Nat} {x:B},l[i]?=some x->∃y,m[i]?=some y/\F x y
 | _,_,.nil,i,x,e=>by simp at e
 | _,_,.cons r _,0,x,e=>by simp at e;subst e;exact⟨_,rfl,r⟩
 | _,_,.cons _ t,i+1,x,e=>by simpa using ph t (i:=i) (x:=x) (by simpa using e)
def fW (w:World):Obj:={ cls:=.type "set",dict:=none,data:=.set #[] 0 (.fresh 0 0 (!(w.params.followText "set-order"))) }
section
variable {prog:Program}{w:World}{A:Around}{E:Z0}{s:Shared}
theorem DY (rest:List Value) (D:checkBuiltinCall "set.__new__" ⟨.type "set" :: rest,[]⟩=pure ()) {Q:Z0} (q:Q (.ref s.heap.objs.size) { s with heap:=s.heap.push (fW w) }) :
  codeAny (model prog w) A (.call (.builtin "set.__new__") ⟨.type "set" :: rest,[]⟩) (wants Q E) s:=by
 refine codeAny_of_tree ?_;show wpAny _ A.in1 (checkBuiltinCall "set.__new__" ⟨.type "set" :: rest,[]⟩ >>= λ _=>again (.builtin "set.__new__" ⟨.type "set" :: rest,[]⟩)) _ _ s;refine Oz (wpAny_of_eq D (OA ⟨plainId_quiet PySem.F.plain_set_new _,OG PySem.F.entry_set_new ?_⟩));rw[MS PySem.F.plain_set_new _];unfold Builtin.«set.__new__» Builtin.Frozenset.newClass;have B:=sub_set_self;obtain⟨hp,g,d,G,os⟩:=s;dsimp only
 wp_walk
 refine O2 (OA ?_);dsimp only;simp only[newObj];refine Oz (OY (OA ?_));exact OA q
theorem zf {rest:List Value}  (a5:checkTypeCall "set" ⟨rest,[]⟩=pure ()) (a1:checkBuiltinCall "set.__new__" ⟨.type "set" :: rest,[]⟩=pure ())
  (a2:∀(M:Model) (A:Around) (E:Z0) (J:Shared) (Q':Unit->Shared->Prop),J.TypeIs (.ref s.heap.objs.size) "set" -> Q' () J->wpAny M A (checkBuiltinCall "set.__init__" ⟨.ref s.heap.objs.size::rest,[]⟩) Q' E J)
  (init:∀(R:Result->Shared->Prop),(∀h' Z,(∀b o,s.heap.get? b=some o->h'.get? b=some o)->Q (.ref s.heap.objs.size) { s with heap:=h',toks:=Z }->R (.ok (.ret .none)) { s with heap:=h',toks:=Z }) ->
   wpAny (model prog w) A.in1.in1 (Builtin.«set.__init__» ⟨.ref s.heap.objs.size::rest,[]⟩) (λ Y J=>match Y with | .done f=>R (.ok f) J | .again c'=>c'.quiet=true/\codeAny (model prog w) A.in1 c' R J) (λ e J=>R (.error e) J)
    { s with heap:=s.heap.push (fW w) }) :
  wpAny (model prog w) A (call (.type "set") rest) Q E s:=by
 obtain⟨c,tl,a4⟩:=PySem.F.called_set.mro;have a0:=PySem.F.called_set.made;have a3:=PySem.F.called_set.sub;refine wpAny_call (codeAny_of_tree ?_);show wpAny _ _ (callAny (.type "set") _) _ _ _;refine OA ⟨Code.quiet_builtin _ ⋯,OG PySem.F.entry_type_call ?_⟩;rw[Around.under_plain (weight_type_call_type "set" rest []) rfl];have h1:=PySem.F.called_set.notType;have h2:=PySem.F.called_set.canCreate
 repeat (any_goals (first | assumption | wp_step))
 refine OJ (DY (w:=w) rest a1 (E:=E) (Q:=λ obj G=>obj=.ref s.heap.objs.size/\G={ s with heap:=s.heap.push (fW w) }) ⟨rfl,rfl⟩) λ r G hr=>?_
 cases r with
 | error e=>exact hr
 | ok fl =>
  cases fl with
  | ret obj =>
   obtain⟨rfl,rfl⟩:=hr;have hS:(s.heap.push (fW w)).get? s.heap.objs.size=some (fW w):=L7 _ rfl;have hT:Shared.TypeIs { s with heap:=s.heap.push (fW w) } (.ref s.heap.objs.size) "set" := ⟨_,hS,rfl⟩;have a6:=PySem.F.called_set.init.lookup;have a7:=PySem.F.called_set.init.bind (.ref s.heap.objs.size)
   repeat (any_goals (first | assumption | wp_step))
   refine OJ (codeAny_call_builtin (R:=wants (λ r D=>r=.none/\Q (.ref s.heap.objs.size) D) E) PySem.F.called_set.init.plain PySem.F.entry_set_init (a2 _ _ _ _ _ hT (init _ λ h' Z _ q=>⟨rfl,q⟩))) λ N D B=>?_
   cases N with
   | error e=>exact B
   | ok fl₂ =>
    cases fl₂ with
    | ret r =>
     obtain⟨rfl,hq⟩:=B
     repeat (any_goals (first | assumption | wp_step))
    | _=>exact B.elim
  | _=>exact hr.elim
theorem DZ (q:∀h',iy (dm prog w) h' s.heap.objs.size []->(∀b o,s.heap.get? b=some o->h'.get? b=some o)->Q (.ref s.heap.objs.size) { s with heap:=h' }):wpAny (model prog w) A (call (.type "set") []) Q E s:=by
 refine zf PySem.F.typeCall_set_0 PySem.F.newCall_set_0 (λ M A E N Y D J=>check_set_init D J) λ R G=>?_
 have B:(s.heap.push (fW w)).get? s.heap.objs.size=some (fW w):=L7 _ rfl;have D:Shared.TypeIs { s with heap:=s.heap.push (fW w) } (.ref s.heap.objs.size) "set" := ⟨_,B,rfl⟩;unfold fW at B D ⊢;unfold Builtin.«set.__init__» noKeywords
 wp_walk
 exact G _ s.toks (λ b o e=>L3 _ e) (q _ (qK rfl B) λ b o e=>L3 _ e)
theorem set_list {l:Addr}{items:Array Value}{ms:List Key}(hh:A.handled=none)(hl:s.heap.IsList l items)(hm:Paired (λ v k=>(dm prog w).is k v=true) items.toList ms)(hb:items.size+1<scanBound)
  (q:∀h' tk,iy (dm prog w) h' s.heap.objs.size (gS ms)->(∀b o,s.heap.get? b=some o->h'.get? b=some o)->Q (.ref s.heap.objs.size) { s with heap:=h',toks:=tk }):wpAny (model prog w) A (call (.type "set") [.ref l]) Q E s:=by
 refine zf (PySem.F.typeCall_set_1 _) (PySem.F.newCall_set_1 _) (λ M A E s' Q' hT q'=>check_set_init_1 hT q') λ R a3=>?_
 have hS:(s.heap.push (fW w)).get? s.heap.objs.size=some (fW w):=L7 _ rfl;have hT:Shared.TypeIs { s with heap:=s.heap.push (fW w) } (.ref s.heap.objs.size) "set" := ⟨_,hS,rfl⟩;have hz:(s.heap.push (fW w)).objs.size=s.heap.objs.size+1:=Ml _ _;obtain⟨ol,N,a0,nl,a2⟩:=id hl;obtain⟨ab,J,a8,B⟩:=ol;simp only at a0 a2;subst a0;subst a2;have D:(s.heap.push (fW w)).get? l=some { cls:=.type "list",dict:=J,data:=.seq items nl,slots:=B }:=L3 _ N;have aa:=PySem.F.sub_list_set;have a9:=PySem.F.sub_list_frozenset;have hne:(Value.type "list" == Value.type "dict")=false:=by decide
 have G:(s.heap.push (fW w)).IsList l items:=⟨_,D,rfl,nl,rfl⟩;have Z:l<s.heap.objs.size:=L0 N;unfold fW at hS hT hz D G ⊢;unfold Builtin.«set.__init__» noKeywords Builtin.Frozenset.updateFrom;generalize a6:pyIter=PI
 wp_walk
 subst a6;refine wpAny_pyIter_list G ?_;refine Oz (O0 ?_);have a4:A.in1.in1.in1.handled=none:=by simp[hh]
 refine DX (L:=s.heap.objs.size) ((Walks.list a4 _ l ?_ items).toS) ?_ ms ?_ (λ i v hv=>?_) hb (items.size-0) 0 _ ⋯ (Me _) ⟨⟨_,L7 _ rfl,rfl,rfl⟩,(G.push _)⟩ ?_ λ s' mv S'=>?_
 ·rw[hz];exact L5 (ME Z)
 ·rw[hz];intro Y
  rcases qM Y with e | e
  ·exact absurd e (L5 (MG _))
  ·exact absurd e (ML Z)
 ·rw[<-hm.length,MD]
 ·have a7:items.toList[i]?=some v:=by rw[NH];exact hv
  exact ph hm a7
 ·exact qK rfl (L3 _ hS)
 ·obtain⟨h',g',d',a1,a5⟩:=s';have eg:g' = s.gens:=mv.gens;have ed:d' = s.drawn:=mv.drawn;have eo:a5=s.os:=mv.os;subst eg;subst ed;subst eo;have kp:∀b o,s.heap.get? b=some o->h'.get? b=some o:=λ b o e=>mv.heap b o (λ hm=>by
   rcases qM hm with e' | e'
   ·exact absurd e' (L5 (L0 e))
   ·rw[hz] at e';exact absurd e' (L5 (ME (L0 e)))) (L3 _ (L3 _ e))
  show wpAny _ _ _ _ _ _;refine OA ?_;exact OA (a3 h' a1 kp (q h' a1 S' kp))
end
end LS
namespace L2
open PySem PySem.Spec PyProof.Rows LS
variable {D:List (Str×Addr)}{ps:List Piece}{xs:List Str}{d:Addr}{m:Nat}
theorem Ea:bootBuiltins "set" = some (.type "set"):=by decide
theorem Ia {K:Type}[DecidableEq K]{k:K}{ks:List K}:decide (k∈ks)=true↔k∈ks:=decide_eq_true_iff
theorem sk {P:Program}{w:World}{k:Key}{v:Value}(r:RelV (kV k) v):(dm P w).is k v=true:=by
 cases k with
 | inl i=>obtain⟨t,rfl⟩:=r;exact sP P w i t
 | inr x=>obtain⟨t,rfl⟩:=r;exact sQ P w x t
theorem tj {P:Program}{w:World}:∀{ks:List Key} {us:List Value},Vals (ks.map kV) us->Paired (λ v k=>(dm P w).is k v=true) us ks
 | [],_,.nil=>.nil
 | k::ks,_,.cons r t=>.cons (sk r) (tj t)
section
variable {X:Cx}
theorem Inv.LJ {B:Z1}{D:List (Option V)}{H:Hp}{s:Shared}{n:Nat}(I:Inv X B D H s):Inv X B D H { s with toks:=n }:=⟨I.ok,I.os,I.bare,I.base,I.loc,I.cell,I.free,I.jy,I.pin,I.de,I.len⟩
theorem Eb:il X (.type "set") (λ vs H Q=>vs=[]/\∀l,H l=none->Q (.ref l) (upd H l (fJ X.prog X.w l []))):=by
 intro B s D H xs us Q I r h;obtain⟨rfl,q⟩:=h;cases r;refine DZ λ h' S kp=>?_
 exact⟨.ref s.heap.objs.size,_,I.laid (t':=s.toks) kp (LW _) (oO S),rfl,q _ I.fresh⟩
theorem Ec (D:X.calm=true):il X (.type "set") (λ vs H Q=>∃(p:Addr) (ks:List Key),vs=[.ref p]/\cN X.K H p (ks.map kV)/\ks.length+1<scanBound/\∀l,H l=none->Q (.ref l) (upd H l (fJ X.prog X.w l (gS ks)))):=by
 intro B s Y H xs us Q I r h;obtain⟨p,ks,rfl,hp,hz,q⟩:=h;obtain⟨u,rfl,G⟩:=vals1 r;cases (show u=Value.ref p from G);obtain⟨its,J,pl,_⟩:=I.list hp;have hm:=tj (P:=X.prog) (w:=X.w) J;refine LS.set_list (I.ok.hd D) pl.isList (by simpa using hm) (by have:=hm.length;simp at this ⊢;omega) λ h' N S kp=>?_
 exact⟨.ref s.heap.objs.size,_,I.laid (t':=N) kp (LW _) (oO S),rfl,q _ I.fresh⟩
inductive Ls (P:Program) (w:World) (neg:Bool) (x:V) (y:V) (H:Hp) (Q:VK):Prop
 | mk (a ks k:_) (_:y=.ref a) (_:H a=some (fJ P w a ks)) (_:x=kV k) (_:∀b:Bool,(b=true↔k∈ks)->Q (.bl (if neg then !b else b)) H)
theorem Ed:iK X (compareOp .NotIn) (Ls X.prog X.w true):=by
 intro D s Y H x y v u Q I J N h;obtain⟨a,ks,k,rfl,G,rfl,q⟩:=h;cases N;have B:(dm X.prog X.w).is k v=true:=sk J;have S:=(I.vY G).setOf;exact wpAny_notInSet_of B (ze B) S ⟨.bl _,H,I.LJ,rfl,q _ Ia⟩
def Lu (P:Program)(w:World)(r:V->List V->Hp->VK->Prop)(to:TE)(t:TA):TE:=λ LQ H Q=>to LQ H λ x H1=>(∃a ks,x=.ref a/\H1 a=some (fJ P w a ks))/\t LQ H1 λ xs H2=>r x xs H2 Q
variable {o e:Expr}{es:List Expr}{to:TE}{t:TA}{name:Str}{apos cpos:Pos}{id:String}{r:V->List V->Hp->VK->Prop}
theorem Ee (slot:Slot "set" name id) (Z:typeOf (.builtin id)=pure (.type "method_descriptor")) (hm:Aw X id r) (ho:PE X o to) (ha:PA X (e::es) t)
  (G:attributeBase o name X.env (eval o X.env)=eval o X.env:=by rfl)
  (Y:((backTo cpos (starEach (e::es) X.env)).all (λ x=>!x.1)&&(backToKw cpos (keywordEach [] X.env)).all (λ x=>x.1.isSome)
   && decide ((e::es).length+([]:List Keyword).length+(if ([]:List Keyword).isEmpty then 0 else 1)<30))=true:=by rfl)
  (J:(apos.endLine == cpos.line)=true:=by rfl) (hs:starEach (e::es) X.env=(false,eval e X.env)::starEach es X.env:=by rfl) (D:(backTo cpos (starEach es X.env)).any (·.1)=false:=by rfl) :
  PE X (.Call (.Attribute o name apos) (e::es) [] cpos) (Lu X.prog X.w r to t):=by
 intro B s LQ H Q I h;refine wpAny_Call_method_late G Y J rfl (dC (ho B s LQ H _ I h) λ v s1 ⟨x,H1,I1,r1,ty,q1⟩=>?_);obtain⟨a,ks,rfl,N⟩:=ty;cases (show v=Value.ref a from r1);have S:=(I1.vY N).setOf;exists "set",id,PySem.F.plainAttrs_set,slot,Z,S.typeIs,S.noDict;have hA:=ha cpos B s1 LQ H1 _ I1 q1;rw[hs] at hA ⊢;refine Calls.callWith_builtin (by show (false||(backTo cpos (starEach es X.env)).any (·.1))=false;rw[D]<;>rfl) (Calls.evalArgs_plain ?_);exact dC hA λ us s2 ⟨vs,H2,I2,r2,q2⟩=>hm B s2 LQ H2 (.ref a) vs (.ref a) us Q I2 rfl r2 q2
inductive Ky (P:Program) (w:World) (x:V) (vs:List V) (H:Hp) (Q:VK):Prop
 | mk (a ks k:_) (_:x=.ref a) (_:vs=[kV k]) (_:H a=some (fJ P w a ks)) (_:ks.length+1<scanBound) (_:Q .eu (upd H a (fJ P w a (putIn ks k))))
theorem AQ:Aw X "set.add" (Ky X.prog X.w):=by
 intro D s LQ H x xs v us Q I J r h;obtain⟨a,ks,k,rfl,rfl,B,hz,q⟩:=h;cases (show v=Value.ref a from J);obtain⟨u,rfl,N⟩:=vals1 r;refine FW (sk N) (I.vY B) hz λ h' b S'=>?_
 refine⟨.eu,_,I.write (t':=s.toks+1) (x:=a) (e:=a) (by rw[B];exact trivial) (.inl rfl) (λ c Y G hu=>b.extBut c Y G hu) ?_ (oO S'),rfl,q⟩;obtain⟨o,_,_,_,Z⟩:=S';exact⟨o,Z.at_⟩
end
structure ym (K:LV) (mg:Z2) (aD d0 d1 d2 d3 d4:Addr):Prop where
 tab:FH K mg "DEED_PARTS" aD [("put",d0),("copy",d1),("add",d2),("read",d3),("tell",d4)]
 q0:KTup K d0 ["name", "number"]
 q1:KTup K d1 ["name", "name"]
 q2:KTup K d2 ["name", "number"]
 q3:KTup K d3 ["name"]
 q4:KTup K d4 ["name"]
def hV:e6->List Str
 | .put x _=>[x]
 | .copy x y=>[x,y]
 | .add x _=>[x]
 | .read x=>[x]
 | .tell x=>[x]
def mW:End->List Str
 | .eM _ x _ _ _=>[x]
 | _=>[]
def pNames (p:Piece):List Str:=p.1.flatMap hV++mW p.2
def eO (ps:List Piece):List Str:=ps.flatMap pNames
def kD:e6->List Str
 | .put ..=>["name", "number"]
 | .copy ..=>["name", "name"]
 | .add ..=>["name", "number"]
 | .read ..=>["name"]
 | .tell ..=>["name"]
def wD:e6->Str
 | .put .. => "put"
 | .copy .. => "copy"
 | .add .. => "add"
 | .read .. => "read"
 | .tell .. => "tell"
theorem Ci (d:e6):∃xs,lM d=.str (wD d)::xs/\xs.length<=1000/\pick "name" xs (kD d)=(hV d).map V.str:=by
 have B:¬("number" : Str) = "name" := by decide
 cases d with
 | put x n=>exact⟨_,rfl,by show 2<=1000;decide,by simp[pick,kD,hV,B]⟩
 | copy x y=>exact⟨_,rfl,by show 2<=1000;decide,by simp[pick,kD,hV]⟩
 | add x n=>exact⟨_,rfl,by show 2<=1000;decide,by simp[pick,kD,hV,B]⟩
 | read x=>exact⟨_,rfl,by show 1<=1000;decide,by simp[pick,kD,hV]⟩
 | tell x=>exact⟨_,rfl,by show 1<=1000;decide,by simp[pick,kD,hV]⟩
theorem Cj (e:End):∃xs,fX e=.str (wE e)::xs/\xs.length<=1000/\pick "name" xs (kE e)=(mW e).map V.str:=by
 have B:¬("piece" : Str) = "name" := by decide
 have D:¬("number" : Str) = "name" := by decide
 cases e with
 | stop=>exact⟨[],rfl,by decide,rfl⟩
 | go p=>exact⟨_,rfl,by show 1<=1000;decide,by simp[pick,kE,mW,B]⟩
 | eM b x n p q=>exact⟨_,rfl,by show 4<=1000;decide,by simp[pick,kE,mW,B,D]⟩
theorem oP {k:Str}:KTD.datumAt k ((k,d)::D)=some d:=by
 show (if decide (k=k)=true then some d else KTD.datumAt k D)=some d;rw[if_pos (decide_eq_true rfl)]
theorem iH {k x:Str}{o:Option Addr}(h:¬k=x)(e:KTD.datumAt k D=o):KTD.datumAt k ((x,d)::D)=o:=by
 show (if decide (k=x)=true then some d else KTD.datumAt k D)=o;rw[if_neg (by rw[decide_eq_false h];decide)];exact e
theorem ym.at_ {K:LV}{mg:Z2}{Y D N d2 B J:Addr}(G:ym K mg Y D N d2 B J)(d:e6) :
  ∃s,KTD.datumAt (wD d) [(("put" : Str),D),("copy",N),("add",d2),("read",B),("tell",J)]=some s/\KTup K s (kD d):=by
 cases d with
 | put x n=>exact⟨D,oP,G.q0⟩
 | copy x y=>exact⟨N,iH (show ¬(("copy" : Str) = "put") by decide) oP,G.q1⟩
 | add x n=>exact⟨d2,iH (show ¬(("add" : Str) = "put") by decide) (iH (show ¬(("add" : Str) = "copy") by decide) oP),G.q2⟩
 | read x=>exact⟨B,iH (show ¬(("read" : Str) = "put") by decide) (iH (show ¬(("read" : Str) = "copy") by decide) (iH (show ¬(("read" : Str) = "add") by decide) oP)),G.q3⟩
 | tell x=>exact⟨J,iH (show ¬(("tell" : Str) = "put") by decide) (iH (show ¬(("tell" : Str) = "copy") by decide) (iH (show ¬(("tell" : Str) = "add") by decide) (iH (show ¬(("tell" : Str) = "read") by decide) oP))),G.q4⟩
theorem FX (acc ys:List Str):(ys.map (Sum.inr:Str->Key)).foldl LS.putIn (acc.map Sum.inr)=(ys.foldl LS.putIn acc).map Sum.inr:=by
 induction ys generalizing acc with
 | nil=>rfl
 | cons y ys ih =>
  rw[Mt,Nn,Nn,<-ih]
  congr 1
  unfold LS.putIn;by_cases h:y∈acc
  ·rw[if_pos h,if_pos (Mb.mpr ⟨y,h,rfl⟩)]
  ·rw[if_neg h,if_neg (λ z=>by obtain⟨x,hx,e⟩:=Mb.mp z;cases e;exact h hx),L4];rfl
theorem Ck (ys:List Str):gS (ys.map (Sum.inr:Str->Key))=(gS ys).map Sum.inr:=FX [] ys
theorem Ic (ys:List Str):(ys.map (Sum.inr:Str->Key)).map kV=ys.map V.str:=by rw[MT];rfl
theorem xm (ok:fi xs m ps):∀x∈eO ps,x∈xs:=λ x hx=>by
 obtain⟨p,hp,hx⟩:=List.mem_flatMap.mp hx
 rcases Mh.mp hx with h | h
 ·obtain⟨d,hd,h⟩:=List.mem_flatMap.mp h;have B:=(ok.jM p hp).2 d hd;cases d with
  | put a n=>rw[LX.mp h];exact B.1
  | copy a b =>
   rcases LZ.mp h with rfl | h
   ·exact B.1
   ·rw[LX.mp h];exact B.2
  | add a n=>rw[LX.mp h];exact B.1
  | read a=>rw[LX.mp h];exact B
  | tell a=>rw[LX.mp h];exact B
 ·have D:=ok.ends p hp;obtain⟨ds,e⟩:=p;cases e with
  | stop=>cases h
  | go q=>cases h
  | eM b a n q r=>rw[LX.mp h];exact D.1
theorem xn {B D:Type}{l:List B}{f:B->List D}{i:Nat}{x:B}(h:l[i]?=some x):(l.take (i+1)).flatMap f=(l.take i).flatMap f++f x:=by
 rw[Mz,h,List.flatMap_append];simp
theorem qb {B D:Type}{l:List B}{f:B->List D}(i:Nat):((l.take i).flatMap f).length<=(l.flatMap f).length:=by
 conv=>rhs;rw[<-Ou i l,List.flatMap_append,LY]
 exact NL _ _
inductive xo  (vs:List V) (H:Hp) (Q:VK) (_:XK):Prop
 | mk (plv:V) (ps:List Piece) (xs:List Str) (m:Nat) (_:vs=[plv]) (_:cW H plv (fq ps)) (_:fi xs m ps) (_:xs.length<64) (_:(eO ps).length<=4000) (_:∀(t:Addr) (ss:List Str) (H':Hp),H' t=some (.tup (ss.map V.str))->ss.Perm (gS (eO ps))->sortedS ss=true->ss.length<64->cy H H'->Q (.ref t) H')
theorem FY (ok:fi xs m ps):(gS (eO ps)).length<=xs.length :=
 sub_len (zd _) λ x hx=>xm ok x (xl.mp hx)
end L2
namespace PySem
theorem xX:typeLookup (.type "tuple") "keys" = pure none:=by rw[typeLookup_type,builtinLookup_eq_fast];kernel_rfl
section
variable {prog:Program}{w:World}{A:Around}{E:Z0}{s:Shared}
theorem xY {a:Addr}{xs:Array Value}{k:Nat}{sl:Z3}{name:Str}{u:Tok}{Q:Z0}(hx:s.heap.get? a=some { cls:=.type "tuple",dict:=none,data:=.seq xs k,slots:=sl })
  (D:typeLookup (.type "tuple") name=pure none) (B:(["__module__", "__name__", "__qualname__", "__doc__", "__annotations__"]:List Str).contains name=false) (calm:A.handled=none) (fits:name.length+100<=sizeLine)
  (J:∀g Y e,Heap.NewExcOf s.heap g e "AttributeError" -> E (.ref e) { s with heap:=g,toks:=Y }):wpAny (model prog w) A (getAttrBy (.ref a) (.str name u) false) Q E s:=by
 obtain⟨hp,gs,Z,Y,os⟩:=s;have N:∀G,(⟨hp,gs,Z,G,os⟩:Shared).TypeIs (.ref a) "tuple" := λ _=>⟨_,hx,rfl⟩
 have f1:=sub_AttributeError;have f3:=F.slot_tuple_getattribute.lookup;have f4:=F.slot_tuple_getattribute.bind (.ref a);have f5:=am_tuple_getattr_none;unfold getAttrBy
 repeat (any_goals (first | exact N _ | assumption | ((with_reducible show wpAny _ _ (call (Value.builtin "tuple.__getattribute__") _ _) _ _ _);refine call_meets F.slot_tuple_getattribute (N _) am_entry_tuple_getattribute (F.args_tuple_getattribute_2 _ _) (meets_getattribute_miss_tuple a xs k sl name _ D B fits) ⟨hx,calm,λ g t e ne=>?_⟩) | wp_step))
 obtain⟨t',u',there⟩:=ne.there;show wpAny _ _ (getattributeRaised _ _ _ _ _ _ _) _ _ _;unfold getattributeRaised
 repeat (any_goals (first | wp_step | assumption))
 exact J g _ e ne.of
theorem uZ {a:Addr}{xs:Array Value}{k:Nat}{sl:Z3}{Q:Option Value->Shared->Prop}(hx:s.heap.get? a=some { cls:=.type "tuple",dict:=none,data:=.seq xs k,slots:=sl })(calm:A.handled=none)
  (D:∀g B,(∀b o,s.heap.get? b=some o->g.get? b=some o)->Q none { s with heap:=g,toks:=B }):wpAny (model prog w) A (getAttr? (.ref a) "keys") Q E s:=by
 unfold getAttr? getAttrBy?;refine Oz (wpAny_mkText ?_);refine Oz (OR ?_);refine xY (s:={ s with toks:=s.toks+1 }) hx xX ⋯ calm ⋯ λ g B e ne=>?_
 obtain⟨ob,vs,N,G,_⟩:=ne.there;have J:({ s with heap:=g,toks:=B }:Shared).TypeIs (.ref e) "AttributeError" := ⟨ob,N,G⟩;refine Oz (OW J sub_AttributeError ?_);exact OA (D g B ne.keeps)
end
end PySem
namespace PySem
theorem oQ:entryFor table "dict.update.loop" = some Builtin.«dict.update.loop»:=entryFor_of_tree (by kernel_rfl)
theorem jD:plainId "dict.update.loop" = true:=by decide
section
variable {prog:Program}{w:World}{K:Type}[DecidableEq K]{knd:KeyKind prog w K}{A:Around}{s:Shared}
def zg (knd:KeyKind prog w K)(h:Heap)(q:Addr)(p:K×Value):Prop:=∃key n sl,h.get? q=some { cls:=.type "tuple",dict:=none,data:=.seq #[key,p.2] n,slots:=sl }/\knd.is p.1 key=true
theorem xZ {E:Z0}{q:Addr}{x y:Value}{n:Nat}{sl:Z3}{Q:List Value->Shared->Prop}(hq:s.heap.get? q=some { cls:=.type "tuple",dict:=none,data:=.seq #[x,y] n,slots:=sl })
  (D:Q [x,y] s):wpAny (model prog w) A (Builtin.Dict.pairItems (.ref q)) Q E s:=by
 have B:s.TypeIs (.ref q) "tuple" := ⟨_,hq,rfl⟩;unfold Builtin.Dict.pairItems;refine Oz (ON B ?_);rw[if_pos ⋯];unfold seqItems?;obtain⟨hp,N,J,G,os⟩:=s
 repeat (any_goals (first | wp_step | assumption))
theorem Cm {E:Z0}{d I Y:Addr}{items:Array Value}{rs:List (K×Value)}{R:Result->Shared->Prop}{h0:Heap}(calm:A.handled=none)(J:d≠I)(a5:d≠Y)(a8:Y≠I)(len:rs.length=items.size)(er:rs.length<=sizeLine)
  (G:∀(i:Nat) (p:K×Value),rs[i]?=some p->∃q,items[i]?=some (.ref q)/\q≠d/\q≠I/\zg knd h0 q p)
  (a4:∀(g:Heap) (B:Nat),g.DictOf knd d (merged [] rs)->(∀b o,b≠d->b≠I->h0.get? b=some o->g.get? b=some o)->R (.ok (.ret .none)) { s with heap:=g,toks:=B }) :
  ∀(m i:Nat) (h:Heap) (B:Nat) (t:Tok),rs.length-i=m->i<=rs.length->h.IsTupleIter I Y i->h.IsTuple Y items->h.DictOf knd d (merged [] (rs.take i))->(∀b o,b≠d->b≠I->h0.get? b=some o->h.get? b=some o) ->
   codeAny (model prog w) A (.builtin "dict.update.loop" ⟨[.ref d,.ref I,.int i t,.none],[]⟩) R { s with heap:=h,toks:=B }:=by
 have W:=Walks.tuple (prog:=prog) (w:=w) (A:=A.in1) calm I Y a8 items;intro m
 induction m with
 | zero =>
  intro i h B t em hi it ta dd kp;have ei:i=rs.length:=by omega
  subst ei;refine OG oQ ?_;rw[MS jD _];show wpAny _ A.in1 (pyNext (.ref I) >>= _) _ _ _;refine Oz (W.done { s with heap:=h,toks:=B } _ _ ⟨by rw[<-len];exact it,ta⟩ λ g a2 kg=>?_);show wpAny _ A.in1 (Builtin.Dict.addKeywords d [] >>= λ _=>ret Value.none) _ _ _;refine Oz (OA ?_);refine OA (a4 g a2 ?_ λ b o N D e=>kg b o (by simpa using D) (kp b o N D e));rw[Mn] at dd;obtain⟨ob,es,ep,ho,rest⟩:=dd;exact⟨ob,es,ep,kg d ob (by simpa using J) ho,rest⟩
 | succ m ih =>
  intro i h B t em hi it ta dd kp;have a3:i<rs.length:=by omega
  have hp:rs[i]?=some rs[i]:=by simp[a3]
  generalize rs[i]=p at hp;obtain⟨q,hq,aa,a6,key,n,sl,a7,Z⟩:=G i p hp;refine OG oQ ?_;rw[MS jD _];show wpAny _ A.in1 (pyNext (.ref I) >>= _) _ _ _;refine Oz (W.item i { s with heap:=h,toks:=B } _ _ ⋯ ⟨it,ta⟩ λ v g a2 hv st kg=>?_);rw[hq] at hv;cases hv;have a0:∀b o,b≠d->b≠I->h0.get? b=some o->g.get? b=some o:=λ b o N D e=>kg b o (by simpa using D) (kp b o N D e)
  refine Oz (OC (Oz (wpAny_tryCatch (xZ (a0 q _ aa a6 a7) ?_))));have a9:g.DictOf knd d (merged [] (rs.take i)):=by
   obtain⟨ob,es,ep,ho,rest⟩:=dd;exact⟨ob,es,ep,kg d ob (by simpa using J) ho,rest⟩
  refine OC (wpAny_dictSet_pairs Z a9 (λ g2 a1 same=>?_) ?_)
  ·refine OA ⟨plainId_quiet jD _,?_⟩;rw[<-merged_take_succ [] rs i p hp] at a1;have k2:∀b o,b≠d->g.get? b=some o->g2.get? b=some o:=λ b o nb e=>(same.2 b nb).trans e
   refine ih (i+1) g2 _ _ ⋯ a3 ?_ ?_ a1 λ b o N D e=>k2 b o N (a0 b o N D e)
   ·exact st.1.at λ o e=>k2 I o J.symm e
   ·exact st.2.at λ o e=>k2 Y o a5.symm e
  ·have e:=merged_length_le ([]:List (K×Value)) (rs.take i);rw[Mu] at e;simp only[NK] at e;omega
open PySem.Calls in
theorem x6 {E:Z0}{B:Addr}{items:Array Value}{na:Nat}{sa:Z3}{rs:List (K×Value)}{Q:Z0}(calm:A.handled=none)
  (hx:s.heap.get? B=some { cls:=.type "tuple",dict:=none,data:=.seq items na,slots:=sa }) (len:rs.length=items.size) (er:rs.length<=sizeLine)
  (J:∀(i:Nat) (p:K×Value),rs[i]?=some p->∃q,items[i]?=some (.ref q)/\zg knd s.heap q p)
  (a3:∀(g:Heap) (tk:Nat),g.DictOf knd s.heap.objs.size (merged [] rs)->(∀b o,s.heap.get? b=some o->g.get? b=some o)->Q (.ref s.heap.objs.size) { s with heap:=g,toks:=tk }) :
  wpAny (model prog w) A (call (.type "dict") [.ref B]) Q E s:=by
 refine callType_codes (Q₁:=λ ob s1=>ob=.ref s.heap.objs.size/\s1={ s with heap:=s.heap.push { cls:=.type "dict",data:=.dict #[] } }) F.kt_called_dict (F.kt_typeCall_dict_1 _) F.entry_dict_init (kt_code_dict_new _ ⟨rfl,rfl⟩) λ ob s1 e1=>?_
 obtain⟨rfl,rfl⟩:=e1;have fresh:(s.heap.push { cls:=.type "dict",data:=.dict #[] }).DictOf knd s.heap.objs.size []:=Heap.DictOf.new s.heap;have D:=L3 { cls:=.type "dict",data:=.dict #[] } hx;exists fresh.typeIs,F.args_dict_init_2 _ _;have hT:({ s with heap:=s.heap.push { cls:=.type "dict",data:=.dict #[] } }:Shared).TypeIs (.ref B) "tuple" := ⟨_,D,rfl⟩;unfold Builtin.«dict.__init__»;refine Oz ?_;unfold Builtin.Dict.selfAndRest;refine Oz (wpAny_notOrdered_dict fresh.typeIs (OA ?_));show wpAny _ _ (Builtin.Dict.updateFrom "dict.__init__" s.heap.objs.size (.ref B) [] .none) _ _ _;unfold Builtin.Dict.updateFrom;refine Oz (ON hT ?_);rw[if_pos ⋯];refine Oz (uZ D calm λ g tk kg=>?_);rw[if_pos (show (none:Option Value).isNone=true from rfl)];refine Oz (OI ?_);have a1:=kg _ _ D;have a0:g.IsTuple B items:=⟨_,a1,rfl,na,rfl⟩;refine Oz (OQ a0 ?_);have dg:g.DictOf knd s.heap.objs.size []:=by
  obtain⟨ob,es,ep,ho,rest⟩:=fresh;exact⟨ob,es,ep,kg _ _ ho,rest⟩
 have G:s.heap.objs.size<g.objs.size:=by
  obtain⟨ob,es,ep,ho,rest⟩:=dg;exact L0 ho
 have a7:B<g.objs.size:=L0 a1;have a4:B<s.heap.objs.size:=L0 hx;have a2:∀b o,s.heap.get? b=some o->(g.push { cls:=.type "tuple_iterator",data:=.fields #[.ref B,.int 0 0] }).get? b=some o:=λ b o e=>L3 _ (kg b o (L3 _ e))
 refine OA ⟨plainId_quiet jD _,?_⟩;refine Cm (E:=E) (knd:=knd) (s:=s) (A:=A.in1) (items:=items) (rs:=rs) (h0:=g.push { cls:=.type "tuple_iterator",data:=.fields #[.ref B,.int 0 0] }) calm (L5 G) (ML a4) (L5 a7) len er (λ i p hp=>?_) (λ g2 a6 a5 k2=>⟨rfl,a3 g2 a6 a5 λ b o e=>k2 b o (L5 (L0 e)) (L5 (NX (L0 e) G)) (a2 b o e)⟩) rs.length 0 _ _ _ (Nat.sub_zero _) (Me _) ⟨_,L7 _ rfl,rfl,rfl⟩ (a0.push _) (dg.push _) λ b o _ _ e=>e
 obtain⟨q,hq,key,n,sl,Z,N⟩:=J i p hp;have Y:=L0 Z;exact⟨q,hq,L5 Y,L5 (NX Y G),key,n,sl,a2 q _ Z,N⟩
end
end PySem
namespace L2
open PySem PySem.Spec PyProof.Rows
variable {xs B:List Str}{ps outs:List Piece}{ks ms ns:List Nat}{w:World}{H H' H1:Hp}{P prog:Program}{tops:Nat->Prop}{most m i n kk f c:Nat}{d aA a D:Addr}{s:Shared}{A:Around}{e:End}{elts:List Expr}{x b:Str}{scope:Scope}{K:LV}{kx vx Z G tg:Expr}{v:V}{X:Cx}{vs:List V}{g:TG}{pc:Piece}{Q:VK}{E:Z0}{ct:TT}{tk tv:TE}
theorem G8:∀(kvs:List (Key×V)) (P:Nat->Key×Value->Prop),(∀(i:Nat) (k:Key) (v:V),kvs[i]?=some (k,v)->∃u,RelV v u/\P i (k,u))->∃rs:List (Key×Value),KV kvs rs/\∀(i:Nat) (p:Key×Value),rs[i]?=some p->P i p
 | [],_,_=>⟨[],.nil,λ i p h=>by simp at h⟩
 | (k,v)::r,P,h=>by
  obtain⟨u,B,D⟩:=h 0 k v rfl;obtain⟨rs,N,G⟩:=G8 r (λ i=>P (i+1)) λ i J v' e=>h (i+1) J v' (by simpa using e)
  refine⟨(k,u)::rs,.cons ⟨rfl,B⟩ N,λ i p e=>?_⟩;cases i with
  | zero=>cases (Mf.inj e);exact D
  | succ i=>exact G i p (by simpa using e)
theorem zh:∀{xs:List V} {us:List Value} {j:Nat} {x:V},Vals xs us->xs[j]?=some x->∃u,us[j]?=some u/\RelV x u
 | _,_,_,_,.nil,e=>by simp at e
 | _,_,0,_,.cons r _,e=>by
  cases (Mf.inj e);exact⟨_,rfl,r⟩
 | _,_,j+1,x,.cons _ t,e=>by
  obtain⟨u,B,D⟩:=zh (j:=j) (x:=x) t (by simpa using e);exact⟨u,by simpa using B,D⟩
section
variable {X:Cx}
theorem ki (hc:X.calm=true):il X (.type "dict") (λ vs H Q=>∃(a:Addr) (xs:List V) (kvs:List (Key×V)),vs=[.ref a]/\H a=some (.tup xs)/\xs.length=kvs.length /\
  (∀(i:Nat) (k:Key) (v:V),kvs[i]?=some (k,v)->∃q,xs[i]?=some (.ref q)/\H q=some (.tup [kV k,v]))/\(kvs.map (·.1)).Nodup/\∀d,H d=none->Q (.ref d) (upd H d (.dK kvs))):=by
 intro a3 s LQ H vs us Q I r h;obtain⟨a,xs,kvs,rfl,ha,hl,hp,nd,q⟩:=h;obtain⟨u,rfl,ru⟩:=vals1 r;cases (show u=Value.ref a from ru);obtain⟨hz,its,rv,⟨c,a5,a6,sl⟩,h1,h2,n,h3,h4⟩:=(show ff X.prog X.w H s.heap a (.tup xs) from I.de a _ ha);dsimp only at h2 h3 h4;subst h2 h3 h4;have Z:its.length=kvs.length:=by rw[<-rv.length];exact hl
 obtain⟨rs,rel,a0⟩:=G8 kvs (λ i p=>∃q,its.toArray[i]?=some (.ref q)/\zg (dm X.prog X.w) s.heap q p) λ i k v e=>by
  obtain⟨q,e1,e2⟩:=hp i k v e;obtain⟨_,a1,D,⟨c2,a2,a4,J⟩,g1,g2,n2,g3,g4⟩:=(show ff X.prog X.w H s.heap q (.tup [kV k,v]) from I.de q _ e2);dsimp only at g2 g3 g4;subst g2 g3 g4;obtain⟨key,u2,rfl,rk,N⟩:=vals2 D;refine⟨u2,N,q,?_,key,n2,J,g1,mB rk⟩;obtain⟨w',hw,Y⟩:=zh rv e1;cases (show w' = Value.ref q from Y);simpa using hw
 have B:kvs.length<=sizeLine:=by rw[<-hl];exact hz
 have G:(rs.map (·.1)).Nodup:=by rw[<-rel.keys];exact nd
 refine x6 (knd:=dm X.prog X.w) (rs:=rs) (I.ok.hd hc) h1 (by rw[<-rel.length,<-Z];simp) (by rw[<-rel.length];exact B) a0 λ g tk dd kg=>?_
 rw[merged_nil_of_nodup rs G] at dd;exact⟨.ref s.heap.objs.size,_,I.laid (a:=s.heap.objs.size) (o:=.dK kvs) (t':=tk) kg (LW _) (oC B (beq_eq_false_iff_ne.mpr (Ne.symm (L5 I.big))) rel dd),rfl,q _ (I.de.fresh (LW _))⟩
end
def u0 (a b:Str):Prop:=a.cps.toList<=b.cps.toList
theorem Ef {a c:Str}(h:u0 a b)(g:u0 b c):u0 a c:=List.le_trans h g
theorem FZ {a:Str}(h:u0 a b)(g:u0 b a):a=b:=by
 have e:a.cps.toList=b.cps.toList:=List.le_antisymm h g;have B:a.cps=b.cps:=by rw[<-Ov (xs:=a.cps),e,Ov]
 cases a;cases b;cases B;rfl
theorem xp:∀(l:List Str) (p:Str),risingS p l=true->(p::l).Pairwise u0
 | [],p,_=>by simp
 | x::r,p,h=>by
  have h':(!ltCps x.cps.toList p.cps.toList&&risingS x r)=true:=h;rw[MA,Bool.not_eq_true'] at h';have B:u0 p x:=by
   have:=h'.1;rw[ltCps_eq] at this;exact of_decide_eq_false this
  have D:=xp r x h'.2;refine Nf.cons (λ y hy=>?_) D
  rcases LZ.mp hy with e | hy
  ·rw[e];exact B
  ·exact Ef B ((N8.mp D).1 y hy)
theorem xq {l:List Str}(h:sortedS l=true):l.Pairwise u0:=by
 cases l with
 | nil=>exact Nf.nil
 | cons x r=>exact xp r x h
structure nK (ss:List Str):Prop where
 pw:ss.Pairwise u0
 nd:ss.Nodup
theorem nK.tail {r:List Str}(h:nK (x::r)):nK r:=⟨(N8.mp h.pw).2,(M5.mp h.nd).2⟩
theorem nK.unique:∀{l m:List Str},nK l->nK m->(∀x,x∈l↔x∈m)->l=m
 | [],[],_,_,_=>rfl
 | [],b::m,_,_,h=>absurd ((h b).mpr (L9 ..)) (by simp)
 | a::l,[],_,_,h=>absurd ((h a).mp (L9 ..)) (by simp)
 | a::l,b::m,hl,hm,h=>by
  have e:a=b:=by
   rcases LZ.mp ((h a).mp (L9 ..)) with e | h1
   ·exact e
   ·rcases LZ.mp ((h b).mpr (L9 ..)) with e | h2
    ·exact e.symm
    ·exact FZ ((N8.mp hl.pw).1 b h2) ((N8.mp hm.pw).1 a h1)
  subst e;have D:=(M5.mp hl.nd).1;have B:=(M5.mp hm.nd).1;rw[nK.unique hl.tail hm.tail λ x=>⟨λ hx=>?_,λ hx=>?_⟩]
  ·rcases LZ.mp ((h x).mp (Mc _ hx)) with e | h1
   ·exact absurd (by rw[<-e];exact hx) D
   ·exact h1
  ·rcases LZ.mp ((h x).mpr (Mc _ hx)) with e | h1
   ·exact absurd (by rw[<-e];exact hx) B
   ·exact h1
theorem nK.filter {l:List Str}(h:nK l)(p:Str->Bool):nK (l.filter p):=⟨h.pw.filter p,h.nd.filter p⟩
abbrev Sx:=Option Int×Option Int
def iI:Sx:=(none,none)
structure mh (K:LV) (mg:Z2) (aA:Addr):Prop where
 xj:mg "ALL" = some (.ref aA)
 at_:∃dc n sl,K.lookup aA=some ⟨.type "tuple",dc,.seq #[.none,.none] n,sl⟩
theorem mh.sq {mg:Z2}(h:mh K mg aA)(H:Hp):cE K H aA [.eu,.eu]:=by
 obtain⟨B,n,sl,e⟩:=h.at_;exact .inr ⟨_,#[.none,.none],n,e,rfl,rfl,by decide,.cons rfl (.cons rfl .nil)⟩
def SH (H:Hp)(v:V)(s:Sx):Prop:=∃q,v=.ref q/\H q=some (.tup [vO s.1,vO s.2])
def SV (aA:Addr)(H:Hp)(v:V)(s:Sx):Prop:=SH H v s\/(v=.ref aA/\s=iI)
def dS (s:Sx):PyData:=.tuple [dO s.1,dO s.2]
theorem SH.rd {s:Sx}(h:SH H v s):cW H v (dS s):=by
 obtain⟨q,rfl,e⟩:=h;exact .tup e (.cons (JJ _) (.cons (JJ _) .nil))
theorem SH.dr {H:Hp}{s:Sx}(h:SH H v s)(k:∀p xs,H p=some (.tup xs)->H' p=some (.tup xs)):SH H' v s:=by
 obtain⟨q,e,h⟩:=h;exact⟨q,e,k _ _ h⟩
theorem SV.dr {aA:Addr}{H H':Hp}{v:V}{s:Sx}(h:SV aA H v s)(k:∀p xs,H p=some (.tup xs)->H' p=some (.tup xs)):SV aA H' v s:=h.elim (λ h=>.inl (h.dr k)) .inr
theorem SV.sq {K:LV}{mg:Z2}{aA:Addr}{H:Hp}{v:V}{s:Sx}(g:mh K mg aA)(h:SV aA H v s):∃q,v=.ref q/\cE K H q [vO s.1,vO s.2]:=by
 rcases h with ⟨q,e,h⟩ | ⟨e,rfl⟩
 ·exact⟨q,e,cE.of h⟩
 ·exact⟨aA,e,g.sq H⟩
theorem AR {o:Option Int}(h:cW H v (dO o)):v=vO o:=by
 cases o with
 | none=>cases h;rfl
 | some i=>exact h.int_inv
structure Tb (aA:Addr) (H:Hp) (kvs:List (Key×V)) (ks:List Str) (T:Str->Sx):Prop where
 keys:kvs.map (·.1)=ks.map Sum.inr
 nd:ks.Nodup
 val:∀x:Str,(fF kvs (Sum.inr x)=none/\T x=iI/\¬x∈ks)\/(∃v,fF kvs (Sum.inr x)=some v/\SV aA H v (T x)/\x∈ks)
def je (T:Str->Sx)(x:Str)(s:Sx):Str->Sx:=λ y=>if y=x then s else T y
theorem Tb.dr {aA:Addr}{H H':Hp}{kvs:List (Key×V)}{ks:List Str}{T:Str->Sx}(h:Tb aA H kvs ks T)(k:∀p xs,H p=some (.tup xs)->H' p=some (.tup xs)):Tb aA H' kvs ks T :=
 ⟨h.keys,h.nd,λ x=>(h.val x).elim .inl λ ⟨v,e,s,m⟩=>.inr ⟨v,e,s.dr k,m⟩⟩
theorem Tb.put {H:Hp}{kvs:List (Key×V)}{ks:List Str}{T:Str->Sx}(h:Tb aA H kvs ks T){s:Sx}(x:Str)(Y:SV aA H v s) :
  ∃B,Tb aA H (putK kvs (Sum.inr x) v) B (je T x s)/\B.length<=ks.length+1/\∀y,y∈B↔y∈ks\/y=x:=by
 have G:∀(B:List Str),(∀y,y∈B↔y∈ks\/y=x)->∀y:Str,(fF (putK kvs (Sum.inr x) v) (Sum.inr y)=none/\je T x s y=iI/\¬y∈B)\/(∃u,fF (putK kvs (Sum.inr x) v) (Sum.inr y)=some u/\SV aA H u (je T x s y)/\y∈B):=by
  intro B D y;rw[o5];unfold je;by_cases e:y=x
  ·subst e;rw[if_pos rfl,if_pos rfl];exact .inr ⟨v,rfl,Y,(D y).mpr (.inr rfl)⟩
  ·rw[if_neg (λ z=>e (Sum.inr.inj z)),if_neg e]
   rcases h.val y with ⟨a,b,c⟩ | ⟨u,a,b,c⟩
   ·exact .inl ⟨a,b,λ z=>((D y).mp z).elim c e⟩
   ·exact .inr ⟨u,a,b,(D y).mpr (.inl c)⟩
 rcases DJ (kvs:=kvs) (k:=(Sum.inr x:Key)) (v:=v) with ⟨J,hm⟩ | ⟨J,hn⟩
 ·have hx:x∈ks:=by
   rw[h.keys] at hm;obtain⟨y,Z,e⟩:=Mb.mp hm;cases e;exact Z
  have D:∀y,y∈ks↔y∈ks\/y=x:=λ y=>⟨.inl,λ z=>z.elim id λ e=>by rw[e];exact hx⟩
  exact⟨ks,⟨by rw[J];exact h.keys,h.nd,G ks D⟩,MJ _,D⟩
 ·have hx:¬x∈ks:=λ z=>hn (by rw[h.keys];exact Mb.mpr ⟨x,z,rfl⟩)
  have D:∀y,y∈ks++[x]↔y∈ks\/y=x:=λ y=>by simp
  refine⟨ks++[x],⟨by rw[J,h.keys,L4];rfl,?_,G _ D⟩,by simp,D⟩;rw[Nq];refine⟨h.nd,by simp,λ a N b hb=>?_⟩;rw[LX] at hb;subst hb;exact λ z=>hx (by rw[<-z];exact N)
def dF (T:Str->Sx)(x:Str):PyData:=.tuple [.str x,dS (T x)]
def FV (H:Hp)(v:V)(T:Str->Sx):Prop:=∃(p:Addr) (xs:List V) (ss:List Str),v=.ref p/\H p=some (.tup xs)/\nK ss/\(∀x,x∈ss↔T x≠iI)/\dh H xs (ss.map (dF T))
def jr (T:Str->Sx)(ss:List Str):PyData:=.tuple (ss.map (dF T))
theorem so (T:Str->Sx):∀B:List Str,dQ (B.map (dF T))=true
 | []=>rfl
 | x::B=>by
  show (eh (dF T x)&&dQ (B.map (dF T)))=true;rw[so T B];show ((true&&((eh (dO (T x).1)&&(eh (dO (T x).2)&&true))&&true))&&true)=true;cases (T x).1<;>cases (T x).2<;>rfl
theorem FV.dr {H H':Hp}{v:V}{T:Str->Sx}(h:FV H v T)(k:∀p xs,H p=some (.tup xs)->H' p=some (.tup xs)):FV H' v T:=by
 obtain⟨p,xs,B,e,hp,D,hm,r⟩:=h;exact⟨p,xs,B,e,k _ _ hp,D,hm,r.dr k (so T B)⟩
theorem FV.same {H:Hp}{T:Str->Sx}(h:FV H v T)(s:cy H H'):FV H' v T:=h.dr λ p xs e=>s _ _ e
theorem FV.tb {xs:List V}{T:Str->Sx}(aA:Addr)(hs:nK B)(hm:∀x,x∈B↔T x≠iI)(r:dh H xs (B.map (dF T))) :
  ∃kvs:List (Key×V),xs.length=kvs.length/\(∀(i:Nat) (k:Key) (v:V),kvs[i]?=some (k,v)->∃q,xs[i]?=some (.ref q)/\H q=some (.tup [kV k,v]))/\(kvs.map (·.1)).Nodup/\Tb aA H kvs B T:=by
 have go:∀(B:List Str) (xs:List V),dh H xs (B.map (dF T))->∃kvs:List (Key×V),xs.length=kvs.length/\(∀(i:Nat) (k:Key) (v:V),kvs[i]?=some (k,v)->∃q,xs[i]?=some (.ref q)/\H q=some (.tup [kV k,v])) /\
   kvs.map (·.1)=B.map Sum.inr/\∀x:Str,(fF kvs (Sum.inr x)=none/\¬x∈B)\/(∃v,fF kvs (Sum.inr x)=some v/\SH H v (T x)/\x∈B):=by
  intro B
  induction B with
  | nil =>
   intro xs r;have z:=dh.nil_inv r;subst z;exact⟨[],rfl,λ i k v e=>by simp at e,rfl,λ x=>.inl ⟨rfl,by simp⟩⟩
  | cons y B ih =>
   intro xs r;obtain⟨x1,t1,rfl,h1,r⟩:=dh.cons_inv r;obtain⟨kvs,N,Y,J,Z⟩:=ih t1 r;obtain⟨q,zs,rfl,hq,G⟩:=cW.d9 h1;obtain⟨z1,t2,rfl,g1,G⟩:=G.cons_inv;obtain⟨z2,t3,rfl,g2,G⟩:=G.cons_inv;have z:=G.nil_inv;subst z;obtain⟨q2,ws,rfl,a0,D⟩:=cW.d9 g2;obtain⟨w1,t4,rfl,f1,D⟩:=D.cons_inv;obtain⟨w2,t5,rfl,f2,D⟩:=D.cons_inv;have z:=D.nil_inv;subst z;have e1:w1=vO (T y).1:=AR f1;have e2:w2=vO (T y).2:=AR f2;subst e1 e2;rw[g1.str_inv] at hq;refine⟨(Sum.inr y,.ref q2)::kvs,by simp[N],λ i k v e=>?_,by simp[J],λ x=>?_⟩
   ·cases i with
    | zero=>cases (Mf.inj e);exact⟨q,rfl,hq⟩
    | succ i =>
     obtain⟨q',a,b⟩:=Y i k v (by simpa using e);exact⟨q',by simpa using a,b⟩
   ·by_cases e:x=y
    ·subst e;exact .inr ⟨_,gy rfl,⟨q2,rfl,a0⟩,L9 ..⟩
    ·rw[gB (λ z=>e (Sum.inr.inj z).symm)]
     rcases Z x with ⟨a,b⟩ | ⟨v,a,b,c⟩
     ·exact .inl ⟨a,λ z=>(LZ.mp z).elim e b⟩
     ·exact .inr ⟨v,a,b,Mc _ c⟩
 obtain⟨kvs,N,Y,J,Z⟩:=go B xs r;refine⟨kvs,N,Y,?_,⟨J,hs.nd,λ x=>?_⟩⟩
 ·rw[J];exact Nf.map _ (λ a b n z=>n (Sum.inr.inj z)) hs.nd
 ·rcases Z x with ⟨a,b⟩ | ⟨v,a,b,c⟩
  ·refine .inl ⟨a,?_,b⟩;exact Classical.byContradiction λ z=>b ((hm x).mpr z)
  ·exact .inr ⟨v,a,.inl b,c⟩
theorem Ie (s:Sx):PyData.eqv (dS s) (.tuple [.none,.none])=decide (s=iI):=by
 obtain⟨a,b⟩:=s;cases a<;>cases b<;>rfl
theorem G9 (s:Sx):(dS s).canLay0=true:=by
 obtain⟨a,b⟩:=s;cases a<;>cases b<;>rfl
theorem Kz (s:Sx):(dS s).depth<=60:=by
 obtain⟨a,b⟩:=s;cases a<;>cases b<;>(show (1:Nat)<=60;decide)
section
variable {X:Cx}
theorem Eg {B:Z1}{G:St}(I:Inv X B G H s)(g:mh X.K X.mg aA):∃D,Reads s.heap (.ref aA) (.tuple [.none,.none]) D:=by
 obtain⟨J,n,sl,e⟩:=g.at_;exact⟨_,.tuple (I.lP aA _ e) rfl rfl (.cons .none (.cons .none .nil))⟩
theorem JV {aA:Addr}(hu:X.A.units+64<cLine)(g:mh X.K X.mg aA):iK X (compareOp .NotEq) (λ x y H Q=>∃s,SV aA H x s/\y=.ref aA/\Q (.bl (!decide (s=iI))) H):=by
 intro N J LQ H x y v u Q I G ry h;obtain⟨s,B,rfl,q⟩:=h;cases (show u=Value.ref aA from ry);obtain⟨bs,D⟩:=Eg I g
 rcases B with B | ⟨rfl,rfl⟩
 ·obtain⟨Y,Z⟩:=B.rd.reads I.de G;refine PySem.SeqAt.neOverData X.prog X.w X.A X.xe J v _ _ _ Y bs _ Z D (G9 s) rfl (by have:=Kz s;omega) ⟨.bl _,H,I,?_,q⟩;show _=Value.bool (!decide (s=iI));rw[Ie]
 ·cases (show v=Value.ref aA from G);exact PySem.SeqAt.neOverData X.prog X.w X.A X.xe J _ _ _ _ bs bs _ D D rfl rfl (by show X.A.units+1<cLine;omega) ⟨.bl _,H,I,rfl,q⟩
end
inductive qP (aA:Addr) (vs:List V) (H:Hp) (Q:VK) (_:XK):Prop
 | mk (d:Addr) (kvs:List (Key×V)) (ks:List Str) (T:Str->Sx) (_:vs=[.ref d]) (_:H d=some (.dK kvs)) (_:Tb aA H kvs ks T) (_:ks.length<64) (_:∀v H',FV H' v T->cy H H'->Q v H')
def Ha (o:Option Int)(n:Int):Option Int:=o.map (· + n)
def KN (s:Sx)(n:Int):Sx:=(Ha s.1 n,Ha s.2 n)
def JW (T:Str->Sx):e6->Sx
 | .put _ n=>(some n,some n)
 | .copy _ y=>T y
 | .add x n=>KN (T x) n
 | .read _=>iI
 | .tell x=>T x
def F5 (T:Str->Sx)(d:e6):Str->Sx:=je T (si d) (JW T d)
def hX (T:Str->Sx):List e6->(Str->Sx):=λ ds=>ds.foldl F5 T
inductive AS (K:LV) (vs:List V) (H:Hp) (Q:VK) (_:XK):Prop
 | mk (q:Addr) (s:Sx) (n:Int) (_:vs=[.ref q,.int n]) (_:cE K H q [vO s.1,vO s.2]) (_:∀v H',SH H' v (KN s n)->cy H H'->Q v H')
inductive u9 (aA:Addr) (vs:List V) (H:Hp) (Q:VK) (_:XK):Prop
 | mk (d q:Addr) (kvs:List (Key×V)) (ks:List Str) (T:Str->Sx) (dd:e6) (_:vs=[.ref d,.ref q]) (_:H d=some (.dK kvs)) (_:Tb aA H kvs ks T) (_:H q=some (.tup (lM dd))) (_:∀v H',SV aA H' v (JW T dd)->cy H H'->Q v H')
theorem Tb.getD {aA:Addr}{H:Hp}{kvs:List (Key×V)}{ks:List Str}{T:Str->Sx}(h:Tb aA H kvs ks T)(x:Str):∃v,(fF kvs (Sum.inr x)).getD (.ref aA)=v/\SV aA H v (T x):=by
 rcases h.val x with ⟨a,b,_⟩ | ⟨v,a,b,_⟩
 ·exact⟨_,by rw[a];rfl,.inr ⟨rfl,b⟩⟩
 ·exact⟨v,by rw[a];rfl,b⟩
section
variable {C D:Addr}{H0 H H1:Hp}{w0 w1:WA}{plv:V}{x0 x1 x':JN}
end
mutual
def hZ:PyData->Bool
 | .none=>true
 | .int _=>true
 | .str _=>true
 | .tuple xs=>fC xs
 | _=>false
def fC:List PyData->Bool
 | []=>true
 | x::xs=>hZ x&&fC xs
end
mutual
def yn:PyData->Nat
 | .tuple xs=>qQ xs+1
 | _=>1
def qQ:List PyData->Nat
 | []=>0
 | x::xs=>yn x+qQ xs
end
noncomputable instance Kb:DecidableEq PyData:=λ a b=>Classical.propDecidable (a=b)
mutual
theorem AU:∀{a b:PyData},hZ a=true->hZ b=true->(PyData.eqv a b=true↔a=b)
 | .none,.none,_,_=>⟨λ _=>rfl,λ _=>rfl⟩
 | .int i,.int j,_,_=>by show ((i == j)=true)↔_;rw[beq_iff_eq];exact⟨λ h=>by rw[h],λ h=>by injection h⟩
 | .str x,.str y,_,_=>by show ((x == y)=true)↔_;rw[beq_iff_eq];exact⟨λ h=>by rw[h],λ h=>by injection h⟩
 | .tuple xs,.tuple ys,ha,hb=>by
  show (PyData.eqvAll xs ys=true)↔_;rw[pA (show fC xs=true from ha) (show fC ys=true from hb)];exact⟨λ h=>by rw[h],λ h=>by injection h⟩
 | .none,.int _,_,_ | .none,.str _,_,_ | .none,.tuple _,_,_ | .int _,.none,_,_ | .int _,.str _,_,_ | .int _,.tuple _,_,_
 | .str _,.none,_,_ | .str _,.int _,_,_ | .str _,.tuple _,_,_ | .tuple _,.none,_,_ | .tuple _,.int _,_,_ | .tuple _,.str _,_,_=>⟨λ h=>(by cases h),λ h=>(by cases h)⟩
 | .bool _,_,h,_ | .list _,_,h,_ | .dict _,_,h,_=>by cases h
 | .none,.bool _,_,h | .none,.list _,_,h | .none,.dict _,_,h | .int _,.bool _,_,h | .int _,.list _,_,h | .int _,.dict _,_,h
 | .str _,.bool _,_,h | .str _,.list _,_,h | .str _,.dict _,_,h | .tuple _,.bool _,_,h | .tuple _,.list _,_,h | .tuple _,.dict _,_,h=>by cases h
theorem pA:∀{a b:List PyData},fC a=true->fC b=true->(PyData.eqvAll a b=true↔a=b)
 | [],[],_,_=>⟨λ _=>rfl,λ _=>rfl⟩
 | x::xs,y::ys,B,hb=>by
  have B:(hZ x&&fC xs)=true:=B;have hb:(hZ y&&fC ys)=true:=hb;rw[MA] at B hb;show ((PyData.eqv x y&&PyData.eqvAll xs ys)=true)↔_;rw[MA,AU B.1 hb.1,pA B.2 hb.2];exact⟨λ ⟨G,D⟩=>by rw[G,D],λ h=>by injection h with G D;exact⟨G,D⟩⟩
 | [],_::_,_,_ | _::_,[],_,_=>⟨λ h=>(by cases h),λ h=>(by cases h)⟩
end
mutual
theorem xr {h:Heap}:∀{v:Value} {a b:PyData} {as bs:List Addr},Reads h v a as->Reads h v b bs->hZ a=true->hZ b=true->a=b
 | _,_,_,_,_,.none,.none,_,_=>rfl
 | _,_,_,_,_,.int i t,.int _ _,_,_=>rfl
 | _,_,_,_,_,.str x t,.str _ _,_,_=>rfl
 | _,_,_,_,_,.tuple e1 c1 d1 r1,.tuple e2 c2 d2 r2,ha,hb=>by
  rw[e1] at e2;cases e2;rw[d1] at d2;cases d2;rw[qR r1 r2 ha hb]
 | _,_,_,_,_,.tuple e1 c1 d1 r1,.list e2 c2 d2 r2,_,hb=>by cases hb
 | _,_,_,_,_,.tuple e1 c1 d1 r1,.dict e2 c2 d2 r2 r3,_,hb=>by cases hb
 | _,_,_,_,_,.bool _,_,ha,_=>by cases ha
 | _,_,_,_,_,.list ..,_,ha,_=>by cases ha
 | _,_,_,_,_,.dict ..,_,ha,_=>by cases ha
theorem qR {h:Heap}:∀{vs:List Value} {a b:List PyData} {as bs:List Addr},ReadsAll h vs a as->ReadsAll h vs b bs->fC a=true->fC b=true->a=b
 | _,_,_,_,_,.nil,.nil,_,_=>rfl
 | _,_,_,_,_,.cons (d:=x) (ds:=xs) r1 t1,.cons (d:=y) (ds:=ys) r2 t2,B,hb=>by
  have B:(hZ x&&fC xs)=true:=B;have hb:(hZ y&&fC ys)=true:=hb;rw[MA] at B hb;rw[xr r1 r2 B.1 hb.1,qR t1 t2 B.2 hb.2]
end
mutual
theorem va {h h':Heap}(k:∀a o n vs,h.get? a=some o->o.data=.seq vs n->h'.get? a=some o):∀{v:Value} {a:PyData} {as:List Addr},Reads h v a as->hZ a=true->Reads h' v a as
 | _,_,_,.none,_=>.none
 | _,_,_,.int i t,_=>.int i t
 | _,_,_,.str x t,_=>.str x t
 | _,_,_,.tuple e1 c1 d1 r1,ha=>.tuple (k _ _ _ _ e1 d1) c1 d1 (qc k r1 ha)
 | _,_,_,.bool _,ha=>by cases ha
 | _,_,_,.list ..,ha=>by cases ha
 | _,_,_,.dict ..,ha=>by cases ha
theorem qc {h h':Heap}(k:∀a o n vs,h.get? a=some o->o.data=.seq vs n->h'.get? a=some o):∀{vs:List Value} {a:List PyData} {as:List Addr},ReadsAll h vs a as->fC a=true->ReadsAll h' vs a as
 | _,_,_,.nil,_=>.nil
 | _,_,_,.cons (d:=x) (ds:=xs) r1 t1,B=>by
  have B:(hZ x&&fC xs)=true:=B;rw[MA] at B;exact .cons (va k r1 B.1) (qc k t1 B.2)
end
section
variable {prog:Program}{w:World}{E:Z0}
abbrev Hb (w:World)(d:PyData):Int:=PySem.W.hashW w.params (PySem.W.ofPy d)
mutual
theorem vb:∀(d:PyData) (v:Value) (as:List Addr) (A:Around) (s:Shared) (Q:Int->Shared->Prop),hZ d=true->Reads s.heap v d as->A.units+d.depth<cLine ->
  Q (Hb w d) { s with toks:=s.toks+yn d }->wpAny (model prog w) A (pyHash v) Q E s
 | .none,_,_,A,s,Q,_,x,hu,h=>by
  cases x;exact PySem.W.pyHash_slot (T := "NoneType") rfl F.slot_NoneType_hash F.entry_NoneType_hash (F.args_NoneType_hash_1 _) (beq_builtin_none _) (.inr ⋯) (Oz (OA (Oz (wpAny_mkInt (OA ⟨_,_,rfl,h⟩)))))
 | .int i,_,_,A,s,Q,_,x,_,h=>by
  cases x;refine wpAny_pyHash_int ?_;have e:=PySem.W.hashW_int w.params i;rw[<-e];exact h
 | .str y,_,_,A,s,Q,_,x,_,h=>by cases x;exact O6 h
 | .tuple xs,_,_,A,s,Q,hk,x,hu,h=>by
  cases x with
  | @tuple a o vs n _ _ hg hc hd hw =>
   refine PySem.W.pyHash_slot (T := "tuple") ⟨_,hg,hc⟩ F.slot_tuple_hash F.entry_tuple_hash (F.args_tuple_hash_1 _) (beq_builtin_none _) (.inr ⋯) ?_;show wpAny _ _ (Builtin.Tuple.tupleItemsOf (.ref a) >>= _) _ _ s;refine Oz (wpAny_tupleItemsOf hg hd ?_);refine Oz ?_;rw[<-Array.forIn_toList];refine xt xs vs.toList _ A.in1 s #[] _ hk hw (by have:(PyData.tuple xs).depth=PyData.depthAll xs+1:=rfl;rw[Around.in1_units];omega) λ b hb=>?_
   show wpAny _ _ (retInt (Builtin.Tuple.tupleHashOf b.toList)) _ _ _;rw[hb];exact Oz (wpAny_mkInt (OA ⟨_,_,rfl,h⟩))
 | .bool _,_,_,_,_,_,hk,_,_,_ | .list _,_,_,_,_,_,hk,_,_,_ | .dict _,_,_,_,_,_,hk,_,_,_=>by cases hk
theorem xt:∀(xs:List PyData) (vs:List Value) (as:List Addr) (A:Around) (s:Shared) (b:Array Int) (Q:Array Int->Shared->Prop),fC xs=true->ReadsAll s.heap vs xs as->A.units+PyData.depthAll xs<cLine ->
  (∀D,D.toList=b.toList++PySem.W.hashesW w.params (PySem.W.ofPys xs)->Q D { s with toks:=s.toks+qQ xs }) ->
  wpAny (model prog w) A (forIn vs b λ x r=>do let h <-pyHash x;pure PUnit.unit;pure (ForInStep.yield (r.push h))) Q E s
 | [],_,_,A,s,b,Q,_,x,_,h=>by cases x;exact OA (h b (by simp[PySem.W.hashesW,PySem.W.ofPys]))
 | k::xs,_,_,A,s,b,Q,B,x,G,h=>by
  cases x with
  | cons x1 x2 =>
   have B:(hZ k&&fC xs)=true:=B;rw[MA] at B;have G:A.units+max k.depth (PyData.depthAll xs)<cLine:=G;rw[Ng];refine Oz (Oz (vb k _ _ A s _ B.1 x1 ⋯ ?_));refine Oz (OA (OA ?_));refine xt xs _ _ A _ _ Q B.2 x2 ⋯ λ D hb=>?_
   have J:=h D (by simp[hb,PySem.W.hashesW,PySem.W.ofPys]);have e:qQ (k::xs)=yn k+qQ xs:=rfl;rw[e,<-Nat.add_assoc] at J;exact J
end
mutual
theorem xu:∀(d:PyData) (v:Value) (as:List Addr) (A:Around) (s:Shared) (n:Nat) (Q:Bool->Shared->Prop),hZ d=true->Reads s.heap v d as->d.depth<=n->Q true s->wpAny (model prog w) A (eqIsQuiet n v) Q E s
 | .none,_,_,A,s,n,Q,_,x,_,h=>by cases x;unfold eqIsQuiet;exact OA h
 | .int i,_,_,A,s,n,Q,_,x,_,h=>by cases x;unfold eqIsQuiet;exact OA h
 | .str y,_,_,A,s,n,Q,_,x,_,h=>by cases x;unfold eqIsQuiet;exact OA h
 | .tuple xs,_,_,A,s,n,Q,hk,x,hn,h=>by
  cases x with
  | @tuple a o vs n' _ _ hg hc hd hw =>
   have hn:PyData.depthAll xs+1<=n:=hn;obtain⟨n,rfl⟩:∃m,n=m+1:=⟨n-1,by omega⟩;have N:s.TypeIs (.ref a) "tuple" := ⟨_,hg,hc⟩;unfold eqIsQuiet;refine Oz (wpAny_specialOf N F.slot_tuple_eq.lookup ?_);show wpAny _ _ (isInstance (.ref a) (.type "tuple") >>= _) _ _ s;refine Oz (OW N isSubtype_tuple_tuple ?_);simp only[Bool.not_true,MZ,if_false];refine Oz (OH hg hd ?_);refine Oz ?_;show wpAny _ _ (forIn vs _ _) _ _ s;rw[<-Array.forIn_toList];have B:=xw xs vs.toList _ A s n hk hw ⋯;refine wpAny_forIn_list _ (λ rest r J=>r.1=none/\J=s/\∀v∈rest,∀Q:Bool->Shared->Prop,Q true s->wpAny (model prog w) A (eqIsQuiet n v) Q E s) _ ?_ ?_ _ _ ⟨rfl,rfl,B⟩
   ·rintro v rest r J ⟨D,rfl,hq⟩;refine Oz (hq v L9 _ ?_);simp only[Bool.not_true,MZ,if_false];exact OA ⟨rfl,rfl,λ u G=>hq u (Mc _ G)⟩
   ·rintro⟨Z,Y⟩ J ⟨D,rfl,_⟩;simp only at D;subst D;exact OA h
 | .bool _,_,_,_,_,_,_,hk,_,_,_ | .list _,_,_,_,_,_,_,hk,_,_,_ | .dict _,_,_,_,_,_,_,hk,_,_,_=>by cases hk
theorem xw:∀(xs:List PyData) (vs:List Value) (as:List Addr) (A:Around) (s:Shared) (n:Nat),fC xs=true->ReadsAll s.heap vs xs as->PyData.depthAll xs<=n->∀v∈vs,∀Q:Bool->Shared->Prop,Q true s->wpAny (model prog w) A (eqIsQuiet n v) Q E s
 | [],_,_,A,s,n,_,x,_=>by cases x;intro v hv;cases hv
 | k::xs,_,_,A,s,n,B,x,hn=>by
  cases x with
  | cons x1 x2 =>
   have B:(hZ k&&fC xs)=true:=B;rw[MA] at B;have hn:max k.depth (PyData.depthAll xs)<=n:=hn;intro v hv Q h
   rcases LZ.mp hv with rfl | hv
   ·exact xu k _ _ A s n Q B.1 x1 ⋯ h
   ·exact xw xs _ _ A s n B.2 x2 ⋯ v hv Q h
end
end
structure kj (d:PyData):Prop where
 key:hZ d=true
 lay:d.canLay0=true
 dep:d.depth<=7
 tup:∃xs,d=.tuple xs
def mX (prog:Program)(w:World):HeapKind prog w PyData where
 is:=λ h d a=>kj d/\∃as,Reads h (.ref a) d as
 hash:=Hb w
 draws:=yn
 room:=λ A=>A.units+64<cLine
 inj:=λ ⟨h1,_,r1⟩ ⟨h2,_,r2⟩=>xr r1 r2 h1.key h2.key
 keeps:=λ {h h' k a d o es ep} ⟨h1,as,r1⟩ hd he hs=>⟨h1,as,va (λ b u n vs e1 e2=>by
  have hne:b≠d:=by
   rintro rfl
   rw[hd] at e1
   cases e1
   rw[he] at e2
   cases e2
  exact (hs.2 b hne).trans e1) r1 h1.key⟩
 pyHash:=λ hu ⟨h1,_,r1⟩ h=>vb _ _ _ _ _ _ h1.key r1 (by have:=h1.dep;omega) h
 eqBool:=λ {A E s x y a b Q} hu ⟨h1,_,r1⟩ ⟨h2,_,r2⟩ h=>by
  refine PySem.SeqAt.eqAt_reads x y A s (.ref a) (.ref b) _ _ r1 r2 h1.lay h2.lay (by have:=h1.dep;have:=h2.dep;omega) prog w E Q ?_
  have e:PyData.eqv x y=decide (x=y):=by
   have:=AU h1.key h2.key
   by_cases hxy:x=y
   ·rw[decide_eq_true hxy];exact this.mpr hxy
   ·rw[decide_eq_false hxy];exact Ow.mpr λ z=>hxy (this.mp z)
  rw[e]
  exact h
 quiet:=λ ⟨h1,_,r1⟩ h=>xu _ _ _ _ _ _ _ h1.key r1 (by have:=h1.dep;omega) h
abbrev KX (kvs:List (PyData×Addr×V))(xs:List (PyData×Addr×Value)):Prop:=Paired (λ (p:PyData×Addr×V) (q:PyData×Addr×Value)=>p.1=q.1/\p.2.1=q.2.1/\RelV p.2.2 q.2.2) kvs xs
def oR (P:Program)(w:World)(a:Addr)(kvs:List (PyData×Addr×V))(h:Heap):Prop:=(a == sysModules)=false/\kvs.length<=sizeLine /\
 ∃(xs:List (PyData×Addr×Value)) (o:Obj) (es:Array DictEntry) (ep:Nat),h.get? a=some o/\o.ExactDict/\o.data=.dict es ep/\es.toList=xs.map (entryOfKey (mX P w))/\(xs.map (·.1)).Nodup/\KX kvs xs
def gG (P:Program)(w:World)(a:Addr)(kvs:List (PyData×Addr×V)):HO:=.ext (oR P w a kvs)
theorem pB {h:Heap}{kvs:List (PyData×Addr×V)}(S:oR P w a kvs h):ff P w H h a (gG P w a kvs) :=
 ⟨S,let ⟨_,_,_,o,_,_,e,_⟩:=S;⟨o,e⟩,λ J G ⟨B,D,xs,o,es,ep,e,r⟩ k=>⟨B,D,xs,o,es,ep,k o e,r⟩⟩
def vc (H:Hp)(kvs:List (PyData×Addr×V)):Prop:=∀p∈kvs,kj p.1/\cW H (.ref p.2.1) p.1
noncomputable def gm (kvs:List (PyData×Addr×V)) (d:PyData):Option V:=(kvs.find? λ p=>decide (p.1=d)).map (·.2.2)
noncomputable def putD (kvs:List (PyData×Addr×V)) (d:PyData) (k:Addr) (v:V):List (PyData×Addr×V):=if (gm kvs d).isSome then kvs.map (λ p=>if p.1=d then (p.1,p.2.1,v) else p) else kvs++[(d,k,v)]
theorem KX.val {d:PyData}:∀{kvs:List (PyData×Addr×V)} {xs:List (PyData×Addr×Value)},KX kvs xs->(gm kvs d=none/\atKey xs d=none)\/∃v a u,gm kvs d=some v/\atKey xs d=some (a,u)/\RelV v u
 | _,_,.nil=>.inl ⟨rfl,rfl⟩
 | _,_,.cons (a:=p) (b:=q) (l₁:=kvs) (l₂:=xs) ⟨e1,e2,e3⟩ t=>by
  by_cases h:p.1=d
  ·refine .inr ⟨p.2.2,q.2.1,q.2.2,?_,?_,e3⟩
   ·unfold gm;rw[N9 (by exact decide_eq_true h)];rfl
   ·unfold atKey;rw[N9 (by exact decide_eq_true (e1 ▸ h))];rfl
  ·have h':¬q.1=d:=λ z=>h (e1.trans z)
   have D:gm (p::kvs) d=gm kvs d:=by unfold gm;rw[Oa (by rw[decide_eq_false h];decide)]
   have B:atKey (q::xs) d=atKey xs d:=by unfold atKey;rw[Oa (by rw[decide_eq_false h'];decide)]
   rw[D,B];exact KX.val t
theorem KX.put {d:PyData}{k:Addr}{u:Value}(r:RelV v u){kvs:List (PyData×Addr×V)}{xs:List (PyData×Addr×Value)}(h:KX kvs xs):KX (putD kvs d k v) (storedH xs d k u):=by
 have G:=h.val (d:=d);unfold putD storedH
 rcases G with ⟨D,B⟩ | ⟨v',J,N,D,B,_⟩
 ·rw[D,B];have app:∀{l:List (PyData×Addr×V)} {m:List (PyData×Addr×Value)},KX l m->KX (l++[(d,k,v)]) (m++[(d,k,u)]):=by
   intro l m q
   induction q with
   | nil=>exact .cons ⟨rfl,rfl,r⟩ .nil
   | cons hq _ ih=>exact .cons hq ih
  exact app h
 ·rw[D,B];show KX (kvs.map λ p=>if p.1=d then (p.1,p.2.1,v) else p) (xs.map (putAt d u));have go:∀{l:List (PyData×Addr×V)} {m:List (PyData×Addr×Value)},KX l m->KX (l.map λ p=>if p.1=d then (p.1,p.2.1,v) else p) (m.map (putAt d u)):=by
   intro l m q
   induction q with
   | nil=>exact .nil
   | @cons p q ps qs hq _ ih =>
    refine .cons ?_ ih;unfold putAt;dsimp only;by_cases e:p.1=d
    ·rw[if_pos e,if_pos (hq.1 ▸ e)];exact⟨hq.1,hq.2.1,r⟩
    ·rw[if_neg e,if_neg (λ z=>e (hq.1.trans z))];exact hq
  exact go h
theorem F8 (kvs:List (PyData×Addr×V))(d:PyData)(k:Addr)(v:V):(putD kvs d k v).length<=kvs.length+1:=by
 unfold putD;split
 ·rw[LU];omega
 ·rw[LY];exact LW _
theorem KX.keys:∀{kvs:List (PyData×Addr×V)} {xs:List (PyData×Addr×Value)},KX kvs xs->∀q∈xs,∃p∈kvs,p.1=q.1/\p.2.1=q.2.1
 | _,_,.nil,q,hq=>nomatch hq
 | _,_,.cons (a:=p) (l₁:=kvs) ⟨e1,e2,_⟩ t,q,hq=>by
  rcases LZ.mp hq with rfl | hq
  ·exact⟨p,L9 ..,e1,e2⟩
  ·obtain⟨D,B,r⟩:=KX.keys t q hq;exact⟨D,Mc _ B,r⟩
section
variable {X:Cx}{pins:Z1}{LQ : St}{H:Hp}{s:Shared}{a k:Addr}{kvs:List (PyData×Addr×V)}{d:PyData}
theorem key_is (I:Inv X pins LQ H s)(B:kj d)(r:cW H (.ref k) d):(mX X.prog X.w).is s.heap d k:=⟨B,r.reads I.de rfl⟩
theorem sr (I:Inv X pins LQ H s)(e:H a=some (gG X.prog X.w a kvs))(Y:vc H kvs):(a == sysModules)=false/\kvs.length<=sizeLine/\∃xs,KX kvs xs/\s.heap.DictOfH (mX X.prog X.w) a xs:=by
 obtain⟨h1,h2,xs,o,es,ep,Z,g2,N,D,G,B⟩:=(show oR X.prog X.w a kvs s.heap from (I.de a _ e).1);refine⟨h1,h2,xs,B,o,es,ep,Z,g2,N,D,λ x hx=>?_,G⟩;obtain⟨p,hp,J,e2⟩:=B.keys x hx;have:=Y p hp;rw[<-J,<-e2];exact key_is I this.1 this.2
theorem KX.len:∀{kvs:List (PyData×Addr×V)} {xs:List (PyData×Addr×Value)},KX kvs xs->kvs.length=xs.length
 | _,_,.nil=>rfl
 | _,_,.cons _ t=>congrArg (· + 1) (KX.len t)
theorem vd (B:A.units+66<cLine):(mX P w).room A.in1:=by show A.in1.units+64<cLine;rw[Around.in1_units];omega
structure Cn (X:Cx) (H:Hp) (a k:Addr) (kvs:List (PyData×Addr×V)) (d:PyData):Prop where
 at_:H a=some (gG X.prog X.w a kvs)
 keys:vc H kvs
 key:kj d
 rd:cW H (.ref k) d
theorem Ig (Z:X.A.units+66<cLine):iK X (compareOp .In) (λ x y H Q=>∃k a d kvs,x=.ref k/\y=.ref a/\Cn X H a k kvs d/\Q (.bl (gm kvs d).isSome) H):=by
 intro pins s LQ H x y v u Q I J ry h;obtain⟨k,a,d,kvs,rfl,rfl,D,q⟩:=h;cases J;cases ry;obtain⟨N,h2,xs,Y,dd⟩:=sr I D.at_ D.keys;refine wpAny_in_heap (vd Z) (key_is I D.key D.rd) N dd ?_;have e:(atKey xs d).isSome=(gm kvs d).isSome:=by
  rcases Y.val (d:=d) with ⟨B,G⟩ | ⟨_,_,_,B,G,_⟩<;>rw[B,G]<;>rfl
 rw[e];exact⟨.bl _,H,I.tok _,rfl,q⟩
theorem ve (Z:X.A.units+66<cLine):iK X (compareOp .NotIn) (λ x y H Q=>∃k a d kvs,x=.ref k/\y=.ref a/\Cn X H a k kvs d/\Q (.bl (!(gm kvs d).isSome)) H):=by
 intro pins s LQ H x y v u Q I J ry h;obtain⟨k,a,d,kvs,rfl,rfl,D,q⟩:=h;cases J;cases ry;obtain⟨N,h2,xs,Y,dd⟩:=sr I D.at_ D.keys;refine wpAny_notIn_heap (vd Z) (key_is I D.key D.rd) N dd ?_;have e:(atKey xs d).isSome=(gm kvs d).isSome:=by
  rcases Y.val (d:=d) with ⟨B,G⟩ | ⟨_,_,_,B,G,_⟩<;>rw[B,G]<;>rfl
 rw[e];exact⟨.bl _,H,I.tok _,rfl,q⟩
theorem Ih {o i:Expr}{pos:Pos}{td Z:TE}(hu:X.A.units+66<cLine)(ho:PE X o td)(hi:PE X i Z)(hs:yQ i) :
  PE X (.Subscript o i pos) (λ LQ H Q=>td LQ H λ x H1=>Z LQ H1 λ y G=>∃k a d kvs v,x=.ref a/\y=.ref k/\Cn X G a k kvs d/\gm kvs d=some v/\Q v G):=by
 intro pins s LQ H Q I h;refine rX PySem.F.slot_dict_getitem.lookup hs (dC (ho pins s LQ H _ I h) λ u s1 ⟨x,H1,I1,rx,q1⟩=>dC (hi pins s1 LQ H1 _ I1 q1) λ iv s2 ⟨y,G,J,ry,k,a,d,kvs,v,ex,ey,D,B,q2⟩=>?_);subst ex ey;obtain rfl:u=Value.ref a:=rx;obtain rfl:iv=Value.ref k:=ry;obtain⟨h1,h2,xs,kx,Y⟩:=sr J D.at_ D.keys
 rcases kx.val (d:=d) with ⟨N,_⟩ | ⟨v',a',u',N,e2,e3⟩
 ·rw[N] at B;cases B
 ·rw[N] at B;cases B;exact⟨Y.typeIs,O9 (vd hu) (key_is J D.key D.rd) Y e2 ⟨_,G,J.tok _,e3,q2⟩⟩
theorem zi (J:X.A.units+66<cLine):EW X (λ o i v H Q=>∃k a d kvs,o=.ref a/\i=.ref k/\Cn X H a k kvs d/\kvs.length<sizeLine/\Q (upd H a (gG X.prog X.w a (putD kvs d k v)))):=by
 intro pins s LQ H o i v ov iv u Q I ro ri rv h;obtain⟨k,a,d,kvs,rfl,rfl,D,hz,q⟩:=h;cases ro;cases ri;obtain⟨h1,h2,xs,N,dd⟩:=sr I D.at_ D.keys;refine wpAny_setItem_heap (vd J) (key_is I D.key D.rd) dd (λ h' G B=>?_) (by rw[<-N.len];exact h2);obtain⟨Z,es,ep,Y,g2,g3,g4,g5,g6⟩:=id G;refine⟨_,I.write (t':=_) (x:=a) (e:=a) (by rw[D.at_];exact trivial) (.inl rfl) (λ c u' hc J=>(B.2 c hc).trans J) ⟨Z,Y⟩ (pB ⟨h1,?_,storedH xs d k u,Z,es,ep,Y,g2,g3,g4,g6,N.put rv⟩),q⟩;have:=F8 kvs d k v;omega
end
open LS
section
variable {X:Cx}
end
def pC (a0 a1:V):List (Str×V):=[("members",a0),("places",a1)]
section
variable {a0 a1 z:V}
theorem gH:(pC a0 a1).lookup ("members" : Str)=some a0:=nU
theorem iC:(pC a0 a1).lookup ("places" : Str)=some a1:=(di ⋯ nU)
theorem mF:fA "members" a0 ([]:List (Str×V))=([("members",a0)]:List (Str×V)):=nV
theorem xx:fA "places" a1 ([("members",a0)]:List (Str×V))=pC a0 a1:=(fc ⋯ nV)
theorem qS:(pC a0 a1).lookup ("place_of" : Str)=none:=(di ⋯ (di ⋯ rfl))
end
structure v7 (K:LV) (C:Addr):Prop where
 cl:nq K C
 members:gK K C "members"
 places:gK K C "places"
abbrev vN (ms:List Nat):List V:=ms.map λ k=>V.int (k:Nat)
structure mx (C:Addr) (H:Hp) (r m d:Addr) (ms:List Nat):Prop where
 ob:∃dx,H r=some (.ins C dx (pC (.ref m) (.ref d)))
 mem:H m=some (.lst (vN ms))
 lV:∃kvs,H d=some (.dK kvs)/\kvs.length<=ms.length/\∀k:Nat,fF kvs (Sum.inl (k:Int):Key)=if k∈ms then some (.int (ms.idxOf k:Nat)) else none
def jf (m d:Addr)(H H':Hp):Prop:=∀c o,H c=some o->c≠m->c≠d->H' c=some o
theorem jf.refl {m:Addr}:jf m d H H:=λ _ _ h _ _=>h
theorem jf.trans {m:Addr}{H B:Hp}(a:jf m d H H1)(b:jf m d H1 B):jf m d H B:=λ c o h G D=>b c o (a c o h G D) G D
theorem jf.of_same {m:Addr}(h:cy H H'):jf m d H H':=λ c o e _ _=>h c o e
section
variable {C r m d:Addr}{H H':Hp}{ms:List Nat}
theorem mx.xf (A:mx C H r m d ms):r≠m/\r≠d/\d≠m:=by
 obtain⟨G,D⟩:=A.ob;obtain⟨kvs,B,_⟩:=A.lV;refine⟨dD D A.mem ?_,dD D B ?_,dD B A.mem ?_⟩<;>(intro z;cases z)
theorem mx.same (A:mx C H r m d ms)(s:cy H H'):mx C H' r m d ms:=by
 obtain⟨⟨N,J⟩,G,kvs,D,B⟩:=A;exact⟨⟨N,s _ _ J⟩,s _ _ G,kvs,s _ _ D,B⟩
theorem mx.keep (A:mx C H r m d ms)(k:∀c o,H c=some o->(c=r\/c=m\/c=d)->H' c=some o):mx C H' r m d ms:=by
 obtain⟨⟨B,N⟩,J,kvs,G,D⟩:=A;exact⟨⟨B,k _ _ N (.inl rfl)⟩,k _ _ J (.inr (.inl rfl)),kvs,k _ _ G (.inr (.inr rfl)),D⟩
theorem mx.tup {c:Addr}{xs:List V}(A:mx C H r m d ms)(b:jf m d H H')(h:H c=some (.tup xs)):H' c=some (.tup xs):=by
 obtain⟨kvs,B,_⟩:=A.lV;refine b c _ h (dD h A.mem ?_) (dD h B ?_)<;>(intro z;cases z)
end
theorem Ii {k:Nat}(h:¬k∈ms):(ms++[k]).idxOf k=ms.length:=by
 rw[Nh,if_neg h];simp
theorem Ij {k j:Nat}(h:j∈ms):(ms++[k]).idxOf j=ms.idxOf j:=by
 rw[Nh,if_pos h]
section
variable (C:Addr)
inductive qT  (vs:List V) (H:Hp) (Q:VK) (_:XK):Prop
 | mk (r dx:Addr) (k:Nat) (_:vs=[.ref r,.int (k:Nat)]) (_:H r=some (.ins C dx [])) (_:∀(m d:Addr) (H':Hp),mx C H' r m d [k]->(∀c o,H c=some o->c≠r->H' c=some o)->H m=none->H d=none->Q .eu H')
inductive qU  (vs:List V) (H:Hp) (Q:VK) (_:XK):Prop
 | mk (r m d:Addr) (k:Nat) (ms:List Nat) (_:vs=[.ref r,.int (k:Nat)]) (_:mx C H r m d ms) (_:ms.length<=1000) (_:∀H',mx C H' r m d (LS.putIn ms k)->jf m d H H'->Q (.int ((LS.putIn ms k).idxOf k:Nat)) H')
end
def LP:Piece->Bool
 | ([],.go _)=>true
 | _=>false
theorem gO {l:List Nat}{n:Nat}(nd:l.Nodup)(h:∀x∈l,x<n):l.length<=n:=by
 have:=sub_len nd (m:=L1 n) λ x hx=>MI.mpr (h x hx)
 simpa using this
def fK:End->List V
 | .stop=>[.str "stop"]
 | .go _=>[.str "go"]
 | .eM b x n _ _=>[.str (wT b),.str x,.int n]
def gZ:End->List Nat->End
 | .go _,[a]=>.go a
 | .eM b x n _ _,[a,c]=>.eM b x n a c
 | e,_=>e
theorem qV (e:End):fX e=fK e++vN (cC e):=by cases e<;>rfl
theorem mY (h:ns.length=(cC e).length):fX (gZ e ns)=fK e++vN ns:=by
 cases e with
 | stop=>match ns,h with | [],_=>rfl
 | go p=>match ns,h with | [a],_=>rfl
 | eM b x n p q=>match ns,h with | [a,c],_=>rfl
theorem qW {t:Addr}(h:H t=some (.tup (fX e))):cW H (.ref t) (jd e):=by
 cases e with
 | stop=>exact .tup h (.cons (.str _) .nil)
 | go p=>exact .tup h (.cons (.str _) (.cons (.int _) .nil))
 | eM b x n p q=>exact .tup h (.cons (.str _) (.cons (.str _) (.cons (.int _) (.cons (.int _) (.cons (.int _) .nil)))))
def putAll (ms:List Nat)(ks:List Nat):List Nat:=ks.foldl LS.putIn ms
def fe (pc:Piece)(ks ms:List Nat):Piece:=(pc.1,gZ pc.2 (ks.map ms.idxOf))
def eQ (ps:List Piece)(st:Nat->Nat):Nat->List Nat->List Piece->List Nat×List Piece
 | 0,ms,outs=>(ms,outs)
 | f+1,ms,outs=>match ms[outs.length]? with
  | none=>(ms,outs)
  | some k=>match ps[k]? with
   | none=>(ms,outs)
   | some pc=>eQ ps st f (putAll ms ((cC pc.2).map st)) (outs++[fe pc ((cC pc.2).map st) (putAll ms ((cC pc.2).map st))])
theorem iD {ps:List Piece}{st:Nat->Nat}{k:Nat}{ms:List Nat}{outs:List Piece}{pc:Piece}(h:ms[outs.length]?=some k)(hp:ps[k]?=some pc) :
  eQ ps st (f+1) ms outs=eQ ps st f (putAll ms ((cC pc.2).map st)) (outs++[fe pc ((cC pc.2).map st) (putAll ms ((cC pc.2).map st))]):=by
 show (match ms[outs.length]? with
  | none=>(ms,outs)
  | some k=>match ps[k]? with
   | none=>(ms,outs)
   | some pc=>eQ ps st f (putAll ms ((cC pc.2).map st)) (outs++[fe pc ((cC pc.2).map st) (putAll ms ((cC pc.2).map st))]))=_
 rw[h];show (match ps[k]? with
   | none=>(ms,outs)
   | some pc=>eQ ps st f (putAll ms ((cC pc.2).map st)) (outs++[fe pc ((cC pc.2).map st) (putAll ms ((cC pc.2).map st))]))=_
 rw[hp]
theorem jt {st:Nat->Nat}(h:ms[outs.length]?=none):∀f,eQ ps st f ms outs=(ms,outs)
 | 0=>rfl
 | f+1=>by
  show (match ms[outs.length]? with
  | none=>(ms,outs)
  | some k=>match ps[k]? with
   | none=>(ms,outs)
   | some pc=>eQ ps st f (putAll ms ((cC pc.2).map st)) (outs++[fe pc ((cC pc.2).map st) (putAll ms ((cC pc.2).map st))]))=_
  rw[h]
theorem zj {ms:List Nat}{k:Nat}(h:ms.Nodup):(LS.putIn ms k).Nodup:=by
 unfold LS.putIn;split
 ·exact h
 ·next hk =>
  rw[Nq];refine⟨h,by simp,λ x hx y B z=>?_⟩;rw[LX.mp B] at z;exact hk (z ▸ hx)
theorem j6:∀{ks ms:List Nat},ms.Nodup->(putAll ms ks).Nodup
 | [],_,h=>h
 | k::ks,ms,h=>j6 (ks:=ks) (zj h)
theorem ju {n:Nat}:∀{ks ms:List Nat},(∀x∈ms,x<n)->(∀x∈ks,x<n)->∀x∈putAll ms ks,x<n
 | [],_,h,_=>h
 | k::ks,ms,h,hk=>ju (ks:=ks) (ms:=LS.putIn ms k) (λ x hx=>by
   rcases LS.jq.mp hx with hx | hx
   ·exact h x hx
   ·rw[hx];exact hk k (L9 ..)) λ x hx=>hk x (Mc _ hx)
theorem iW:∀(ks ms:List Nat),∃more,putAll ms ks=ms++more
 | [],ms=>⟨[],by simp[putAll]⟩
 | k::ks,ms=>by
  obtain⟨more,e⟩:=iW ks (LS.putIn ms k);have B:putAll ms (k::ks)=putAll (LS.putIn ms k) ks:=rfl;rw[B,e];unfold LS.putIn;split
  ·exact⟨more,rfl⟩
  ·exact⟨k::more,by simp⟩
theorem putAll_snoc (ms ks:List Nat)(k:Nat):putAll ms (ks++[k])=LS.putIn (putAll ms ks) k:=by unfold putAll;rw[NO];rfl
theorem Eh {k:Nat}(h:ks[i]?=some k):(LS.putIn (putAll ms (ks.take i)) k).idxOf k=(putAll ms ks).idxOf k:=by
 have G:ks=(ks.take i++[k])++ks.drop (i+1):=by
  have B:=Ou (i+1) ks;rw[Mz,h] at B;exact B.symm
 have D:putAll ms ks=putAll (LS.putIn (putAll ms (ks.take i)) k) (ks.drop (i+1)):=by
  conv=>lhs;rw[G]
  rw[<-putAll_snoc];unfold putAll;rw[NO]
 obtain⟨more,J⟩:=iW (ks.drop (i+1)) (LS.putIn (putAll ms (ks.take i)) k);rw[D,J,Nh,if_pos (LS.jq.mpr (.inr rfl))]
def cL (ss:List Nat)(k:Nat):Nat:=ss.getD k 0
def fm (k:Nat):PyData:=.int (k:Nat)
def JX (p:List Nat×List Piece):PyData:=.tuple [.tuple (p.2.map d8),.tuple (p.1.map fm)]
inductive nL  (vs:List V) (H:Hp) (Q:VK) (_:XK):Prop
 | mk (ea:Addr) (e:End) (_:vs=[.ref ea]) (_:H ea=some (.tup (fX e))) (_:∀t H',H' t=some (.tup (fK e))->cy H H'->Q (.ref t) H')
theorem iX {H:Hp}:∀ms:List Nat,dh H (vN ms) (ms.map fm)
 | []=>.nil
 | _::ms=>.cons (.int _) (iX ms)
theorem tV {K:LV}(h:X.K=K):wY X (Jv K):=by subst h;exact eY
theorem gU:∀ds:List PyData,(∀d∈ds,d.canLay0=true)->(PyData.tuple ds).canLay0=true
 | [],_=>rfl
 | d::ds,h=>by
  have B:=gU ds λ x hx=>h x (Mc _ hx)
  show (d.canLay0&&(PyData.tuple ds).canLay0)=true;rw[h d (L9 ..),B];rfl
theorem jE {m:Nat}:∀ds:List PyData,(∀d∈ds,d.depth<=m)->PyData.depthAll ds<=m
 | [],_=>Me _
 | d::ds,h=>by
  have B:=jE ds λ x hx=>h x (Mc _ hx)
  have D:=h d (L9 ..);show max d.depth (PyData.depthAll ds)<=m;omega
theorem zk (d:e6):(eN d).depth<=1:=by cases d<;>exact LW 1
theorem Ik (e:End):(jd e).depth<=1:=by cases e<;>exact LW 1
theorem Ei (p:Piece):(d8 p).depth<=3:=by
 have D:=jE (p.1.map eN) λ d hd=>by obtain⟨x,_,rfl⟩:=Mb.mp hd;exact zk x
 have B:=Ik p.2;show max (PyData.depthAll (p.1.map eN)+1) (max (jd p.2).depth 0)+1<=3;omega
theorem jw (h:hU x):PyData.canLay0 (.str x)=true:=by
 show (x.cps.all λ c=>decide (c<0x110000))=true;rw[<-Array.all_toList,Ob];intro c B;have:=h.az c B;exact decide_eq_true ⋯
theorem F9 (hx:∀x∈xs,hU x){d:e6}(h:fV xs d):(eN d).canLay0=true:=by
 cases d with
 | put x n =>
  refine gU _ λ y hy=>?_
  rcases LZ.mp hy with rfl | hy
  ·decide
  rcases LZ.mp hy with rfl | hy
  ·exact jw (hx _ h.1)
  rw[LX.mp hy];rfl
 | copy x z =>
  refine gU _ λ y hy=>?_
  rcases LZ.mp hy with rfl | hy
  ·decide
  rcases LZ.mp hy with rfl | hy
  ·exact jw (hx _ h.1)
  rw[LX.mp hy];exact jw (hx _ h.2)
 | add x n =>
  refine gU _ λ y hy=>?_
  rcases LZ.mp hy with rfl | hy
  ·decide
  rcases LZ.mp hy with rfl | hy
  ·exact jw (hx _ h.1)
  rw[LX.mp hy];rfl
 | read x =>
  refine gU _ λ y hy=>?_
  rcases LZ.mp hy with rfl | hy
  ·decide
  rw[LX.mp hy];exact jw (hx _ h)
 | tell x =>
  refine gU _ λ y hy=>?_
  rcases LZ.mp hy with rfl | hy
  ·decide
  rw[LX.mp hy];exact jw (hx _ h)
theorem Il (hx:∀x∈xs,hU x)(h:iT xs c e):(jd e).canLay0=true:=by
 cases e with
 | stop =>
  refine gU _ λ y hy=>?_
  rw[LX.mp hy];decide
 | go p =>
  refine gU _ λ y hy=>?_
  rcases LZ.mp hy with rfl | hy
  ·decide
  rw[LX.mp hy];rfl
 | eM b x n p q =>
  refine gU _ λ y hy=>?_
  rcases LZ.mp hy with rfl | hy
  ·cases b<;>decide
  rcases LZ.mp hy with rfl | hy
  ·exact jw (hx _ h.1)
  rcases LZ.mp hy with rfl | hy
  ·rfl
  rcases LZ.mp hy with rfl | hy
  ·rfl
  rw[LX.mp hy];rfl
def zl (ps:List Piece):Prop:=∀p∈ps,(PyData.tuple (p.1.map eN)).canLay0=true/\(jd p.2).canLay0=true
theorem zm (hx:∀x∈xs,hU x)(ok:fi xs m ps):zl ps:=λ p hp =>
 ⟨gU _ λ d hd=>by obtain⟨x,B,rfl⟩:=Mb.mp hd;exact F9 hx ((ok.jM p hp).2 x B),Il hx (ok.ends p hp)⟩
theorem v9 (k:Nat):∀ms:List Nat,w5 (.int (k:Nat)) (vN ms)=decide (k∈ms)
 | []=>rfl
 | m::ms=>by
  have B:=v9 k ms;show ((((m:Nat):Int) == ((k:Nat):Int))||w5 (.int (k:Nat)) (vN ms))=_;rw[B];by_cases e:m=k
  ·subst e;simp
  ·have D:¬(m:Int)=(k:Int):=by omega
   rw[beq_false_of_ne D,Bool.false_or];have:k∈m::ms↔k∈ms:=by rw[LZ];exact⟨λ h=>h.resolve_left λ z=>e z.symm,.inr⟩
   simp only[this]
theorem AV (ms:List Nat):(vN ms).all lL=true:=by rw[Ob];intro v B;obtain⟨k,_,rfl⟩:=Mb.mp B;rfl
theorem Ej (ms:List Nat):vN ms=(ms.map λ k:Nat=>(k:Int)).map V.int:=by rw[MT];rfl
theorem pD (J:H D=some (.tup (fX e)))(q:∀t H',H' t=some (.tup (fK e))->cy H H'->Q (.ref t) H'):G3 K (.ref D) none (some ((fK e).length:Nat)) H Q:=by
 have B:jT (fX e) none (some ((fK e).length:Nat))=fK e:=by
  unfold jT;rw[HT.tN,HT.rR];cases e<;>rfl
 refine⟨D,_,rfl,cE.of J,λ G=>?_,λ _ p hp=>?_⟩
 ·unfold jT at B;rw[G.1,G.2] at B;refine q D H ?_ (cy.refl H);rw[J,<-B];simp
 ·rw[B];exact q p _ cu (cy.new hp)
section
variable {X:Cx}{pins:Z1}{LQ : L2.St}{H:Hp}{s:Shared}{a:Addr}
end
section
variable {X:Cx}
end
theorem Ga (h:hU x):PyData.canLay0 (.str x)=true:=by
 show (x.cps.all λ c=>decide (c<0x110000))=true;rw[<-Array.all_toList,Ob];intro c B;have:=h.az c B;exact decide_eq_true ⋯
def Co (T:Str->Sx)(m:Nat):Prop:=∀ss:List Str,(∀x∈ss,T x≠iI)->ss.Nodup->ss.length<=m
inductive AW (aA:Addr) (vs:List V) (H:Hp) (Q:VK) (_:XK):Prop
 | mk (fv:V) (x:Str) (T:Str->Sx) (_:vs=[fv,.str x]) (_:FV H fv T) (_:∀v H',SV aA H' v (T x)->cy H H'->Q v H')
inductive tm (aA:Addr) (vs:List V) (H:Hp) (Q:VK) (_:XK):Prop
 | mk (fv sv:V) (x:Str) (T:Str->Sx) (s:Sx) (_:vs=[fv,.str x,sv]) (_:FV H fv T) (_:SV aA H sv s) (_:Co T 62) (_:∀v H',FV H' v (je T x s)->cy H H'->Q v H')
section
variable {X:Cx}
end
inductive AX (K:LV) (vs:List V) (H:Hp) (Q:VK) (_:XK):Prop
 | mk (n:Int) (q:Addr) (lo hi:Option Int) (_:vs=[.int n,.ref q]) (_:cE K H q [vO lo,vO hi]) (_:Q (.bl (nE n lo hi)) H)
inductive qX (K:LV) (F:Option Int->Option Int->Int->Rs) (vs:List V) (H:Hp) (Q:VK) (_:XK):Prop
 | mk (p:Addr) (n:Int) (lo hi:Option Int) (_:vs=[.ref p,.int n]) (_:cE K H p [vO lo,vO hi]) (_:∀v H',RV H' v (F lo hi n)->cy H H'->Q v H')
inductive wa (K:LV) (vs:List V) (H:Hp) (Q:VK) (_:XK):Prop
 | mk (p:Addr) (w:Str) (n:Int) (side:Bool) (lo hi:Option Int) (_:vs=[.ref p,.str w,.int n,.bl side]) (_:cE K H p [vO lo,vO hi]) (_:∀v H',RV H' v (gF w lo hi n side)->cy H H'->Q v H')
def jH (T:Str->Sx)(b:Bool)(x:Str)(n:Int)(side:Bool):Rs:=gF (wT b) (T x).1 (T x).2 n side
def mi (T:Str->Sx):End->List (Option (Str->Sx))
 | .stop=>[]
 | .go _=>[some T]
 | .eM b x n _ _=>[(jH T b x n true).map (je T x),(jH T b x n false).map (je T x)]
def BV (H:Hp)(u:V):Option (Str->Sx)->Prop
 | none=>u=.eu
 | some T=>FV H u T
theorem BV.dr {H H':Hp}{u:V}{o:Option (Str->Sx)}(h:BV H u o)(k:∀p xs,H p=some (.tup xs)->H' p=some (.tup xs)):BV H' u o:=by
 cases o with
 | none=>exact h
 | some T=>exact FV.dr h k
def qf (H:Hp)(us:List V)(os:List (Option (Str->Sx))):Prop:=Paired (BV H) us os
def gI (T:Str->Sx)(e:End):List (Nat×(Str->Sx)):=((cC e).zip (mi T e)).filterMap λ p=>p.2.map λ U=>(p.1,U)
inductive zo (aA:Addr) (vs:List V) (H:Hp) (Q:VK) (_:XK):Prop
 | mk (fv:V) (ea:Addr) (T:Str->Sx) (e:End) (_:vs=[fv,.ref ea]) (_:FV H fv T) (_:H ea=some (.tup (fX e))) (_:Co T 62) (_:∀(t:Addr) (us:List V) (H':Hp),H' t=some (.tup us)->qf H' us (mi T e)->cy H H'->Q (.ref t) H')
def PV (H:Hp)(v:V)(p:Nat×(Str->Sx)):Prop:=∃q u,v=.ref q/\H q=some (.tup [.int p.1,u])/\FV H u p.2
theorem PV.dr {H H':Hp}{v:V}{p:Nat×(Str->Sx)}(h:PV H v p)(k:∀p xs,H p=some (.tup xs)->H' p=some (.tup xs)):PV H' v p:=by
 obtain⟨q,u,e,D,B⟩:=h;exact⟨q,u,e,k _ _ D,B.dr k⟩
def qY (H:Hp)(vs:List V)(ps:List (Nat×(Str->Sx))):Prop:=Paired (PV H) vs ps
theorem qY.dr {H H':Hp}(k:∀p xs,H p=some (.tup xs)->H' p=some (.tup xs)):∀{vs:List V} {ps:List (Nat×(Str->Sx))},qY H vs ps->qY H' vs ps
 | _,_,.nil=>.nil
 | _,_,.cons h t=>.cons (h.dr k) (qY.dr k t)
theorem qf.dr {H H':Hp}(k:∀p xs,H p=some (.tup xs)->H' p=some (.tup xs)):∀{vs:List V} {ps:List (Option (Str->Sx))},qf H vs ps->qf H' vs ps
 | _,_,.nil=>.nil
 | _,_,.cons h t=>.cons (h.dr k) (qf.dr k t)
theorem qY.same {H:Hp}{ps:List (Nat×(Str->Sx))}(h:qY H vs ps)(s:cy H H'):qY H' vs ps:=h.dr λ p xs e=>s _ _ e
theorem qf.same {H:Hp}{ps:List (Option (Str->Sx))}(h:qf H vs ps)(s:cy H H'):qf H' vs ps:=h.dr λ p xs e=>s _ _ e
inductive AY (aA:Addr) (vs:List V) (H:Hp) (Q:VK) (_:XK):Prop
 | mk (fv:V) (ea:Addr) (T:Str->Sx) (e:End) (_:vs=[fv,.ref ea]) (_:FV H fv T) (_:H ea=some (.tup (fX e))) (_:Co T 62) (_:∀(t:Addr) (vs:List V) (H':Hp),H' t=some (.tup vs)->qY H' vs (gI T e)->cy H H'->Q (.ref t) H')
def zp (T:Str->Sx):Prop:=∀x,T x≠iI->PyData.canLay0 (.str x)=true
theorem Ek {T:Str->Sx}(h:zp T):∀B:List Str,(∀x∈B,T x≠iI)->(jr T B).canLay0=true
 | [],_=>rfl
 | x::B,hs=>by
  have G:=Ek h B λ y D=>hs y (Mc _ D)
  show ((PyData.canLay0 (.str x)&&((dS (T x)).canLay0&&true))&&(jr T B).canLay0)=true;rw[h x (hs x (L9 ..)),G9,G];rfl
theorem JY (T:Str->Sx)(B:List Str):(jr T B).depth<=3:=by
 have go:∀B:List Str,PyData.depthAll (B.map (dF T))<=2:=by
  intro B
  induction B with
  | nil=>exact Me _
  | cons x B ih =>
   show max (max 0 (max ((dS (T x)).depth) 0)+1) (PyData.depthAll (B.map (dF T)))<=2;have hd:(dS (T x)).depth<=1:=by
    obtain⟨a,b⟩:=T x;cases a<;>cases b<;>(show (1:Nat)<=1;decide)
   omega
 show PyData.depthAll (B.map (dF T))+1<=3;have:=go B;omega
theorem Im {T:Str->Sx}(h:(cC e).length<2):mi T e=(cC e).map λ _=>some T:=by
 cases e with
 | stop=>rfl
 | go p=>rfl
 | eM b x n p q=>exact absurd h (by show ¬2<2;omega)
theorem AZ {H:Hp}{fv:V}{T:Str->Sx}(h:FV H fv T):∀l:List Nat,qf H (NW l.length fv) (l.map λ _=>some T)
 | []=>.nil
 | _::l=>.cons h (AZ h l)
def tq (H:Hp)(vs:List V)(rs:List Rs):Prop:=Paired (RV H) vs rs
theorem tq.same {H H':Hp}(s:cy H H'):∀{vs:List V} {rs:List Rs},tq H vs rs->tq H' vs rs
 | _,_,.nil=>.nil
 | _,_,.cons h t=>.cons (h.same s) (tq.same s t)
theorem tq.put {H:Hp}{l:Addr}{xs:List V}{o:HO}(B:H l=some (.lst xs)):∀{vs:List V} {rs:List Rs},tq H vs rs->tq (upd H l o) vs rs
 | _,_,.nil=>.nil
 | _,_,.cons h t=>.cons (h.put B) (tq.put B t)
theorem RV.sv {s:Sx}(h:RV H v (some s)):SV aA H v s:=by
 obtain⟨a,b⟩:=s;obtain⟨p,e,h⟩:=h;exact .inl ⟨p,e,h⟩
def qZ (ss:List Str):PyData:=.tuple (ss.map λ x=>.tuple [.str x,.tuple [.int 0,.int 0]])
inductive Ba  (vs:List V) (H:Hp) (Q:VK) (_:XK):Prop
 | mk (plv:V) (ps:List Piece) (xs:List Str) (m:Nat) (_:vs=[plv]) (_:cW H plv (fq ps)) (_:fi xs m ps) (_:xs.length<64) (_:(eO ps).length<=4000) (_:∀(v:V) (ss:List Str) (H':Hp),cW H' v (qZ ss)->ss.Perm (gS (eO ps))->sortedS ss=true->cy H H'->Q v H')
theorem j7:∀B:List Str,dQ (B.map λ x=>PyData.tuple [.str x,.tuple [.int 0,.int 0]])=true
 | []=>rfl
 | x::B=>by
  show (true&&dQ (B.map λ x=>PyData.tuple [.str x,.tuple [.int 0,.int 0]]))=true;rw[j7 B];rfl
theorem El {T:Str->Sx}{k:Nat}{o:Option (Str->Sx)}(B:(cC e)[i]?=some k)(D:(mi T e)[i]?=some o) :
  (((cC e).zip (mi T e)).take (i+1)).filterMap (λ p=>p.2.map λ U=>(p.1,U))=(((cC e).zip (mi T e)).take i).filterMap (λ p=>p.2.map λ U=>(p.1,U))++(o.map λ U=>(k,U)).toList:=by
 have hz:((cC e).zip (mi T e))[i]?=some (k,o):=by rw[List.getElem?_zip_eq_some];exact⟨B,D⟩
 rw[Mz,hz,List.filterMap_append];cases o<;>rfl
theorem nO {B D:Type}{F:B->D->Prop}{l:List B}{m:List D}(h:Paired F l m){i:Nat}{x:B}(e:l[i]?=some x):∃y,m[i]?=some y/\F x y:=LS.ph h e
theorem jF {B D:Type}{F:B->D->Prop}:∀{l l':List B} {m m':List D},Paired F l m->Paired F l' m'->Paired F (l++l') (m++m')
 | _,_,_,_,.nil,h=>h
 | _,_,_,_,.cons r t,h=>.cons r (jF t h)
section
variable {prog:Program}{w:World}{A:Around}{E:Z0}{s:Shared}
end
section
variable {X:Cx}
end
theorem Io (ok:fi xs m ps):(eO ps).length<=ps.length*(2*m+1):=by
 unfold eO;have h:∀p∈ps,(pNames p).length<=2*m+1:=λ p hp=>by
  have D:=(ok.jM p hp).1;unfold pNames;rw[LY];have B:(p.1.flatMap hV).length<=2*p.1.length:=by
   induction p.1 with
   | nil=>simp
   | cons d ds ih =>
    rw[List.flatMap_cons,LY,Ms];have:(hV d).length<=2:=by cases d<;>simp[hV]
    omega
  have G:(mW p.2).length<=1:=by cases p.2<;>simp[mW]
  omega
 clear ok
 induction ps with
 | nil=>simp
 | cons p ps ih =>
  rw[List.flatMap_cons,LY,Ms];have D:=h p (L9 ..);have B:=ih λ q hq=>h q (Mc _ hq)
  rw[Nat.add_mul];omega
theorem z4 {B:Value}{q:Str}(h:Nd K B q=true):Oc K B=true:=by
 unfold Nd at h;unfold Oc;split at h
 ·split at h
  ·rename_i ho
   dsimp only;rw[ho]
  ·cases h
 ·cases h
theorem Ip {Q:Z0}(q:Q (.ref s.heap.objs.size) { s with heap:=s.heap.push (fW w) }):wpAny (model prog w) A (newSet (.type "set")) Q E s:=by
 unfold newSet setsByText;refine Oz (Oz (O2 (OA ?_)));dsimp only;simp only[newObj]
 first
  | exact OY (OA q)
  | exact Oz (OY (OA q))
  | exact Oz (OY (OA (OA q)))
  | exact Oz (OY q)
section
variable {X:Cx}
theorem Iq {e:Expr}{k:Nat}{pos:Pos}{N:TE}(J:Oc X.K X.env.code=true)(he:PE X e N)(hk:displayRoad k [e]=.oneByOne:=by rfl)(hs:starEach [e] X.env=[(false,eval e X.env)]:=by rfl) :
  PE X (.Set [e] k pos) (λ G H Q=>∀l,H l=none->N G (upd H l (fJ X.prog X.w l [])) λ x H1=>H1 l=some (fJ X.prog X.w l [])/\∃kk,x=kV kk/\Q (.ref l) (upd H1 l (fJ X.prog X.w l [kk]))):=by
 intro B s G H Q I h;rw[arm_eval_Set];refine Oz (OM ?_);refine Oz (PySem.W.kds_main I.lP J λ b=>?_);rw[hs,hk];unfold setDisplay;dsimp only;rw[if_neg ⋯];refine Oz (Ip ?_);dsimp only;simp only[Mt,NI,Ms,NK,Nat.reduceAdd,gt_iff_lt,Nat.reduceLT,if_false,List.findIdx?_cons,List.findIdx?_nil,Option.map_none,Option.getD_none,List.take_succ_cons,List.take_zero,List.drop_succ_cons,List.drop_nil,evalAll,MZ];have Z:iy (dm X.prog X.w) (s.heap.push (fW X.w)) s.heap.objs.size []:=qK rfl (L7 _ rfl);have I1:Inv X B G (upd H s.heap.objs.size (fJ X.prog X.w s.heap.objs.size [])) { s with heap:=s.heap.push (fW X.w) }:=I.laid (t':=s.toks) (λ b o e=>L3 _ e) (LW _) (oO Z);refine Oz (OC ?_);refine Oz (Oz (Oz (dC (he B _ G _ _ I1 (h _ I.fresh)) λ v s1 ⟨x,H1,Y,rx,D,kk,ex,q⟩=>Oz (OM (OA ?_)))));subst ex;refine Oz (OC (OA (OA ?_)));refine Oz (OC ?_);simp only[Ng,NY];refine Oz (Oz (Oz (v5 (sk rx) (Y.vY D) ⋯ λ h' b S' c=>OA ?_)));refine OA ?_;rw[if_neg ⋯];refine OA ?_;refine Oz (OA (OA (OA ?_)));have e1:LS.putIn ([]:List Key) kk=[kk]:=by unfold LS.putIn;rw[if_neg (by simp)];rfl
 rw[e1] at S';refine⟨.ref s.heap.objs.size,_,Y.write (t':=s1.toks+1) (x:=s.heap.objs.size) (e:=s.heap.objs.size) (by rw[D];exact trivial) (.inl rfl) (λ c u' J hu=>b.extBut c u' J hu) ?_ (oO S'),rfl,q⟩;obtain⟨o,_,_,_,So⟩:=S';exact⟨o,So.at_⟩
end
section
variable {prog:Program}{w:World}{A:Around}{E:Z0}{s:Shared}
theorem Em (hd:(d == sysModules)=false) :
  MeetsIn prog w (Builtin.«dict.__len__» ⟨[.ref d],[]⟩) (λ _ R s=>∃(o:Obj) (es:Array DictEntry) (ep:Nat),s.heap.get? d=some o/\o.data=.dict es ep/\R (.ok (.ret (.int es.size s.toks))) { s with toks:=s.toks+1 }) :=
 .of_wp λ A R s ⟨o,es,ep,ho,B,h⟩=>by
  show wpAny _ _ (dictSize d >>= _) _ _ s;unfold dictSize;refine Oz (Oz (wpAny_dictEntries ho B (OA ?_)));show wpAny _ _ (Builtin.Dict.pendingCount d >>= _) _ _ s;refine Oz (wpAny_pendingCount_other hd ?_);refine wpAny_ret_mkInt ?_;rw[Nat.add_zero];exact h
theorem Ir {o:Obj}{es:Array DictEntry}{ep:Nat}{Q:Z0}(hd:(d == sysModules)=false)(ho:s.heap.get? d=some o)(J:o.ExactDict)(B:o.data=.dict es ep)(D:(es.size:Int)<2 ^ 63)
  (h:Q (.int es.size (s.toks+1)) { s with toks:=s.toks+1+1 }):wpAny (model prog w) A (call (.builtin "len") [.ref d]) Q E s:=by
 refine Calls.call_function_entry kind_len plain_len entry_len (args_len1 _) ?_;have G:s.TypeIs (.ref d) "dict" := ⟨o,ho,J.1⟩;unfold Builtin.«len»;refine Oz (m:=oneArg "len" _) (OA ?_);refine Oz (m:=callSpecial? (.ref d) (Str.ofString "__len__")) (wpAny_callSpecial?_slot (name:=Str.ofString "__len__") G F.slot_dict_len
  (call_meetsIn F.slot_dict_len G F.entry_dict_len (F.args_dict_len_1 _) (Em hd) ⟨o,es,ep,ho,B,?_⟩))
 show wpAny _ _ _ _ _ { s with toks:=s.toks+1 };refine Oz (OC (OA ?_));refine Oz (wpAny_letGo ?_);show wpAny _ _ (if ((es.size:Nat):Int)<0 then _ else _) _ _ _;rw[if_neg ⋯];show wpAny _ _ (if ((es.size:Nat):Int) >= 2 ^ 63 then _ else _) _ _ _;rw[if_neg ⋯];exact Oz (wpAny_mkInt (OA ⟨_,rfl,h⟩))
end
section
variable {X:Cx}
theorem Cq:il X (.builtin "len") (λ xs H Q=>∃a kvs,xs=[V.ref a]/\H a=some (gG X.prog X.w a kvs)/\Q (.int kvs.length) H):=by
 intro B s LQ H xs us Q I r h;obtain⟨a,kvs,rfl,D,q⟩:=h;obtain⟨u,rfl,J⟩:=vals1 r;cases J;obtain⟨N,h2,xs,o,es,ep,Z,g2,Y,G,g5,g6⟩:=(show oR X.prog X.w a kvs s.heap from (I.de a _ D).1);have hz:es.size=kvs.length:=by rw[g6.len,<-MD,G,LU]
 have hn:=mO;refine Ir N Z g2 Y ⋯ ?_;rw[hz];exact⟨.int _,H,I.tok _,⟨_,rfl⟩,q⟩
theorem Gb {pos:Pos}{keys:List (Option Expr)}{B:List Expr}{G:List (TE×TE)}(hu:X.A.units+66<cLine)(h:Dq X pos keys B G)(D:keys.all (·.isSome)=true)(hl:keys.length=B.length)(h0:keys≠[])
  (Y:keys.length<=15):PE X (.Dict keys B pos) (λ LQ H Q=>∀p,H p=none->uL G LQ (upd H p (gG X.prog X.w p [])) λ ps N=>N p=some (gG X.prog X.w p [])/\∃k v d,ps=[(.ref k,v)]/\kj d/\cW N (.ref k) d/\Q (.ref p) (upd N p (gG X.prog X.w p [(d,k,v)]))):=by
 intro J s LQ H Q I q;have hn:=I.de.fresh (LW s.heap.objs.size);obtain⟨_,hb,_⟩:=(show ff X.prog X.w H _ s.heap.objs.size (.dK []) from o7 s.heap I.big);have D0:oR X.prog X.w s.heap.objs.size [] (s.heap.push { cls:=.type "dict",data:=.dict #[] }):=⟨hb,Me _,[],_,#[],0,L7 _ rfl,⟨rfl,rfl,rfl⟩,rfl,rfl,Nr,.nil⟩;have I1:=I.laid (a:=s.heap.objs.size) (o:=gG X.prog X.w s.heap.objs.size []) (h':=s.heap.push { cls:=.type "dict",data:=.dict #[] }) (t':=s.toks) (λ _ _ q=>L3 _ q) (LW _) (pB D0);refine wpAny_Dict_any D hl h0 Y (dC (h J _ LQ _ _ I1 (q _ hn)) λ ws s2 ⟨ps,N,I2,rel,e,k,v,d,ep,hk,r,q2⟩=>?_);subst ep;cases rel with
 | @cons _ wp _ _ hr t =>
 cases t;obtain⟨wk,wv⟩:=wp;obtain⟨r1,r2⟩:=hr;cases (show wk=Value.ref k from r1);obtain⟨a1,_,xs,kx,dd⟩:=sr I2 e (λ p hp=>nomatch hp);cases kx;unfold storeAll;simp only[Ng,NY];refine Oz (Oz (wpAny_dictSet_heap (knd:=mX X.prog X.w) (show X.A.units+64<cLine by omega) (key_is I2 hk r) dd (λ h' a0 Z=>OA (OA ?_)) (Me _)));obtain⟨o',es,ep,g1,g2,g3,g4,g5,g6⟩:=id a0;refine⟨.ref s.heap.objs.size,_,I2.write (t':=_) (x:=s.heap.objs.size) (e:=s.heap.objs.size) (by rw[e];exact trivial) (.inl rfl) (λ c u' hc hu=>(Z.2 c hc).trans hu) ⟨o',g1⟩ (pB ⟨a1,(by show 1<=sizeLine;decide),[(d,k,wv)],o',es,ep,g1,g2,g3,g4,g6,.cons ⟨rfl,rfl,r2⟩ .nil⟩),rfl,q2⟩
end
section
variable {X:Cx}
end
section
variable {prog:Program}{w:World}{A:Around}{E:Z0}{s:Shared}
theorem xy (hh:A.handled=none)(B l:Addr)(hne:l≠B)(its:Array Value):Draws prog w A B [B,l] its.size (λ i v=>its[i]?=some v) (λ i h=>h.IsTupleIter B l i/\h.IsTuple l its) where
 live:=λ _ _ st=>let ⟨o,ho,_⟩:=st.1;⟨o,ho⟩
 frame:=λ _ _ _ st G=>⟨st.1.at λ o e=>G B (by simp) o e,j5 st.2 λ o e=>G l (by simp) o e⟩
 item:=λ i s Q E hi st Y=>uS st.1 st.2 (x:=its[i]) (by simp[hi]) λ g N D=>Y _ g s.toks (by simp[hi]) ⟨N,j5 st.2 λ o e=>D.extBut _ _ hne e⟩ D
 done:=λ s Q E st J=>vV hh st.1 st.2 (by simp) J
abbrev Hc (h:Heap)(l:Addr):Heap:=h.push { cls:=.type "tuple_iterator",data:=.fields #[.ref l,.int 0 0] }
abbrev KO (h:Heap)(l:Addr):Heap:=(Hc h l).push { cls:=.type "enumerate",data:=.fields #[.none,.bool false,.ref h.objs.size,rawInt 0,.none,.none] }
theorem JZ (l:Addr) (its:Array Value):Meets (Builtin.«enumerate.__new__» ⟨[.type "enumerate",.ref l],[]⟩) (λ _ R s=>s.heap.IsTuple l its/\R (.ok (.ret (.ref (Hc s.heap l).objs.size))) { s with heap:=KO s.heap l }) :=
 .of_wp λ P Z A' R' Y hh=>by
  obtain⟨hp,g,d,N,os⟩:=Y;obtain⟨G,hh⟩:=hh;have J:=sub_enumerate;have D:Heap.IsTuple (Shared.heap ⟨hp,g,d,N,os⟩) l its:=G;obtain⟨ol,B,cl,kl,dl⟩:=id G
  wp_walk using AutoSeq1.wpAny_loadPart' B
  refine wpAny_stack_any λ st=>OA ?_
  split
  ·rename_i c _ _ _ _ _
   cases (c == Value.type "enumerate")
   ·wp_walk using AutoSeq1.wpAny_loadPart' B,OQ D
    exact⟨_,rfl,hh⟩
   ·wp_walk using AutoSeq1.wpAny_loadPart' B,OQ D
    exact⟨_,rfl,hh⟩
  ·wp_walk using AutoSeq1.wpAny_loadPart' B,OQ D
   exact⟨_,rfl,hh⟩
theorem Iu {l:Addr}{its:Array Value}{Q:Z0}(D:s.heap.IsTuple l its)
  (h:∀g,IsEnum g (s.heap.objs.size+1) s.heap.objs.size 0 .none->g.IsTupleIter s.heap.objs.size l 0->(∀b o,s.heap.get? b=some o->g.get? b=some o)->Q (.ref (s.heap.objs.size+1)) { s with heap:=g }) :
  wpAny (model prog w) A (call (.type "enumerate") [.ref l]) Q E s:=by
 refine callType_new F.called_enumerate ⋯ (F.typeCall_enumerate_1 _) (F.newCall_enumerate_1 _) (λ obj=>F.args_object_init_2 obj _) F.entry_enumerate_new (JZ l its) ⟨D,?_⟩;have hz:(Hc s.heap l).objs.size=s.heap.objs.size+1:=Ml ..;have B:IsEnum (KO s.heap l) (Hc s.heap l).objs.size s.heap.objs.size 0 .none:=L7 _ rfl;show _/\_;rw[hz] at B ⊢;exact⟨⟨_,B,rfl⟩,h _ B ⟨_,L3 _ (L7 _ rfl),rfl,rfl⟩ λ b o x=>L3 _ (L3 _ x)⟩
end
def q5 (Sq:Hp->Addr->List V->Prop)(a:Addr):It :=
 ⟨λ i H=>∃xs x,Sq H a xs/\xs[i]?=some x,
  λ i H v H'=>∃t x,v=.ref t/\H t=none/\H' = upd H t (.tup [.int (i:Nat),x])/\∀xs,Sq H a xs->xs[i]?=some x,
  λ i H=>∃xs,Sq H a xs/\xs.length=i⟩
section
variable {X:Cx}{pins:Z1}{LQ : List (Option V)}{H:Hp}{s:Shared}
theorem Bb {e G:Addr}{x:V}{Pv:Nat->Value->Prop}{St:Nat->Heap->Prop}{elts:List Expr}{kk:Nat}{pos:Pos}
  (D:Draws X.prog X.w X.A.in1 G [G,a] n Pv St) (I:Inv X pins LQ H s) (hf:∀b∈[e,G],jQ X pins H b) (he:∃J,IsEnum s.heap e G i J) (a2:St i s.heap) (a5:i<n) (hne:e≠G) (a1:e≠a) (hx:∀v,Pv i v->RelV x v) :
  wpAny (model X.prog X.w) X.A (pyNext (.ref e)) (λ r s1=>∃u,r=some u /\
   wpAny (model X.prog X.w) X.A (letOwnedTupleGo (.Tuple elts kk pos) (.ref e) u) (λ _ s2=>∃v H',Inv X pins LQ H' s2/\RelV v u/\(∃t,v=.ref t/\H t=none/\H' = upd H t (.tup [.int (i:Nat),x]))/\((∃J,IsEnum s2.heap e G (i+1:Nat) J)/\St (i+1) s2.heap)/\∀b∈[e,G],H' b=none) E s1) E s:=by
 obtain⟨J,he⟩:=he;have Y:G<s.heap.objs.size:=by obtain⟨_,y⟩:=D.live _ _ a2;exact L0 y
 have a0:e<s.heap.objs.size:=L0 he;have sz:∀c∈[e,G],c≠s.heap.objs.size:=λ c B z=>by
  subst z;simp only[LZ,MH,or_false] at B
  rcases B with z | z
  ·rw[<-z] at a0;exact absurd a0 (Mq _)
  ·rw[<-z] at Y;exact absurd Y (Mq _)
 refine wpAny_pyNext_enum_itemD D he a2 a5 hne (by simp only[LZ,MH,or_false,not_or];exact⟨hne,a1⟩) λ Z h' N px ho a3 hT hsz hk=>?_
 refine⟨.ref s.heap.objs.size,rfl,wpAny_letOwnedTupleGo_enum ho λ g' ge sb=>?_⟩;have fr:=I.de.fresh (a:=s.heap.objs.size) (LW _);have I1:Inv X pins LQ (upd H s.heap.objs.size (.tup [.int (i:Nat),x])) { s with heap:=s.heap.push { cls:=.type "tuple",data:=.seq #[.int i N,Z] },toks:=N+1 } :=
  I.laid (λ _ _ e=>L3 _ e) (LW _) ⟨by show 2<=sizeLine;decide,[.int i N,Z],.cons ⟨N,rfl⟩ (.cons (hx Z px) .nil),by first | exact IsTup.new _ _ | exact⟨_,L7 _ rfl,rfl,_,rfl,rfl⟩⟩
 have f1:∀c∈[e,G],jQ X pins (upd H s.heap.objs.size (.tup [.int (i:Nat),x])) c:=λ c B=>by
  obtain⟨f0,a4⟩:=hf c B;exact⟨by rw[cx (sz c B)];exact f0,a4⟩
 have I2:Inv X pins LQ (upd H s.heap.objs.size (.tup [.int (i:Nat),x])) { s with heap:=g',toks:=N+1 }:=Inv.oM (s:={ s with heap:=s.heap.push { cls:=.type "tuple",data:=.seq #[.int i N,Z] },toks:=N+1 }) (fp:=[e,G]) (h':=g') (t':=N+1) I1 (λ c o B q=>by
  simp only[LZ,MH,or_false,not_or] at B;refine sb.extBut _ _ B.1 ?_
  rcases Heap.get?_push_cases q with ⟨rfl,rfl⟩ | q
  ·exact hT
  ·exact hk c o B.1 B.2 q) f1
 refine⟨.ref s.heap.objs.size,_,I2,rfl,⟨_,rfl,fr,rfl⟩,⟨⟨Z,by simpa using ge⟩,D.frame _ _ _ a3 λ b hb o q=>(sb.2 b λ z=>?_).trans q⟩,λ c B=>(f1 c B).1⟩;subst z;simp only[LZ,MH,or_false] at hb;exact hb.elim hne a1
theorem Cr {pos:Pos}(a e D:Addr)(hne:e≠D)(a1:e≠a)(J:a≠D) :
  Turn P w K (.Tuple elts kk pos) (q5 (cE K) a) [e,D] e (λ i h=>(∃B,IsEnum h e D (i:Nat) B)/\h.IsTupleIter D a i) where
 mem:=by simp
 obj:=λ i h st c G=>by
  obtain⟨⟨B,N⟩,⟨oj,ej,cj,dj⟩⟩:=st;simp only[LZ,MH,or_false] at G
  rcases G with rfl | rfl
  ·exact⟨_,N,λ v e=>by cases e⟩
  ·exact⟨oj,ej,λ v e=>by rw[dj] at e;cases e⟩
 keep:=λ i h g st kp=>by
  obtain⟨⟨B,N⟩,⟨oj,ej,rj⟩⟩:=st;exact⟨⟨B,kp e (by simp) _ N⟩,⟨oj,kp D (by simp) _ ej,rj⟩⟩
 item:=by
  intro X hP hw hK G i pins s LQ H E I hf st hg;subst hP hw hK;obtain⟨xs,x,Y,hx⟩:=hg;obtain⟨is,Z,pa,_⟩:=I.tuple Y;have la:=Z.length;have a2:i<is.toArray.size:=by have:=(Md.mp hx).1;simp;omega
  refine OB (Bb (elts:=elts) (kk:=kk) (pos:=pos) (xy (A:=X.A.in1) (I.ok.hd G) D a J is.toArray) I hf st.1 ⟨st.2,show s.heap.IsTuple a is.toArray from pa⟩ a2 hne a1 (x:=x) (λ v hv=>?_)) (λ r s1 hr=>?_) λ _ _ z=>z
  ·obtain⟨u,hu,ru⟩:=Z.get hx;have:is[i]?=some v:=by simpa using hv
   rw[hu] at this;cases this;exact ru
  ·obtain⟨u,e1,a0⟩:=hr;refine⟨u,e1,OB a0 (λ _ s2 ⟨v,H',I',rv,⟨t,e2,ht,e3⟩,⟨g1,g2⟩,g3⟩=>⟨v,H',I',rv,⟨t,x,e2,ht,e3,λ a3 h1=>by rw[I.nj h1 Y];exact hx⟩,⟨g1,g2.1⟩,g3⟩) λ _ _ z=>z⟩
 done:=by
  intro X hP hw hK G i pins s LQ H E I hf st hg;subst hP hw hK;obtain⟨xs,Y,hl⟩:=hg;obtain⟨is,Z,pa,_⟩:=I.tuple Y;obtain⟨⟨B,N⟩,gi⟩:=st;have la:=Z.length;have hsz:is.toArray.size=i:=by simp;omega
  refine wpAny_pyNext_enum_endD (xy (A:=X.A.in1) (I.ok.hd G) D a J is.toArray) N ⟨by rw[hsz];exact gi,show s.heap.IsTuple a is.toArray from pa⟩ λ h' eb=>⟨rfl,I.oM (fp:=[e,D]) (t':=s.toks) (λ c o G q=>?_) hf⟩
  simp only[LZ,MH,or_false,not_or] at G;exact eb c o G.2 q
 self:=λ _ _ _ _ _ st h=>O5 st.1.choose_spec h
theorem Cs {pos:Pos}(a e D:Addr)(hne:e≠D)(a1:e≠a)(J:a≠D) :
  Turn P w K (.Tuple elts kk pos) (q5 (cN K) a) [e,D] e (λ i h=>(∃B,IsEnum h e D (i:Nat) B)/\h.IsListIter D a i) where
 mem:=by simp
 obj:=λ i h st c G=>by
  obtain⟨⟨B,N⟩,⟨oj,ej,cj,dj⟩⟩:=st;simp only[LZ,MH,or_false] at G
  rcases G with rfl | rfl
  ·exact⟨_,N,λ v e=>by cases e⟩
  ·exact⟨oj,ej,λ v e=>by rw[dj] at e;cases e⟩
 keep:=λ i h g st kp=>by
  obtain⟨⟨B,N⟩,⟨oj,ej,rj⟩⟩:=st;exact⟨⟨B,kp e (by simp) _ N⟩,⟨oj,kp D (by simp) _ ej,rj⟩⟩
 item:=by
  intro X hP hw hK G i pins s LQ H E I hf st hg;subst hP hw hK;obtain⟨xs,x,Y,hx⟩:=hg;obtain⟨is,Z,pa,_⟩:=I.list Y;have la:=Z.length;have a2:i<is.toArray.size:=by have:=(Md.mp hx).1;simp;omega
  refine OB (Bb (elts:=elts) (kk:=kk) (pos:=pos) (Draws.list (A:=X.A.in1) (I.ok.hd G) D a J is.toArray) I hf st.1 ⟨st.2,pa.isList⟩ a2 hne a1 (x:=x) (λ v hv=>?_)) (λ r s1 hr=>?_) λ _ _ z=>z
  ·obtain⟨u,hu,ru⟩:=Z.get hx;have:is[i]?=some v:=by simpa using hv
   rw[hu] at this;cases this;exact ru
  ·obtain⟨u,e1,a0⟩:=hr;refine⟨u,e1,OB a0 (λ _ s2 ⟨v,H',I',rv,⟨t,e2,ht,e3⟩,⟨g1,g2⟩,g3⟩=>⟨v,H',I',rv,⟨t,x,e2,ht,e3,λ a3 h1=>by rw[I.yB h1 Y];exact hx⟩,⟨g1,g2.1⟩,g3⟩) λ _ _ z=>z⟩
 done:=by
  intro X hP hw hK G i pins s LQ H E I hf st hg;subst hP hw hK;obtain⟨xs,Y,hl⟩:=hg;obtain⟨is,Z,pa,_⟩:=I.list Y;obtain⟨⟨B,N⟩,gi⟩:=st;have la:=Z.length;have hsz:is.toArray.size=i:=by simp;omega
  refine wpAny_pyNext_enum_endD (Draws.list (A:=X.A.in1) (I.ok.hd G) D a J is.toArray) N ⟨by rw[hsz];exact gi,pa.isList⟩ λ h' eb=>⟨rfl,I.oM (fp:=[e,D]) (t':=s.toks) (λ c o G q=>?_) hf⟩
  simp only[LZ,MH,or_false,not_or] at G;exact eb c o G.2 q
 self:=λ _ _ _ _ _ st h=>O5 st.1.choose_spec h
theorem zq:bootBuiltins "enumerate" = some (.type "enumerate"):=by decide
def KA (K:LV)(ta:TA):TI:=λ LQ H R=>ta LQ H λ vs H1=>∃a,vs=[.ref a]/\((∃xs,cE K H1 a xs)/\R (q5 (cE K) a) H1\/(∃xs,cN K H1 a xs)/\R (q5 (cN K) a) H1)
theorem wb {a:Expr} {ta:TA} {p pos tp:Pos}   (hg:Gl X "enumerate") (hm:X.mg "enumerate" = none) (ha:PA X [a] ta) (hs:starEach [a] X.env=[(false,eval a X.env)]:=by rfl) :
  PI X (.Tuple elts kk tp) (.Call (.Name "enumerate" p) [a] [] pos) (KA X.K ta):=by
 intro pins s LQ H R I h;refine Call_ (jJ I hg hm zq (PyProof.Rows.callWith_type1 (dC (ha pos pins s LQ H _ I h) λ us B ⟨vs,H1,J,r1,q1⟩=>?_) hs rfl));obtain⟨x,e,q⟩:=q1;subst e;cases r1 with
 | cons r rr =>
  cases rr;cases r;have D:∀c∈[B.heap.objs.size+1,B.heap.objs.size],B.heap.objs.size<=c:=λ c G=>by
   simp only[LZ,MH,or_false] at G
   rcases G with rfl | rfl
   ·exact MJ _
   ·exact LW _
  rcases q with ⟨⟨xs,hx⟩,q⟩ | ⟨⟨xs,hx⟩,q⟩
  ·obtain⟨is,rx,Z,_⟩:=J.tuple hx;have N:x<B.heap.objs.size:=Z.lt;refine Iu (show B.heap.IsTuple x is.toArray from Z) λ g Y gi up=>?_
   refine O5 Y ?_;have I2:Inv X pins LQ H1 { B with heap:=g }:=J.kept (t':=B.toks) up;exact⟨_,[B.heap.objs.size+1,B.heap.objs.size],_,q5 (cE X.K) x,H1,rfl,I2,Cr x _ _ (ML (MG _)) (ML (ME N)) (L5 N),⟨⟨_,Y⟩,gi⟩,λ c G=>J.qy (D c G) (J.de.fresh (D c G)),q⟩
  ·obtain⟨is,rx,Z,_⟩:=J.list hx;have N:x<B.heap.objs.size:=by obtain⟨o,eo,_⟩:=Z.isList;exact L0 eo
   refine call_enumerate_list Z.isList λ g Y gi _ up=>?_
   refine O5 Y ?_;have I2:Inv X pins LQ H1 { B with heap:=g }:=J.kept (t':=B.toks) up;exact⟨_,[B.heap.objs.size+1,B.heap.objs.size],_,q5 (cN X.K) x,H1,rfl,I2,Cs x _ _ (ML (MG _)) (ML (ME N)) (L5 N),⟨⟨_,Y⟩,gi⟩,λ c G=>J.qy (D c G) (J.de.fresh (D c G)),q⟩
end
theorem Gd {Sq:Hp->Addr->List V->Prop}{a:Addr}{xs:List V}{tb:TS}{D:Ends}{LQ : St}(B:Nat->St->Hp->Prop)(h0:B 0 LQ H)(hl:∀i LQ H,i<=xs.length->B i LQ H->Sq H a xs)
  (hs:∀i x LQ H t,xs[i]?=some x->H t=none->B i LQ H->g (.ref t) LQ (upd H t (.tup [.int (i:Nat),x])) λ J Y=>tb { D with nx:=B (i+1),ct:=B (i+1),bk:=D.nx } J Y) (hd:∀LQ H,B xs.length LQ H->D.nx LQ H) :
  ∃W:Nat->Nat->St->Hp->Prop,(∃m,W 0 m LQ H)/\∀i m LQ H,W i m LQ H ->
   ((q5 Sq a).stop i H/\D.nx LQ H)\/((q5 Sq a).go i H/\∃N:St->Hp->Prop,(∀G H',N G H'->∃Z,Z<m/\W (i+1) Z G H')/\∀x H',(q5 Sq a).wM i H x H'->g x LQ H' λ J Y=>tb { D with nx:=N,ct:=N,bk:=D.nx } J Y):=by
 exists λ i m LQ H=>m=xs.length-i/\i<=xs.length/\B i LQ H,⟨xs.length,by simp,Me _,h0⟩;rintro i m LQ H ⟨rfl,hi,p⟩;have q:=hl i LQ H hi p;by_cases hlt:i<xs.length
 ·refine .inr ⟨⟨xs,xs[i],q,by simp[hlt]⟩,B (i+1),λ G H' p'=>⟨xs.length-(i+1),by omega,rfl,hlt,p'⟩,λ v H' y=>?_⟩;obtain⟨t,x,rfl,ht,rfl,h⟩:=y;exact hs i x LQ H t (h xs q) ht p
 ·have e:i=xs.length:=by omega
  subst e;exact .inl ⟨⟨xs,q,rfl⟩,hd LQ H p⟩
theorem Iv {Sq:Hp->Addr->List V->Prop}{a acc:Addr}{xs:List V}{Z:List Nat}{Y:TE}{LQ : St}(J:Nat->List V->St->Hp->Prop)(h0:J 0 [] (kJ n Z LQ) (upd H1 acc (.lst [])))
  (hl:∀i B D H,i<=xs.length->J i B D H->Sq H a xs/\H acc=some (.lst B)/\B.length<sizeLine)
  (hs:∀i x B D H t,xs[i]?=some x->H t=none->J i B D H->g (.ref t) D (upd H t (.tup [.int (i:Nat),x])) λ G H4=>ct G H4 λ b H5=>if b=true then Y G H5 λ v H6=>H6 acc=some (.lst B)/\J (i+1) (B++[v]) G (upd H6 acc (.lst (B++[v]))) else J (i+1) B G H5)
  (hd:∀B D H,J xs.length B D H->Q (.ref acc) H) :
  yJ (q5 Sq a) n Z g ct Y acc LQ H1 Q:=by
 exists λ i m B D H=>m=xs.length-i/\i<=xs.length/\J i B D H,⟨xs.length,by simp,Me _,h0⟩;rintro i m B D H ⟨rfl,hi,p⟩;obtain⟨N,q2,q3⟩:=hl i B D H hi p;exists q2,q3;by_cases hlt:i<xs.length
 ·refine .inr ⟨⟨xs,xs[i],N,by simp[hlt]⟩,J (i+1),λ a1 a0 H' p'=>⟨xs.length-(i+1),by omega,rfl,hlt,p'⟩,λ v H' y=>?_⟩;obtain⟨t,x,rfl,ht,rfl,h⟩:=y;exact hs i x B D H t (h xs N) ht p
 ·have e:i=xs.length:=by omega
  subst e;exact .inl ⟨⟨xs,N,rfl⟩,hd B D H p⟩
theorem q9 {k:Nat}(B:fP k A):A.units+66<cLine:=by have:=B.un;omega
section
variable {P:Program}{w:World}{K:LV}{mg:Z2}{base:Heap}
theorem eC.LK {D:Str}{st:Stmt}{f:Addr}{fd:FuncData}{N ps:List Str}{k:Nat}{sp:Sp}(F:eC K x D st f fd)(S:cQ N ps (cG st))(len:∀vs H Q E,sp vs H Q E->vs.length=ps.length)
  (G:∀(B:Value) (A:Around) (outer:List Env) (s:Shared) (H:Hp) (vs:List V) (Q:VK) (E:XK),Oc K B=true->fP k (A.deeper (envOfC D (cG st) s.heap.objs.size f B))->sp vs H Q E ->
   ∃t,ni (tM d7 P w K mg base N D (cG st) f B A outer s H E).An (fU st) t/\t { nx:=λ _ H'=>Q .eu H',rt:=Q } (start N vs) H):dB P w K mg base d7 (k+1) f fd ps sp:=by
 obtain⟨oc,od,kV,a0,pm,an,B,ct,Z,rfl,lk,J⟩:=F.ex;refine GV lk J S len λ A outer s H vs Q E hr Y=>?_
 obtain⟨t,h,q⟩:=G B A outer s H vs Q E (z4 J) hr Y;exact⟨t,h.An,q⟩
end
def gn:Nat->List (PyData×Addr)->List (PyData×Addr×V)
 | _,[]=>[]
 | n,p::ps=>(p.1,p.2,.int (n:Nat))::gn (n+1) ps
theorem tW:∀(n:Nat) (ms:List (PyData×Addr)),(gn n ms).length=ms.length
 | _,[]=>rfl
 | n,_::ms=>congrArg (· + 1) (tW (n+1) ms)
theorem zr:∀(n:Nat) (ms:List (PyData×Addr)) (p:PyData×Addr),gn n (ms++[p])=gn n ms++[(p.1,p.2,.int ((n+ms.length:Nat):Int))]
 | n,[],p=>rfl
 | n,q::ms,p=>by
  show (q.1,q.2,V.int (n:Nat))::gn (n+1) (ms++[p])=_;rw[zr (n+1) ms p,show n+1+ms.length=n+(q::ms).length by rw[Ms];omega];rfl
theorem zt:∀(n:Nat) (ms:List (PyData×Addr)),∀q∈gn n ms,∃p∈ms,q.1=p.1/\q.2.1=p.2
 | _,[],q,hq=>nomatch hq
 | n,p::ms,q,hq=>by
  rcases LZ.mp hq with rfl | hq
  ·exact⟨p,L9 ..,rfl,rfl⟩
  ·obtain⟨B,hp,r⟩:=zt (n+1) ms q hq;exact⟨B,Mc _ hp,r⟩
theorem pE (d:PyData):∀(n:Nat) (ms:List (PyData×Addr)),gm (gn n ms) d=if d∈ms.map (·.1) then some (.int ((n+(ms.map (·.1)).idxOf d:Nat):Int)) else none
 | n,[]=>by simp[gn,gm]
 | n,p::ms=>by
  have D:=pE d (n+1) ms;by_cases h:p.1=d
  ·have B:gm (gn n (p::ms)) d=some (.int (n:Nat)):=by
    unfold gm gn;rw[N9 (by exact decide_eq_true h)];rfl
   rw[B,if_pos (by rw[Mt,h];exact L9 ..),Mt,h,List.idxOf_cons_self];rfl
  ·have B:gm (gn n (p::ms)) d=gm (gn (n+1) ms) d:=by
    show gm ((p.1,p.2,V.int (n:Nat))::gn (n+1) ms) d=_;unfold gm;rw[Oa (by rw[decide_eq_false h];decide)]
   rw[B,D,Mt];by_cases hm:d∈ms.map (·.1)
   ·rw[if_pos hm,if_pos (Mc _ hm),List.idxOf_cons,beq_false_of_ne h];simp only[cond_false]
    congr 3
    omega
   ·rw[if_neg hm,if_neg (λ z=>(LZ.mp z).elim (λ z=>h z.symm) hm)]
structure km (P:Program) (w:World) (C:Addr) (H:Hp) (r m d:Addr) (ms:List (PyData×Addr)):Prop where
 ob:∃dx,H r=some (.ins C dx (pC (.ref m) (.ref d)))
 mem:H m=some (.lst (ms.map λ p=>V.ref p.2))
 lV:H d=some (gG P w d (gn 0 ms))
 keys:∀p∈ms,kj p.1/\cW H (.ref p.2) p.1
noncomputable def pF (ms:List (PyData×Addr)) (d:PyData) (k:Addr):List (PyData×Addr):=if d∈ms.map (·.1) then ms else ms++[(d,k)]
section
variable {P:Program}{w:World}{C r m d:Addr}{H H':Hp}{ms:List (PyData×Addr)}
theorem km.om (A:km P w C H r m d ms):vc H (gn 0 ms):=λ q hq=>by
 obtain⟨p,hp,B,D⟩:=zt 0 ms q hq;rw[B,D];exact A.keys p hp
theorem km.xf (A:km P w C H r m d ms):r≠m/\r≠d/\d≠m:=by
 obtain⟨D,B⟩:=A.ob;refine⟨dD B A.mem ?_,dD B A.lV ?_,dD A.lV A.mem ?_⟩<;>(intro z;cases z)
end
section
variable (P:Program)(w:World)(C:Addr)
inductive pG  (vs:List V) (H:Hp) (Q:VK) (_:XK):Prop
 | mk (r dx k:Addr) (d0:PyData) (_:vs=[.ref r,.ref k]) (_:H r=some (.ins C dx [])) (_:kj d0) (_:cW H (.ref k) d0) (_:eh d0=true) (_:∀(m d:Addr) (H':Hp),km P w C H' r m d [(d0,k)]->(∀c o,H c=some o->c≠r->H' c=some o)->H m=none->H d=none->Q .eu H')
inductive pH  (vs:List V) (H:Hp) (Q:VK) (_:XK):Prop
 | mk (r m d k:Addr) (d0:PyData) (ms:List (PyData×Addr)) (_:vs=[.ref r,.ref k]) (_:km P w C H r m d ms) (_:ms.length<=1000) (_:kj d0) (_:cW H (.ref k) d0) (_:eh d0=true) (_:(∀p∈ms,eh p.1=true)) (_:∀H',km P w C H' r m d (pF ms d0 k)->jf m d H H'->Q (.int (((pF ms d0 k).map (·.1)).idxOf d0:Nat)) H')
end
inductive rg (ps:List Piece):Nat->Prop
 | zero:rg ps 0
 | step {i k:Nat} {ds:List e6} {e:End}:rg ps i->ps[i]?=some (ds,e)->k∈cC e->rg ps k
def gc (ps:List Piece)(k:Nat):Prop:=∃i ds e,rg ps i/\ps[i]?=some (ds,e)/\k∈cC e/\k<=i
abbrev kI (ks:List Nat):List Key:=ks.map λ k:Nat=>(Sum.inl (k:Int):Key)
theorem zu {k:Nat}:(Sum.inl (k:Int):Key)∈kI ks↔k∈ks:=by
 rw[Mb]
 constructor
 ·rintro⟨x,hx,e⟩;have:=Sum.inl.inj e;rw[show k=x by omega];exact hx
 ·intro h;exact⟨k,h,rfl⟩
theorem En {k:Nat}:LS.putIn (kI ks) (Sum.inl (k:Int))=kI (LS.putIn ks k):=by
 unfold LS.putIn;by_cases h:k∈ks
 ·rw[if_pos h,if_pos (zu.mpr h)]
 ·rw[if_neg h,if_neg (λ z=>h (zu.mp z))];show _=(ks++[k]).map _;rw[L4];rfl
theorem Bc (ks:List Nat):kI ks=(ks.map λ k:Nat=>(k:Int)).map Sum.inl:=by rw[MT];rfl
structure Ct (ps:List Piece) (ks ws:List Nat):Prop where
 nd:ks.Nodup
 lt:∀k∈ks,k<ps.length
 J0:∀k∈ks,rg ps k
 zero:0∈ks
 sub:∀k∈ws,k∈ks
 done:∀k∈ks,k∈ws\/∀ds e,ps[k]?=some (ds,e)->∀j∈cC e,j∈ks
theorem Ct.all (h:Ct ps ks []):∀k,k∈ks↔rg ps k:=λ k=>by
 refine⟨h.J0 k,λ r=>?_⟩
 induction r with
 | zero=>exact h.zero
 | step r hp hk ih=>exact (h.done _ ih).elim (λ z=>nomatch z) λ z=>z _ _ hp _ hk
theorem kW (B:ft ps){ds:List e6}(h:ps[i]?=some (ds,e)):∀k∈cC e,k<ps.length:=λ k D=>by
 have G:=B _ (L8 h);cases e with
 | stop=>cases D
 | go p=>rw[LX.mp D];exact G
 | eM b x n p q =>
  rcases LZ.mp D with z | z
  ·rw[z];exact G.1
  ·rw[LX.mp z];exact G.2
inductive xA  (vs:List V) (H:Hp) (Q:VK) (_:XK):Prop
 | mk (plv:V) (ps:List Piece) (_:vs=[plv]) (_:cW H plv (fq ps)) (_:ft ps) (_:0<ps.length) (_:ps.length<=60) (_:∀(t:Addr) (ks:List Nat) (H':Hp),H' t=some (.tup (vN ks))->(∀k,k∈ks↔rg ps k)->(∀k∈ks,k<ps.length)->ks.length<=60->cy H H'->Q (.ref t) H')
inductive Bd  (vs:List V) (H:Hp) (Q:VK) (_:XK):Prop
 | mk (plv:V) (ps:List Piece) (_:vs=[plv]) (_:cW H plv (fq ps)) (_:ft ps) (_:0<ps.length) (_:ps.length<=60) (_:∀(t:Addr) (ks:List Nat) (H':Hp),H' t=some (.tup (vN ks))->(∀k,k∈ks↔gc ps k)->ks.length<=60->cy H H'->Q (.ref t) H')
theorem rh {B:List Int}(h:B.Perm (ks.map λ k:Nat=>(k:Int))):∃ms:List Nat,B=ms.map (λ k:Nat=>(k:Int))/\ms.Perm ks:=by
 exists B.map Nu,?_
 ·rw[MT];have:∀x∈B,((λ k:Nat=>(k:Int)) ∘ Nu) x=x:=λ x hx=>by
   obtain⟨k,_,rfl⟩:=Mb.mp (h.mem_iff.mp hx);show ((Nu (k:Int):Nat):Int)=k;omega
  rw[MV this,List.map_id']
 ·have:=h.map Nu;rw[MT] at this;have e:ks.map (Nu ∘ λ k:Nat=>(k:Int))=ks:=by
   rw[MV (g:=id) (λ x _=>by show Nu (x:Int)=x;omega),List.map_id]
  rw[e] at this;exact this
abbrev Cp:=Nat×(Str->Sx)
def T0:Str->Sx:=λ _=>iI
def FD (T:Str->Sx)(d:PyData):Prop:=∃ss:List Str,nK ss/\(∀x,x∈ss↔T x≠iI)/\d=jr T ss
theorem FV.fd {T:Str->Sx}(h:FV H v T):∃d,FD T d/\cW H v d:=by
 obtain⟨p,xs,D,rfl,hp,B,hm,r⟩:=h;exact⟨_,⟨D,B,hm,rfl⟩,.tup hp r⟩
theorem FD.fv {v:V}{T:Str->Sx}{d:PyData}(h:FD T d)(r:cW H v d):FV H v T:=by
 obtain⟨D,B,hm,rfl⟩:=h;obtain⟨p,xs,rfl,hp,r⟩:=cW.d9 r;exact⟨p,xs,D,rfl,hp,B,hm,r⟩
theorem FD.unique {T:Str->Sx}{d d':PyData}(h:FD T d)(h':FD T d'):d=d':=by
 obtain⟨N,G,hm,rfl⟩:=h;obtain⟨J,B,D,rfl⟩:=h';rw[G.unique B λ x=>by rw[hm,D]]
theorem Eo {a b:Option Int}(h:dO a=dO b):a=b:=by
 cases a with
 | none=>cases b with
  | none=>rfl
  | some _=>cases h
 | some i=>cases b with
  | none=>cases h
  | some j=>injection h with h;rw[h]
theorem J1 {a b:Sx}(h:dS a=dS b):a=b:=by
 obtain⟨a1,a2⟩:=a;obtain⟨G,D⟩:=b;have B:[dO a1,dO a2]=[dO G,dO D]:=by injection h
 injection B with B h2
 injection h2 with h2 _
 rw[Eo B,Eo h2]
theorem Be {T B:Str->Sx}:∀{ss ss':List Str},ss.map (dF T)=ss'.map (dF B)->ss=ss'/\∀x∈ss,T x=B x
 | [],[],_=>⟨rfl,λ _ h=>nomatch h⟩
 | [],_::_,h=>by cases h
 | _::_,[],h=>by cases h
 | x::ss,y::ss',h=>by
  rw[Mt,Mt] at h;injection h with h1 h2
  have J:[PyData.str x,dS (T x)]=[PyData.str y,dS (B y)]:=by injection h1
  injection J with h4 h5
  injection h5 with h5 _
  have D:x=y:=by injection h4
  subst D;obtain⟨e,G⟩:=Be h2;refine⟨by rw[e],λ z hz=>?_⟩
  rcases LZ.mp hz with rfl | hz
  ·exact J1 h5
  ·exact G z hz
theorem FD.inj {T B:Str->Sx}{d:PyData}(h:FD T d)(h':FD B d):T=B:=by
 obtain⟨N,a0,hm,rfl⟩:=h;obtain⟨D,J,G,e⟩:=h';have Y:N.map (dF T)=D.map (dF B):=by injection e
 obtain⟨rfl,hx⟩:=Be Y
 funext x
 by_cases h:x∈N
 ·exact hx x h
 ·have Z:T x=iI:=Classical.byContradiction λ z=>h ((hm x).mpr z)
  have h2:B x=iI:=Classical.byContradiction λ z=>h ((G x).mpr z)
  rw[Z,h2]
theorem FD.zero:FD T0 (.tuple []):=⟨[],⟨Nf.nil,Nr⟩,λ x=>⟨λ h=>(nomatch h),λ h=>absurd rfl h⟩,rfl⟩
def CD (c:Cp)(d:PyData):Prop:=∃fd,FD c.2 fd/\d=.tuple [.int (c.1:Nat),fd]
theorem CD.iff {c D:Cp}{d d':PyData}(h:CD c d)(h':CD D d'):d=d'↔c=D:=by
 obtain⟨fd,hf,rfl⟩:=h;obtain⟨G,B,rfl⟩:=h'
 constructor
 ·intro e;have J:[PyData.int (c.1:Nat),fd]=[PyData.int (D.1:Nat),G]:=by injection e
  injection J with e2 e3
  injection e3 with e3 _
  have N:(c.1:Int)=(D.1:Int):=by injection e2
  subst e3;exact Prod.ext ⋯ (hf.inj B)
 ·rintro rfl;rw[hf.unique B]
noncomputable instance KP:DecidableEq Cp:=λ a b=>Classical.propDecidable (a=b)
theorem CD.mem {c:Cp}{d:PyData}(h:CD c d):∀{ds:List PyData} {cs:List Cp},Paired (λ d c=>CD c d) ds cs->(d∈ds↔c∈cs)/\ds.idxOf d=cs.idxOf c
 | _,_,.nil=>⟨by simp,rfl⟩
 | _,_,.cons (a:=d') (b:=c') (l₁:=ds) (l₂:=cs) h' t=>by
  obtain⟨G,D⟩:=CD.mem h t;have e:=h'.iff h
  constructor
  ·rw[LZ,LZ,G]
   constructor
   ·rintro (z | z)
    ·exact .inl (e.mp z.symm).symm
    ·exact .inr z
   ·rintro (z | z)
    ·exact .inl (e.mpr z.symm).symm
    ·exact .inr z
  ·rw[List.idxOf_cons,List.idxOf_cons];by_cases z:d' = d
   ·have B:=e.mp z;rw[z,B,beq_self_eq_true,beq_self_eq_true];rfl
   ·have B:¬c' = c:=λ w=>z (e.mpr w)
    rw[beq_false_of_ne z,beq_false_of_ne B,D]
theorem vf {T:Str->Sx}:∀B:List Str,hZ (jr T B)=true
 | []=>rfl
 | x::B=>by
  have D:fC (B.map (dF T))=true:=vf B;show ((true&&(hZ (dS (T x))&&true))&&fC (B.map (dF T)))=true;rw[D];obtain⟨a,b⟩:=T x;cases a<;>cases b<;>rfl
theorem CD.key {c:Cp}{d:PyData}(h:CD c d)(D:zp c.2):kj d:=by
 obtain⟨fd,⟨B,G,hm,rfl⟩,rfl⟩:=h;refine⟨?_,?_,?_,_,rfl⟩
 ·show (true&&(hZ (jr c.2 B)&&true))=true;rw[vf];rfl
 ·show (true&&((jr c.2 B).canLay0&&true))=true;rw[Ek D B λ x hx=>(hm x).mp hx];rfl
 ·show max 0 (max (jr c.2 B).depth 0)+1<=7;have:=JY c.2 B;omega
section
variable (tops:Nat->Prop)(most:Nat)
open Classical in
noncomputable def ef (cs:List Cp) (c:Cp):Cp:=if tops c.1 then (c.1,T0) else if c∈cs\/cs.length<most then c else (c.1,T0)
noncomputable def iY (st:List Cp×List Nat) (l:Cp):List Cp×List Nat:=(LS.putIn st.1 (ef tops most st.1 l),st.2++[(LS.putIn st.1 (ef tops most st.1 l)).idxOf (ef tops most st.1 l)])
noncomputable def fj (cs:List Cp) (ls:List Cp):List Cp×List Nat:=ls.foldl (iY tops most) (cs,[])
theorem z5 {cs ls:List Cp}{l:Cp}(h:ls[i]?=some l):fj tops most cs (ls.take (i+1))=iY tops most (fj tops most cs (ls.take i)) l:=by
 unfold fj;rw[Mz,h,NO];rfl
def pI (e:End):List Nat->End
 | [a]=>.go a
 | ns=>gZ e ns
noncomputable def jG (ps:List Piece):Nat->List Cp->List Piece->List Cp×List Piece
 | 0,cs,outs=>(cs,outs)
 | f+1,cs,outs=>match cs[outs.length]? with
  | none=>(cs,outs)
  | some c=>match ps[c.1]? with
   | none=>(cs,outs)
   | some pc=>jG ps f (fj tops most cs (gI (hX c.2 pc.1) pc.2)).1 (outs++[(pc.1,pI pc.2 (fj tops most cs (gI (hX c.2 pc.1) pc.2)).2)])
end
theorem xB {T:Str->Sx}:∀B:List Str,eh (jr T B)=true
 | []=>rfl
 | x::B=>by
  have D:dQ (B.map (dF T))=true:=xB B;show ((true&&(eh (dS (T x))&&true))&&dQ (B.map (dF T)))=true;rw[D];obtain⟨a,b⟩:=T x;cases a<;>cases b<;>rfl
theorem CD.oU {c:Cp}{d:PyData}(h:CD c d):eh d=true:=by
 obtain⟨fd,⟨B,D,hm,rfl⟩,rfl⟩:=h;show (true&&(eh (jr c.2 B)&&true))=true;rw[xB];rfl
inductive Bf  (vs:List V) (H:Hp) (Q:VK) (_:XK):Prop
 | mk (ea l:Addr) (e:End) (ns:List Nat) (_:vs=[.ref ea,.ref l]) (_:H ea=some (.tup (fX e))) (_:H l=some (.lst (vN ns))) (_:(ns.length=1\/ns.length=(cC e).length)) (_:ns.length<=2) (_:∀t H',H' t=some (.tup (fX (pI e ns)))->cy H H'->Q (.ref t) H')
abbrev tu (ms:List (PyData×Addr))(cs:List Cp):Prop:=Paired (λ d c=>CD c d) (ms.map (·.1)) cs
inductive xC (P:Program) (w:World) (vs:List V) (H:Hp) (Q:VK) (_:XK):Prop
 | mk (la tp d:Addr) (most k:Nat) (T:Str->Sx) (dl:PyData) (hs:List Nat) (fv:V) (ms:List (PyData×Addr)) (cs:List Cp) (tops:Nat->Prop) (_:vs=[.ref la,.ref tp,.ref d,.int (most:Nat)]) (_:H la=some (.tup [.int (k:Nat),fv])) (_:cW H (.ref la) dl) (_:CD (k,T) dl) (_:zp T) (_:H tp=some (.tup (vN hs))) (_:(∀j,j∈hs↔tops j)) (_:H d=some (gG P w d (gn 0 ms))) (_:vc H (gn 0 ms)) (_:tu ms cs) (_:∀(a:Addr) (d':PyData) (H':Hp),cW H' (.ref a) d'->CD (ef tops most cs (k,T)) d'->cy H H'->Q (.ref a) H')
structure gh (xs:List Str) (T:Str->Sx):Prop where
 sup:∀x,T x≠iI->x∈xs
 le:∀x,yS (T x).1 (T x).2
theorem gh.zero:gh xs T0:=⟨λ x h=>absurd rfl h,λ x=>True.intro⟩
theorem gh.set {T:Str->Sx}(h:gh xs T){s:Sx}(hx:x∈xs)(D:yS s.1 s.2):gh xs (je T x s):=by
 refine⟨λ y B=>?_,λ y=>?_⟩
 ·unfold je at B;by_cases e:y=x
  ·rw[e];exact hx
  ·rw[if_neg e] at B;exact h.sup y B
 ·unfold je;by_cases e:y=x
  ·rw[if_pos e];exact D
  ·rw[if_neg e];exact h.le y
theorem Iw {w:Str}{lo hi:Option Int}{n:Int}{side:Bool}{s:Sx}(le:yS lo hi)(h:gF w lo hi n side=some s):yS s.1 s.2:=by
 unfold gF at h;split at h
 ·unfold lN at h;split at h
  ·unfold jn at h;cases lo with
   | none=>cases h;exact True.intro
   | some l =>
    dsimp only at h;split at h
    ·cases h
    ·cases h;show l<=mf hi n;omega
  ·unfold jO at h;cases hi with
   | none=>cases h;exact True.intro
   | some l =>
    dsimp only at h;split at h
    ·cases h
    ·cases h;show jY lo n<=l;omega
 ·unfold sW at h;split at h
  ·unfold sV at h;split at h
   ·cases h;exact Int.le_refl n
   ·cases h
  ·unfold kf at h;split at h
   ·next h1 =>
    split at h
    ·cases h
    ·next h2 =>
     cases h;subst h1;cases hi with
     | none=>exact True.intro
     | some b =>
      have:n<=b:=le;have:¬b=n:=λ z=>h2 (by rw[z])
      show n+1<=b;omega
   ·next h1 =>
    split at h
    ·next h2 =>
     cases h;subst h2;cases lo with
     | none=>exact True.intro
     | some a =>
      have:a<=n:=le;have:¬a=n:=λ z=>h1 (by rw[z])
      show a<=n-1;omega
    ·cases h;exact le
theorem gh.LL {T:Str->Sx}(h:gh xs T){d:e6}(hd:fV xs d):gh xs (F5 T d):=by
 refine h.set hd.name ?_;cases d with
 | put x n=>exact Int.le_refl n
 | copy x y=>exact h.le y
 | add x n =>
  have:=h.le x;show yS (Ha (T x).1 n) (Ha (T x).2 n);cases e1:(T x).1 with
  | none=>exact True.intro
  | some a=>cases e2:(T x).2 with
   | none=>exact True.intro
   | some b =>
    rw[e1,e2] at this;have:a<=b:=this;show a+n<=b+n;omega
 | read x=>exact True.intro
 | tell x=>exact h.le x
theorem gh.Cu {xs:List Str}:∀{ds:List e6} {T:Str->Sx},gh xs T->(∀d∈ds,fV xs d)->gh xs (hX T ds)
 | [],_,h,_=>h
 | d::ds,T,h,hd=>gh.Cu (ds:=ds) (h.LL (hd d (L9 ..))) λ e B=>hd e (Mc _ B)
theorem Bg {T:Str->Sx}{e:End}(h:gh xs T)(B:iT xs c e):∀p∈gI T e,p.1<c/\gh xs p.2:=λ p hp=>by
 unfold gI at hp;obtain⟨⟨k,o⟩,ho,hm⟩:=Oj.mp hp;have hz:=NV ho;cases e with
 | stop=>cases hz.1
 | go q =>
  rw[LX.mp hz.2] at hm;cases hm;exact⟨by rw[LX.mp hz.1];exact B,h⟩
 | eM b x n q r =>
  have G:k<c:=by
   rcases LZ.mp hz.1 with z | z
   ·rw[z];exact B.2.2.1
   ·rw[LX.mp z];exact B.2.2.2
  have key:∀side,o=(jH T b x n side).map (je T x)->p.1<c/\gh xs p.2:=λ side D=>by
   dsimp only at hm;rw[D] at hm;cases z:jH T b x n side with
   | none=>rw[z] at hm;cases hm
   | some s =>
    rw[z] at hm;cases hm;exact⟨G,h.set B.1 (Iw (h.le x) z)⟩
  rcases LZ.mp hz.2 with z | z
  ·exact key true z
  ·exact key false (LX.mp z)
theorem zw {T:Str->Sx}{e:End}(h:gh xs T):((gI T e).length=1\/(gI T e).length=(cC e).length)/\(gI T e).length<=2:=by
 cases e with
 | stop=>exact⟨.inr rfl,Me _⟩
 | go q=>exact⟨.inl rfl,by show 1<=2;decide⟩
 | eM b x n q r =>
  have e:gI T (.eM b x n q r)=((jH T b x n true).map λ s=>(q,je T x s)).toList++((jH T b x n false).map λ s=>(r,je T x s)).toList:=by
   unfold gI;show ([(q,(jH T b x n true).map (je T x)),(r,(jH T b x n false).map (je T x))].filterMap λ p=>p.2.map λ U=>(p.1,U))=_;cases jH T b x n true<;>cases jH T b x n false<;>rfl
  rw[e];cases e1:jH T b x n true with
  | none=>cases e2:jH T b x n false with
   | none=>exact (Ft (h.le x) e1 e2).elim
   | some s=>exact⟨.inl rfl,by show 1<=2;decide⟩
  | some s=>cases e2:jH T b x n false with
   | none=>exact⟨.inl rfl,by show 1<=2;decide⟩
   | some s=>exact⟨.inr rfl,LW 2⟩
theorem gh.lay {T:Str->Sx}(h:gh xs T)(hx:∀x∈xs,hU x):zp T:=λ x B=>Ga (hx x (h.sup x B))
theorem gh.er {T:Str->Sx}(h:gh xs T):Co T xs.length:=λ D B nd=>sub_len nd λ x hx=>h.sup x (B x hx)
open Classical in
noncomputable def rm (c:Cp):Bool:=decide (c.2≠T0)
theorem xD {B:Type}(p:B->Bool):∀l:List B,l.length=(l.filter p).length+(l.filter λ x=>!p x).length
 | []=>rfl
 | x::l=>by
  have D:=xD p l;cases h:p x with
  | true=>rw[Od h,NP (by simp[h]),Ms,Ms];omega
  | false=>rw[NP (by simp[h]),Od (by simp[h]),Ms,Ms];omega
structure mZ (n most:Nat) (cs:List Cp):Prop where
 nd:cs.Nodup
 er:(cs.filter rm).length<=most
theorem mZ.len {cs:List Cp}(h:mZ n most cs)(Y:∀c∈cs,c.1<n):cs.length<=most+n:=by
 have e:=xD rm cs;have Z:(cs.filter λ c=>!rm c).length<=n:=by
  have G:((cs.filter λ c=>!rm c).map (·.1)).Nodup:=by
   rw[List.Nodup,List.pairwise_map];refine (h.nd.filter _).imp_of_mem λ {a b} J hb hne z=>hne ?_
   have D:=(M4.mp J).2;have B:=(M4.mp hb).2;simp[rm] at D B;exact Prod.ext z (by rw[D,B])
  have:=gO (n:=n) G λ x hx=>by
   obtain⟨c,N,rfl⟩:=Mb.mp hx;exact Y c (M4.mp N).1
  rw[LU] at this;exact this
 have:=h.er;omega
theorem mZ.put {n:Nat}{cs:List Cp}{l:Cp}(h:mZ n most cs):mZ n most (LS.putIn cs (ef tops most cs l)):=by
 unfold LS.putIn;by_cases hm:ef tops most cs l∈cs
 ·rw[if_pos hm];exact h
 ·rw[if_neg hm];exists ?_
  ·rw[Nq];refine⟨h.nd,by simp,λ x hx y B z=>?_⟩;rw[LX.mp B] at z;exact hm (z ▸ hx)
  ·rw[NM,LY];by_cases hz:(ef tops most cs l).2=T0
   ·rw[NP (by simp[rm,hz])];simpa using h.er
   ·have D:cs.length<most:=by
     unfold ef at hz hm;split at hz
     ·exact absurd rfl hz
     ·split at hz
      ·next h1 h2 =>
       rw[if_neg h1,if_pos h2] at hm;exact h2.resolve_left hm
      ·exact absurd rfl hz
    have J:(cs.filter rm).length<=cs.length:=M9 _ _;have G:(List.filter rm [ef tops most cs l]).length<=1:=M9 _ _;omega
open Classical in
noncomputable def startT (ps:List Piece):Str->Sx:=λ x=>if x∈eO ps then (some 0,some 0) else iI
open Classical in
noncomputable def m3 (ps:List Piece):Cp:=if gc ps 0 then (0,T0) else (0,startT ps)
noncomputable def kX (ps:List Piece) (most:Nat):List Cp×List Piece:=jG (gc ps) most ps (most+ps.length) [m3 ps] []
theorem Ge (hp:B.Perm (LS.gS (eO ps)))(D:sortedS B=true):FD (startT ps) (qZ B):=by
 have hm:∀x,x∈B↔x∈eO ps:=λ x=>hp.mem_iff.trans LS.xl
 exists B,⟨xq D,hp.nodup_iff.mpr (LS.zd _)⟩,λ x=>?_
 ·rw[hm];unfold startT;by_cases h:x∈eO ps
  ·rw[if_pos h];exact⟨λ _ z=>(by cases z),λ _=>h⟩
  ·rw[if_neg h];exact⟨λ z=>absurd z h,λ z=>absurd rfl z⟩
 ·unfold qZ jr
  congr 1
  refine MV λ x hx=>?_
  unfold dF startT;rw[if_pos ((hm x).mp hx)];rfl
theorem tX (ok:fi xs m ps):gh xs (startT ps):=by
 refine⟨λ x hx=>?_,λ x=>?_⟩
 ·unfold startT at hx;by_cases h:x∈eO ps
  ·exact xm ok x h
  ·rw[if_neg h] at hx;exact absurd rfl hx
 ·unfold startT;split
  ·exact Int.le_refl 0
  ·exact True.intro
theorem vg {cs:List Cp}{c:Cp}(h:cs[outs.length]?=some c)(hp:ps[c.1]?=some pc) :
  jG tops most ps (f+1) cs outs=jG tops most ps f (fj tops most cs (gI (hX c.2 pc.1) pc.2)).1 (outs++[(pc.1,pI pc.2 (fj tops most cs (gI (hX c.2 pc.1) pc.2)).2)]):=by
 conv=>lhs;unfold jG
 rw[h];dsimp only;rw[hp]
theorem xE {cs:List Cp}(h:cs[outs.length]?=none):∀f,jG tops most ps f cs outs=(cs,outs)
 | 0=>rfl
 | f+1=>by
  conv=>lhs;unfold jG
  rw[h]
theorem Iy {K:LV}{e:Expr}{f:Str}{pos:Pos}{B:TE}(D:X.K=K)(G:PE X e B)(hb:attributeBase e f X.env (eval e X.env)=eval e X.env):PE X (.Attribute e f pos) (Jm K B f):=by
 subst D;exact dZ G hb
theorem lW {tops:Nat->Prop}{most n:Nat}{xs:List Str}:∀{ls cs:List Cp} {ns:List Nat},mZ n most cs->(∀c∈cs,c.1<n/\gh xs c.2)->(∀c∈ls,c.1<n/\gh xs c.2)->mZ n most (ls.foldl (iY tops most) (cs,ns)).1/\(∀c∈(ls.foldl (iY tops most) (cs,ns)).1,c.1<n/\gh xs c.2)/\(ls.foldl (iY tops most) (cs,ns)).2.length=ns.length+ls.length/\∃more,(ls.foldl (iY tops most) (cs,ns)).1=cs++more
 | [],cs,ns,h,G,_=>⟨h,G,rfl,[],by simp⟩
 | l::ls,cs,ns,h,G,hl=>by
  have D:=hl l (L9 ..);have N:(ef tops most cs l).1<n/\gh xs (ef tops most cs l).2:=by
   unfold ef;split
   ·exact⟨D.1,gh.zero⟩
   ·split
    ·exact D
    ·exact⟨D.1,gh.zero⟩
  have B:∀c∈LS.putIn cs (ef tops most cs l),c.1<n/\gh xs c.2:=λ c B=>by
   rcases LS.jq.mp B with z | z
   ·exact G c z
   ·rw[z];exact N
  obtain⟨i1,Y,Z,more,i4⟩:=lW (tops:=tops) (ls:=ls) (cs:=LS.putIn cs (ef tops most cs l)) (ns:=ns++[(LS.putIn cs (ef tops most cs l)).idxOf (ef tops most cs l)]) (h.put (l:=l)) B λ c G=>hl c (Mc _ G)
  exists i1,Y,?_
  ·refine Eq.trans (show (ls.foldl (iY tops most) (iY tops most (cs,ns) l)).2.length=(ns++[(LS.putIn cs (ef tops most cs l)).idxOf (ef tops most cs l)]).length+ls.length from Z) ?_;simp only[LY,Ms,NK];omega
  ·have J:(ls.foldl (iY tops most) (iY tops most (cs,ns) l)).1=LS.putIn cs (ef tops most cs l)++more:=i4;show ∃more,(ls.foldl (iY tops most) (iY tops most (cs,ns) l)).1=cs++more;rw[J];unfold LS.putIn;split
   ·exact⟨more,rfl⟩
   ·exact⟨ef tops most cs l::more,by simp⟩
theorem km.mv {C r m:Addr}{ms:List (PyData×Addr)}(A:km P w C H r m d ms)(B:∀p∈ms,eh p.1=true)(k:∀c o,H c=some o->(c=r\/c=m\/c=d)->H' c=some o)(Y:∀p G,H p=some (.tup G)->H' p=some (.tup G)):km P w C H' r m d ms:=by
 obtain⟨⟨J,h1⟩,Z,N,D⟩:=A;exact⟨⟨J,k _ _ h1 (.inl rfl)⟩,k _ _ Z (.inr (.inl rfl)),k _ _ N (.inr (.inr rfl)),λ p hp=>⟨(D p hp).1,(D p hp).2.dr Y (B p hp)⟩⟩
theorem tu.oU {ms:List (PyData×Addr)}{cs:List Cp}(h:tu ms cs):∀p∈ms,eh p.1=true:=by
 have go:∀{ds:List PyData} {cs:List Cp},Paired (λ d c=>CD c d) ds cs->∀d∈ds,eh d=true:=by
  intro ds cs h
  induction h with
  | nil=>intro d hd;cases hd
  | cons r _ ih =>
   intro d hd
   rcases LZ.mp hd with rfl | hd
   ·exact r.oU
   ·exact ih d hd
 exact λ p hp=>go h p.1 (Mb.mpr ⟨p,hp,rfl⟩)
theorem tu.put {ms:List (PyData×Addr)}{cs:List Cp}{c:Cp}{d:PyData}{a:Addr}(h:tu ms cs)(B:CD c d):tu (pF ms d a) (LS.putIn cs c):=by
 obtain⟨hm,_⟩:=B.mem h;unfold pF LS.putIn;by_cases z:c∈cs
 ·rw[if_pos z,if_pos (hm.mpr z)];exact h
 ·rw[if_neg z,if_neg (λ w=>z (hm.mp w))];show Paired _ ((ms++[(d,a)]).map (·.1)) _;rw[L4];exact jF h (.cons B .nil)
theorem Bh {H:Hp}:∀{ms:List (PyData×Addr)},(∀p∈ms,cW H (.ref p.2) p.1)->dh H (ms.map λ p=>V.ref p.2) (ms.map (·.1))
 | [],_=>.nil
 | p::ms,h=>.cons (h p (L9 ..)) (Bh λ q hq=>h q (Mc _ hq))
theorem vh:∀{vs:List Value} {ks:List Int},vs.length=ks.length->(∀(j:Nat) (v:Value) (x:Int),vs[j]?=some v->ks[j]?=some x->∃t,v=.int x t)->IntsAre vs ks
 | [],[],_,_=>.nil
 | [],_::_,h,_=>by cases h
 | _::_,[],h,_=>by cases h
 | v::vs,x::ks,hl,h=>by
  obtain⟨t,rfl⟩:=h 0 v x rfl rfl;exact .cons x t (vh (by simpa using hl) λ j v y D B=>h (j+1) v y (by simpa using D) (by simpa using B))
section
variable {prog:Program}{w:World}{A:Around}{E:Z0}{s:Shared}
end
section
variable {X:Cx}
end
inductive tY  (vs:List V) (H:Hp) (Q:VK) (_:XK):Prop
 | mk (ea:Addr) (e:End) (_:vs=[.ref ea]) (_:H ea=some (.tup (fX e))) (_:∀l H',H l=none->H' l=some (.lst (vN (cC e)))->cy H H'->Q (.ref l) H')
section
variable {tops:Nat->Prop}{most:Nat}
def Goes (tops:Nat->Prop)(most:Nat)(cs:List Cp)(ls:List Cp)(ns:List Nat):Prop:=Paired (λ l k=>∃c':Cp,cs[k]?=some c'/\c'.1=l.1/\((¬tops l.1/\c'.2=l.2)\/(c'.2=T0/\(tops l.1\/most<=cs.length)))) ls ns
theorem Goes.more {cs ls more:List Cp}{ns:List Nat}(h:Goes tops most cs ls ns):Goes tops most (cs++more) ls ns:=by
 unfold Goes at h ⊢
 induction h with
 | nil=>exact .nil
 | cons r _ ih =>
  obtain⟨G,D,J,B⟩:=r;refine .cons ⟨G,?_,J,?_⟩ ih
  ·rw[MM (Md.mp D).1];exact D
  ·rcases B with B | ⟨B,h4 | h4⟩
   ·exact .inl B
   ·exact .inr ⟨B,.inl h4⟩
   ·exact .inr ⟨B,.inr (by rw[LY];omega)⟩
theorem Gf {cs:List Cp}{c:Cp}:(LS.putIn cs c)[(LS.putIn cs c).idxOf c]?=some c:=by
 have hm:c∈LS.putIn cs c:=LS.jq.mpr (.inr rfl);have B:=MN hm;rw[MB B,Nv B]
theorem tD:∀{ls cs:List Cp} {ns:List Nat},∃more ms,(ls.foldl (iY tops most) (cs,ns)).1=cs++more/\(ls.foldl (iY tops most) (cs,ns)).2=ns++ms/\Goes tops most (ls.foldl (iY tops most) (cs,ns)).1 ls ms
 | [],cs,ns=>⟨[],[],by simp,by simp,.nil⟩
 | l::ls,cs,ns=>by
  obtain⟨more,ms,D,Y,g⟩:=tD (ls:=ls) (cs:=LS.putIn cs (ef tops most cs l)) (ns:=ns++[(LS.putIn cs (ef tops most cs l)).idxOf (ef tops most cs l)]);have N:(l::ls).foldl (iY tops most) (cs,ns)=ls.foldl (iY tops most) (LS.putIn cs (ef tops most cs l),ns++[(LS.putIn cs (ef tops most cs l)).idxOf (ef tops most cs l)]):=rfl;rw[N];have hp:∃G,LS.putIn cs (ef tops most cs l)=cs++G:=by
   unfold LS.putIn;split
   ·exact⟨[],by simp⟩
   ·exact⟨_,rfl⟩
  obtain⟨G,J⟩:=hp;have B:=Gf (cs:=cs) (c:=ef tops most cs l);refine⟨G++more,(LS.putIn cs (ef tops most cs l)).idxOf (ef tops most cs l)::ms,by rw[D,J,MK],by rw[Y,MK];rfl,.cons ⟨ef tops most cs l,?_,?_,?_⟩ g⟩
  ·rw[D,MM (Md.mp B).1];exact B
  ·unfold ef;split
   ·rfl
   ·split<;>rfl
  ·have Z:cs.length<=(ls.foldl (iY tops most) (LS.putIn cs (ef tops most cs l),ns++[(LS.putIn cs (ef tops most cs l)).idxOf (ef tops most cs l)])).1.length:=by rw[D,J,LY,LY];omega
   generalize (ls.foldl (iY tops most) (LS.putIn cs (ef tops most cs l),ns++[(LS.putIn cs (ef tops most cs l)).idxOf (ef tops most cs l)])).1=cz at Z;unfold ef;by_cases h1:tops l.1
   ·rw[if_pos h1];exact .inr ⟨rfl,.inl h1⟩
   ·rw[if_neg h1];by_cases h2:l∈cs\/cs.length<most
    ·rw[if_pos h2];exact .inl ⟨h1,rfl⟩
    ·rw[if_neg h2];exact .inr ⟨rfl,.inr (by have:¬cs.length<most:=λ z=>h2 (.inr z);omega)⟩
def Lv (tops:Nat->Prop)(most:Nat)(ps:List Piece)(cs:List Cp)(outs:List Piece):Prop:=∀(j:Nat) (p:Piece),outs[j]?=some p->∃(c:Cp) (pc:Piece) (ns:List Nat),cs[j]?=some c/\ps[c.1]?=some pc/\p=(pc.1,pI pc.2 ns)/\Goes tops most cs (gI (hX c.2 pc.1) pc.2) ns
structure wc (tops:Nat->Prop) (most:Nat) (xs:List Str) (ps:List Piece) (cs:List Cp) (outs:List Piece):Prop where
 xF:mZ ps.length most cs
 ok:∀c∈cs,c.1<ps.length/\gh xs c.2
 le:outs.length<=cs.length
 rel:Lv tops most ps cs outs
theorem wc.step {cs:List Cp}(h:wc tops most xs ps cs outs)(D:fi xs m ps){c:Cp}(Z:cs[outs.length]?=some c)(hp:ps[c.1]?=some pc) :
  wc tops most xs ps (fj tops most cs (gI (hX c.2 pc.1) pc.2)).1 (outs++[(pc.1,pI pc.2 (fj tops most cs (gI (hX c.2 pc.1) pc.2)).2)])/\∃more,(fj tops most cs (gI (hX c.2 pc.1) pc.2)).1=cs++more:=by
 have J:=L8 Z;have a2:=D.jM _ (L8 hp);have a1:=D.ends _ (L8 hp);have a0:=(h.ok c J).2.Cu a2.2;obtain⟨k1,k2,_,_⟩:=lW (tops:=tops) (ls:=gI (hX c.2 pc.1) pc.2) (ns:=[]) h.xF h.ok (Bg a0 a1);obtain⟨more,ms,B,e2,g⟩:=tD (tops:=tops) (most:=most) (ls:=gI (hX c.2 pc.1) pc.2) (cs:=cs) (ns:=[]);have N:outs.length<cs.length:=(Md.mp Z).1;refine⟨⟨k1,k2,?_,?_⟩,more,B⟩
 ·unfold fj;rw[B,LY,LY];show _+1<=_;omega
 ·intro j p G;unfold fj;by_cases hjl:j<outs.length
  ·rw[MM hjl] at G;obtain⟨c',a4,a3,h1,h2,h3,h4⟩:=h.rel j p G;exists c',a4,a3,?_,h2,h3
   ·rw[B,MM ⋯];exact h1
   ·rw[B];exact h4.more
  ·have Y:j=outs.length:=by
    have:=(Md.mp G).1;rw[LY] at this;have:j<outs.length+1:=this;omega
   subst Y;rw[M6 (LW _),Nat.sub_self] at G;cases G;refine⟨c,pc,ms,?_,hp,?_,g⟩
   ·rw[B,MM N];exact Z
   ·unfold fj;rw[e2];rfl
theorem xG {xs:List Str}{ps:List Piece}{m:Nat}(G:fi xs m ps):∀(fu:Nat) {cs:List Cp} {outs:List Piece},wc tops most xs ps cs outs->fu+outs.length=most+ps.length ->
  wc tops most xs ps (jG tops most ps fu cs outs).1 (jG tops most ps fu cs outs).2/\(jG tops most ps fu cs outs).2.length=(jG tops most ps fu cs outs).1.length/\∃more,(jG tops most ps fu cs outs).1=cs++more
 | 0,cs,outs,h,hf=>by
  have:=h.xF.len λ c D=>(h.ok c D).1
  have:=h.le;exact⟨h,by show outs.length=cs.length;omega,[],by show cs=_;simp⟩
 | fu+1,cs,outs,h,hf=>by
  cases D:cs[outs.length]? with
  | none =>
   rw[xE D];have:cs.length<=outs.length:=NQ.mp D;have:=h.le;exact⟨h,by show outs.length=cs.length;omega,[],by simp⟩
  | some c =>
   have N:=(h.ok c (L8 D)).1;have J:ps[c.1]?=some ps[c.1]:=by simp[N]
   rw[vg D J];obtain⟨h',more,e⟩:=h.step G D J;obtain⟨i1,Y,B,Z⟩:=xG G fu h' (by rw[LY];show fu+(_+1)=_;omega);exact⟨i1,Y,more++B,by rw[Z,e,MK]⟩
end
theorem zx (B:fi xs m ps)(D:0<ps.length)(hm:1<=most) :
  wc (gc ps) most xs ps (kX ps most).1 (kX ps most).2/\(kX ps most).2.length=(kX ps most).1.length/\∃more,(kX ps most).1=[m3 ps]++more:=by
 refine xG B _ ⟨⟨by simp,Ma (M9 _ _) hm⟩,λ c J=>?_,Me _,λ j p G=>(by cases G)⟩ rfl;rw[LX.mp J];unfold m3;split
 ·exact⟨D,gh.zero⟩
 ·exact⟨D,tX B⟩
theorem Iz {D:Nat}{e:End}(h:iT xs n e)(B:ns.length=1\/ns.length=(cC e).length)(hb:∀k∈ns,k<D):iT xs D (pI e ns):=by
 match ns,B,hb with
 | [a],_,hb=>exact hb a (LX.mpr rfl)
 | [],B,_ =>
  cases e with
  | stop=>exact True.intro
  | go p=>exact absurd (B.resolve_left ⋯) (by show ¬0=1;decide)
  | eM b x n p q=>exact absurd (B.resolve_left ⋯) (by show ¬0=2;decide)
 | [a,c],B,hb =>
  have B:=B.resolve_left (by show ¬2=1;decide);cases e with
  | stop=>exact absurd B (by show ¬2=0;decide)
  | go p=>exact absurd B (by show ¬2=1;decide)
  | eM b x n p q=>exact⟨h.1,h.2.1,hb a (by simp),hb c (by simp)⟩
 | _::_::_::_,B,_ =>
  exfalso;have G:(cC e).length<=2:=by cases e<;>(show _<=2)<;>simp[cC]
  simp only[Ms] at B;omega
theorem Goes.lt {cs ls:List Cp}(h:Goes tops most cs ls ns):∀k∈ns,k<cs.length:=by
 unfold Goes at h
 induction h with
 | nil=>intro k hk;cases hk
 | cons r _ ih =>
  intro k hk
  rcases LZ.mp hk with rfl | hk
  ·obtain⟨D,B,_⟩:=r;exact (Md.mp B).1
  ·exact ih k hk
theorem Ep (B:fi xs m ps)(J:0<ps.length)(hm:1<=most):fi xs m (kX ps most).2:=by
 obtain⟨I,Z,_⟩:=zx B J hm;have key:∀p∈(kX ps most).2,(p.1.length<=m/\∀d∈p.1,fV xs d)/\iT xs (kX ps most).2.length p.2:=λ p hp=>by
  obtain⟨j,Y⟩:=Ni hp;obtain⟨c,pc,ns,h1,h2,rfl,N⟩:=I.rel j p Y;have D:=L8 h2;have G:=(I.ok c (L8 h1)).2.Cu (B.jM _ D).2;refine⟨(show pc.1.length<=m/\∀d∈pc.1,fV xs d from B.jM pc D),Iz (B.ends _ D) ?_ (by rw[Z];exact N.lt)⟩;rw[<-Paired.length N];exact (zw (e:=pc.2) G).1
 exact⟨λ p hp=>(key p hp).1,λ p hp=>(key p hp).2⟩
theorem Er (B:fi xs m ps)(D:0<ps.length)(hm:1<=most):0<(kX ps most).2.length/\(kX ps most).2.length<=most+ps.length:=by
 obtain⟨I,J,more,e⟩:=zx B D hm;have N:=I.xF.len λ c G=>(I.ok c G).1
 rw[J];refine⟨?_,N⟩;rw[e];exact Nat.succ_pos _
section
variable {X:Cx}
end
def Bi (e:End)(w:Str->Int):Option Nat:=match e with
 | .stop=>none
 | .go p=>some p
 | .eM b x n p q=>some (if iF b (w x) n=true then p else q)
theorem xH (S:RS)(e:End):mC S e=match Bi e S.w with
  | none=>{ S with word := "stop" }
  | some p=>{ S with dE:=p,place:=0,dM:=S.dM++[p] }:=by
 cases e<;>rfl
theorem xI:∀ns:List Int,dQ (ns.map PyData.int)=true
 | []=>rfl
 | n::ns=>xI ns
theorem xJ:∀ns:List Nat,dQ (ns.map λ k=>PyData.int (k:Nat))=true
 | []=>rfl
 | n::ns=>xJ ns
theorem IA (S:RS):eh (kh S)=true:=by
 show (true&&(dQ (S.told.map PyData.int)&&true))=true;rw[xI];rfl
theorem zy (S:RS):eh (se S)=true:=xJ S.dM
theorem Bj {H:Hp}:∀ns:List Nat,dh H (ns.map λ k=>V.int (k:Nat)) (ns.map λ k=>PyData.int (k:Nat))
 | []=>.nil
 | n::ns=>.cons (.int n) (Bj ns)
theorem IB {K:LV}(h:X.K=K):wY X (Fh K):=by subst h;exact df
theorem kY {Y N J D B:Expr}{t1 t2 t3 t4 t5 t6 t7:TE}(h1:PE X Z t1)(h2:PE X Y t2)(h3:PE X N t3)(h4:PE X J t4)(h5:PE X G t5)(h6:PE X D t6)(h7:PE X B t7)
  (s1:starEach [Z,Y,N,J,G,D,B] X.env=(false,eval Z X.env)::starEach [Y,N,J,G,D,B] X.env:=by rfl) (s2:starEach [Y,N,J,G,D,B] X.env=(false,eval Y X.env)::starEach [N,J,G,D,B] X.env:=by rfl) (s3:starEach [N,J,G,D,B] X.env=(false,eval N X.env)::starEach [J,G,D,B] X.env:=by rfl) (s4:starEach [J,G,D,B] X.env=(false,eval J X.env)::starEach [G,D,B] X.env:=by rfl) (s5:starEach [G,D,B] X.env=(false,eval G X.env)::starEach [D,B] X.env:=by rfl) (s6:starEach [D,B] X.env=(false,eval D X.env)::starEach [B] X.env:=by rfl) (s7:starEach [B] X.env=(false,eval B X.env)::starEach [] X.env:=by rfl) :
  PA X [Z,Y,N,J,G,D,B] (iq t1 (iq t2 (iq t3 (iq t4 (iq t5 (iq t6 (iq t7 oZ))))))):=(eE h1 (eE h2 (eE h3 (eE h4 (eE h5 (eE h6 (eE h7 fg s7) s6) s5) s4) s3) s2) s1)
def J2 (J:It)(n:Nat)(js:List Nat)(g:TG)(ct:TT)(tk tv:TE)(acc:Addr)(LQ : St)(H1:Hp)(Q:VK):Prop :=
 ∃W:Nat->Nat->List (Key×V)->St->Hp->Prop,(∃m,W 0 m [] (kJ n js LQ) (upd H1 acc (.dK [])))/\∀i m ys LR H2,W i m ys LR H2->H2 acc=some (.dK ys)/\ys.length<sizeLine /\
  ((J.stop i H2/\Q (.ref acc) H2)\/(J.go i H2/\∃N:List (Key×V)->St->Hp->Prop,(∀ys' τ' H',N ys' τ' H'->∃m',m' < m/\W (i+1) m' ys' τ' H')/\∀x H3,J.wM i H2 x H3->g x LR H3 λ τ1 H4=>ct τ1 H4 λ b H5 =>
   if b=true then tk τ1 H5 λ x1 H6=>tv τ1 H6 λ y H7=>∃k,x1=kV k/\H7 acc=some (.dK ys)/\N (putK ys k y) τ1 (upd H7 acc (.dK (putK ys k y))) else N ys τ1 H5))
def LM (n:Nat)(js:List Nat)(wi:TI)(g:TG)(ct:TT)(tk tv:TE):TE:=λ LQ H Q=>wi LQ H λ J H1=>∀acc,H1 acc=none->J2 J n js g ct tk tv acc LQ H1 Q
section
variable {X:Cx}{pos:Pos}
theorem qp {R:Result->Shared->Prop}{B:Expr}{a6:List Expr}{pos:Pos}{it:Value}{env:Env}(I:Nat->Shared->Prop)
  (a9:∀n s,I n s->wpAny (model prog w) A (pyNext it) (λ r J=>match r with
   | none=>R (.ok .next) J
   | some v=>wpAny (model prog w) A (letOwnedTupleGo B it v) (λ _ N=>wpAny (model prog w) A (assign B env v) (λ _ Y =>
     wpAny (model prog w) A (forIn a6 true λ c r=>if r=true then do let ok <-isTrue c env (eval c env);pure (ForInStep.yield ok) else pure (ForInStep.yield r)) (λ ok G =>
      if ok=true then wpAny (model prog w) A (eval kx env) (λ kv a1=>wpAny (model prog w) A (eval vx env) (λ vv a0 =>
       wpAny (model prog w) A (dictSet D kv vv) (λ _ a3=>∃m,m<n/\I m a3) (λ _ _=>False) a0) (λ _ _=>False) a1) (λ _ _=>False) G
      else ∃m,m<n/\I m G) (λ _ _=>False) Y) (λ _ _=>False) N) (λ _ _=>False) J) (λ _ _=>False) s)
  (n:Nat) (h:I n s) :
  codeAny (model prog w) A (.compLoop (.DictComp kx vx [⟨B,Z,a6,0⟩] scope pos) 0 it (.ref D) env) R s:=by
 refine codeAny_loop rfl I (λ n s hI=>?_) n h;show wpAny _ A ((compTurn (.DictComp kx vx [⟨B,Z,a6,0⟩] scope pos) 0 it (.ref D) env).onRaise (λ x=>do noteFrame x env;theTreesLotGoes x)) _ _ s;refine wpAny_noted ?_;rw[compTurn_dict];refine Oz (OM (Oz (OB (a9 n s hI) (λ r J a4=>?_) λ _ _ h'=>h'.elim)));cases r with
 | none=>exact OA a4
 | some v =>
  refine Oz (OB a4 (λ _ N a5=>?_) λ _ _ h'=>h'.elim);refine Oz (OB a5 (λ _ Y a8=>Oz (OB a8 (λ ok G a2=>?_) λ _ _ h'=>h'.elim)) λ _ _ h'=>h'.elim);cases ok with
  | false=>exact OA ⟨rfl,a2⟩
  | true =>
   exact Oz (Oz (OB a2 (λ kv a1 ab=>Oz (OC (OB ab (λ vv a0 aa=>Oz (OM (OC (OB aa (λ _ a3 a7=>OA ⟨rfl,a7⟩) λ _ _ h'=>h'.elim)))) λ _ _ h'=>h'.elim))) λ _ _ h'=>h'.elim))
theorem IC {a9:Z1}{LQ : St}{ab:Expr}{aq:List Expr}{ts fr:List Str}{js:List Nat}
    {it:Addr} {fp:List Addr} {tn:Nat->Heap->Prop} {J:It}  {RR:Value->Addr->Result->Shared->Prop}
    (hc:X.calm=true) (a7:scope.kind=.function) (a6:∀y∈scope.names,y.2≠.cell) (an:∀y∈scope.names,y.2=.free->X.env.kindOf y.1=some .cell\/X.env.kindOf y.1=some .free)
    (av:jU X scope fr js) (aN:∀C fp G D,PG (gR X scope C (ts++fr) fp G D) tg g) (aT:∀C fp G D,yK (gR X scope C (ts++fr) fp G D) aq ct) (aM:∀C fp G D,PE (gR X scope C (ts++fr) fp G D) kx tk) (aO:∀C fp G D,PE (gR X scope C (ts++fr) fp G D) vx tv)
    (I:Inv X a9 LQ H s) (T:Turn X.prog X.w X.K tg J fp it tn) (st:tn 0 s.heap) (aa:∀b∈fp,jQ X a9 H b)
    (h:∀acc,H acc=none->J2 J ts.length js g ct tk tv acc LQ H Q)
    (aK:∀acc C H' s' m,Inv X a9 LQ H' s'->s'.heap.Ns C m->H' C=none->s.heap.objs.size<=C->Q (.ref acc) H'->RR (.ref acc) C (.ok .next) s') :
    wpAny (model X.prog X.w) X.A newDict (λ acc au=>wpAny (model X.prog X.w) X.A (newFunctionEnv scope X.env.globals (lS X.env.cells scope.names []) [] X.env.qual none .none (some X.env)) (λ aj aw =>
      codeAny (model X.prog X.w) X.A (.compStart (.DictComp kx vx [⟨tg,ab,aq,0⟩] scope pos) 0 (.ref it) acc { aj with scope:=relabel scope X.env }) (RR acc aj.locals) aw) E au) E s:=by
  have hf:∀y∈scope.names,y.2=.free->∃c,X.env.cells.lookup y.1=some c:=λ y hy e=>I.ok.has y.1 (an y hy e)
  have ag:∀x c,(lS X.env.cells scope.names []).lookup x=some c->X.env.cells.lookup x=some c:=nu scope.names [] hf λ x c e=>by simp at e
  have as:∀b∈fp,b<s.heap.objs.size:=λ b hb=>by
    obtain⟨o,e,_⟩:=T.obj _ _ st b hb;exact L0 e
  refine OD (wpAny_newFunctionEnv a6 (by intro y hy;simp at hy) (λ a1 a0 B=>?_) a7);dsimp only at a0 B ⊢;have ah:(s.heap.push { cls:=.type "dict",dict:=none,data:=.dict #[] }).DictOf (dm X.prog X.w) s.heap.objs.size []:=Heap.DictOf.new s.heap;generalize aH:s.heap.push { cls:=.type "dict",dict:=none,data:=.dict #[] }=G2 at a0 B ah ⊢;have hC:G2.objs.size=s.heap.objs.size+1:=by rw[<-aH,Ml]
  have aG:s.heap.objs.size≠G2.objs.size:=by rw[hC];exact L5 (MG _)
  have a5:s.heap.objs.size<=G2.objs.size:=by rw[hC];exact MJ _
  have a4:∀b,b<s.heap.objs.size->b≠G2.objs.size/\b≠s.heap.objs.size:=λ b hb=>⟨by rw[hC];exact L5 (ME hb),L5 hb⟩
  have a2:∀b o,s.heap.get? b=some o->a1.get? b=some o:=λ b o e=>B.extBut b o (a4 b (L0 e)).1 (L3 _ (aH ▸ L3 _ e))
  have aB:a1.DictOf (dm X.prog X.w) s.heap.objs.size []:=ah.at λ o e=>B.extBut _ _ aG (L3 _ e)
  have nD:H s.heap.objs.size=none:=I.de.fresh (LW _);have nC:H G2.objs.size=none:=I.de.fresh a5;obtain⟨W,⟨m0,w0⟩,ax⟩:=h s.heap.objs.size nD;generalize Y:gR X scope G2.objs.size (ts++fr) fp s H=Xb;have Ib:∀tk,Inv Xb [] (kJ ts.length js LQ) (upd H s.heap.objs.size (.dK [])) { s with heap:=a1,toks:=tk }:=by
    intro tk;subst Y;exists Dl I a7 a6 hf a5 aa as,rfl,I.bare,Un.laid a2 (LW _) nD,⟨_,a0,λ i x v e1 e2 e3=>?_⟩,λ x c e=>?_,?_,λ x c e=>?_,λ p hp=>absurd (show p∈([]:Z1) from hp) (by simp),I.de.laid a2 (LW _) (oC (Me _) (beq_eq_false_iff_ne.mpr (Ne.symm (L5 I.big))) .nil aB)
    . have hi:ts.length<=i:=by
        refine Nat.le_of_not_lt λ hi=>?_
        unfold kJ at e2;rw[MM (by simpa using hi),Oo] at e2;split at e2<;>cases e2
      have aJ:fr[i-ts.length]?=some x:=by
        have af:(ts++fr)[i]?=some x:=e1;rw[M6 hi] at af;exact af
      unfold kJ at e2;rw[M6 (by simpa using hi),Nl,L6] at e2;cases ej:js[i-ts.length]? with
      | none=>rw[ej] at e2;cases e2
      | some j =>
        rw[ej] at e2;have a8:LQ.getD j none=some v:=by simpa using e2
        obtain⟨q1,q2,q3⟩:=av.get aJ ej;have aE:LQ[j]?=some (some v):=by
          rw[MR] at a8;cases ez:LQ[j]? with
          | none=>rw[ez] at a8;cases a8
          | some z=>rw[ez] at a8;rw[show z=some v from a8]
        obtain⟨m,hn,hl⟩:=I.loc;obtain⟨u,r,l⟩:=hl j x v q1 aE (by
          rcases q2 with q2 | q2
          . exact .inr (.inl q2)
          . exact .inr (.inr q2))
        refine⟨u,r,.inr ⟨mT q3,?_⟩⟩
        rcases l with ⟨l,_⟩ | ⟨_,c,lc,lv⟩
        . rcases q2 with q2 | q2<;>(rw[l] at q2;cases q2)
        . obtain⟨c',ay⟩:=rS (cells:=X.env.cells) scope.names [] (.inl (PySem.mem_of_lookup q3))
          have:=ag x c' ay;rw[lc] at this;cases this;obtain⟨o,ho,hd⟩:=lv;exact⟨c,ay,o,a2 _ _ ho,hd⟩
    . obtain⟨v,o,ho,hd⟩:=I.cell x c (ag x c e)
      exact⟨v,o,a2 _ _ ho,hd⟩
    . show upd H s.heap.objs.size (.dK []) G2.objs.size=none
      rw[cx aG.symm];exact nC
    . obtain⟨v,o,ho,hd⟩:=I.cell x c (ag x c e)
      rw[cx (L5 (L0 ho))];exact I.jy x c (ag x c e)
    . show (kJ ts.length js LQ).length=(ts++fr).length
      unfold kJ;rw[LY,Nl,LU,LY,av.len]
  have ao:∀{H':Hp},(∀b∈fp,H' b=none)->∀b∈fp,jQ Xb [] H' b:=λ {H'} hn b hb=>by
    subst Y;obtain⟨h1,h2,h3,h4,h5,h6⟩:=aa b hb;refine⟨hn b hb,(a4 b (as b hb)).1,λ z=>?_,.inl hb,λ x c e=>h5 x c (ag x c e),λ p hp=>absurd (show p∈([]:Z1) from hp) (by simp)⟩
    rcases LZ.mp (I.qu b z) with z | z
    . exact h2 z
    . exact h3 z
  have aP:∀{LR : St} {H':Hp} {s':Shared},Inv Xb [] LR H' s'->Q (.ref s.heap.objs.size) H'->RR (.ref s.heap.objs.size) G2.objs.size (.ok .next) s':=λ {LR H' s'} Jb q=>by
    subst Y;obtain⟨m,hn,_⟩:=Jb.loc;refine aK _ _ H' s' m (I.GQ (ch:=fp) Jb.os Jb.base Jb.de Jb.bare λ b hb=>?_) hn Jb.free a5 q;obtain⟨h1,h2,h3,h4,h5,h6⟩:=aa b hb;exact⟨h4,h2,h5,h6⟩
  have ac:∀tk,codeAny (model X.prog X.w) X.A (.compLoop (.DictComp kx vx [⟨tg,ab,aq,0⟩] scope pos) 0 (.ref it) (.ref s.heap.objs.size) (compEnvC scope (lS X.env.cells scope.names []) G2.objs.size X.env))
        (RR (.ref s.heap.objs.size) G2.objs.size) { s with heap:=a1,toks:=tk }:=by
    intro tk;refine qp (λ n s'=>∃i ys LR H',Inv Xb [] LR H' s'/\tn i s'.heap/\(∀b∈fp,H' b=none)/\W i n ys LR H') ?_ m0 ⟨0,[],_,_,Ib tk,T.keep _ _ _ st λ b hb o e=>a2 b o e,λ b hb=>?_,w0⟩
    . rintro n s3 ⟨i,ys,LR,H3,I3,aC,aF,w3⟩
      have ad:=aN G2.objs.size fp s H;have ak:=aT G2.objs.size fp s H;have ai:=aM G2.objs.size fp s H;have ae:=aO G2.objs.size fp s H;rw[Y] at ad ak ai ae;have eP:Xb.prog=X.prog:=by subst Y;rfl
      have ew:Xb.w=X.w:=by subst Y;rfl
      have eK:Xb.K=X.K:=by subst Y;rfl
      have eA:Xb.A=X.A:=by subst Y;rfl
      have ec:Xb.calm=true:=by subst Y;exact hc
      have ee:Xb.env=compEnvC scope (lS X.env.cells scope.names []) G2.objs.size X.env:=by subst Y;rfl
      have ex:Xb.xe=λ _ _=>False:=by subst Y;rfl
      rw[<-eP,<-ew,<-eA,<-ee];obtain⟨ha,hl,am⟩:=ax i n ys LR H3 w3
      rcases am with ⟨stop,q⟩ | ⟨go,N,hN,step⟩
      . have hd:=T.done Xb eP ew eK ec i [] s3 LR H3 (λ _ _=>False) I3 (ao aF) aC stop
        rw[<-eP,<-ew] at hd;refine OB hd (λ r s4 ar=>?_) λ _ _ z=>z
        obtain⟨hr,I4⟩:=ar;subst hr;exact aP I4 q
      . have hd:=T.item Xb eP ew eK ec i [] s3 LR H3 (λ _ _=>False) I3 (ao aF) aC go
        rw[<-eP,<-ew] at hd;refine OB hd (λ r s4 ar=>?_) λ _ _ z=>z
        obtain⟨u,hr,h4⟩:=ar;subst hr;refine OB h4 (λ _ s5 ⟨x,H5,I5,r5,y5,al,aQ⟩=>?_) λ _ _ z=>z
        have aL:=I5.pinned (ao aQ) (T.obj _ _ al);have Z:∀{aD:St} {H7:Hp} {s7:Shared},Inv Xb ([]++ou fp s5.heap) aD H7 s7->tn (i+1) s7.heap/\∀b∈fp,H7 b=none:=λ {aD H7 s7} I7=>by
          refine⟨T.keep _ _ _ al λ b hb o e=>(I7.pin (b,o) (Mm _ (Mm _ (jA hb e)))).1,λ b hb=>?_⟩;obtain⟨o,e,d⟩:=T.obj _ _ al b hb;exact (I7.pin (b,o) (Mm _ (Mm _ (jA hb e)))).2.1
        refine OB (ad _ s5 LR H5 x u _ aL r5 (step x H5 y5)) (λ _ s6 ⟨a3,H6,I6,q6⟩=>?_) (λ _ _ z=>by rw[ex] at z;exact z);refine OB (ak _ s6 a3 H6 _ I6 q6) (λ ok s7 ⟨H7,I7,q7⟩=>?_) (λ _ _ z=>by rw[ex] at z;exact z);cases ok with
        | false =>
          have aR:N ys a3 H7:=by rw[if_neg (by simp)] at q7;exact q7
          rw[if_neg (by simp)];obtain⟨m',hm,w7⟩:=hN _ _ _ aR;exact⟨m',hm,i+1,ys,a3,H7,I7.jR,(Z I7).1,(Z I7).2,w7⟩
        | true =>
          rw[if_pos rfl] at q7 ⊢;refine OB (ai _ s7 a3 H7 _ I7 q7) (λ kv s8 ⟨x8,H8,I8,r8,q8⟩=>?_) (λ _ _ z=>by rw[ex] at z;exact z);refine OB (ae _ s8 a3 H8 _ I8 q8) (λ v s9 ⟨y,H9,I9,r9,k,ek,az,n9⟩=>?_) (λ _ _ z=>by rw[ex] at z;exact z);subst ek;obtain⟨z,hd,vs,rel,dd⟩:=yl I9.de az;have hz:vs.length<=sizeLine:=by rw[<-rel.length];exact z
          have aS:(putK ys k y).length<=sizeLine:=by have:=fY ys k y;omega
          refine wpAny_dictSet_pairs (hsz:=hz) (mB r8) dd λ h' aI hs=>?_
          have he:∃q,h'.get? s.heap.objs.size=some q:=let ⟨q,_,_,hq,_⟩:=aI;⟨q,hq⟩
          have ap:=λ tk=>rW (t':=tk) I9 (by rw[az];exact True.intro) hs he (oC aS hd (rel.put k r9) aI)
          obtain⟨m',hm,w8⟩:=hN _ _ _ n9;exact⟨m',hm,i+1,_,a3,_,(ap (s9.toks+1)).jR,(Z (ap (s9.toks+1))).1,(Z (ap (s9.toks+1))).2,w8⟩
    . rw[cx (L5 (as b hb))]
      exact (aa b hb).1
  exact codeAny_compStart_dict (ac _) (T.self _ 0 _ _ _ (T.keep _ _ _ st λ b hb o e=>a2 b o e) (ac _))
theorem Gg {a4:List Expr}{wi:TI}(ts fr:List Str)(js:List Nat)
  (hc:X.calm=true) (hi:PI X tg G wi) (Y:scope.kind=.function) (a2:∀y∈scope.names,y.2≠.cell) (a0:∀y∈scope.names,y.2=.local->scope.names.lookup y.1=some .local)
  (Z:∀y∈scope.names,y.2=.free->y.1∈fr) (a3:jU X scope fr js)
  (a7:∀C fp D B,PG (gR X scope C (ts++fr) fp D B) tg g) (a9:∀C fp D B,yK (gR X scope C (ts++fr) fp D B) a4 ct) (a5:∀C fp D B,PE (gR X scope C (ts++fr) fp D B) kx tk) (aa:∀C fp D B,PE (gR X scope C (ts++fr) fp D B) vx tv)
  (hs:∀x,foldedSetIterable G X.env x=pure x:=by intro _;rfl):PE X (.DictComp kx vx [⟨tg,G,a4,0⟩] scope pos) (LM ts.length js wi g ct tk tv):=by
 have N:∀y∈scope.names,y.2=.free->X.env.kindOf y.1=some .cell\/X.env.kindOf y.1=some .free:=λ y hy e=>a3.mem (Z y hy e)
 intro a1 s LQ H Q I h;rw[arm_eval_DictComp];refine O8 (use:=none) rfl hs (o1 λ y hy e=>I.ok.has y.1 (N y hy e)) Y a0 (dC (hi a1 s LQ H _ I h) λ xv s1 h1=>dC h1 λ ac s2 h2=>?_);obtain⟨it,fp,tn,J,H2,e,I2,T,a6,f2,hW⟩:=h2;subst e;refine IC (RR:=λ acc C=>compPost (model X.prog X.w) X.A X.xe none (EP X a1 LQ Q) acc C) hc Y a2 N a3 a7 a9 a5 aa I2 T a6 f2 hW ?_;intro acc C H' s' m I' hn hC a8 q;exact⟨m,hn,λ h' ab=>⟨.ref acc,H',I2.yL I' hC a8 ab,rfl,q⟩⟩
end
section
variable {X:Cx}
end
section
variable {X:Cx}
end
inductive xK  (vs:List V) (H:Hp) (Q:VK) (_:XK):Prop
 | mk (fv:V) (p:Addr) (ws:List V) (ds:List e6) (T:Str->Sx) (xs:List Str) (_:vs=[fv,.ref p]) (_:FV H fv T) (_:H p=some (.tup ws)) (_:dh H ws (ds.map eN)) (_:gh xs T) (_:(∀d∈ds,fV xs d)) (_:xs.length<64) (_:∀v H',FV H' v (hX T ds)->cy H H'->Q v H')
theorem ID (h:i<n):p7 n (i:Int)=some i:=by
 unfold p7;simp;omega
section
variable {X:Cx}
inductive J3  (x:V) (vs:List V) (H:Hp) (Q:VK):Prop
 | mk (l:Addr) (xs:List V) (z:Int) (k:Nat) (y:V) (_:x=.ref l) (_:vs=[.int z,y]) (_:z=(k:Int)) (_:H l=some (.lst xs)) (_:k<=xs.length) (_:xs.length<1000000) (_:Q .eu (upd H l (.lst (xs.take k++y::xs.drop k))))
theorem Gh:Aw X "list.insert" J3:=by
 intro Y s LQ H x vs v us Q I rx rv h;obtain⟨l,xs,B,k,y,rfl,rfl,a0,N,hk,hz,q⟩:=h;cases rx;cases rv with
 | cons ru1 rv1 =>
  obtain⟨D,rfl,J⟩:=vals1 rv1;obtain⟨t,rfl⟩:=ru1;obtain⟨z,its,n,r,hl,e⟩:=I.yI N;have G:¬(!Builtin.List.listFitsIndex B)=true:=by
   rw[fitsIndex_both ⋯ ⋯];exact Mv
  have hsz:its.toArray.size<=sizeLine:=by rw[Mi];omega
  have M:=AutoSeq1.list_insert_list_int_val_1 l its.toArray n B t D G hsz;refine call_meets F.slot_list_insert ⟨_,e,rfl⟩ F.entry_list_insert (F.args_list_insert_3 _ _ _) M ⟨e,?_⟩;have Z:(if B<0 then (B+(its.toArray.size:Int)).toNat else min B.toNat its.toArray.size)=k:=by
   rw[if_neg ⋯,Mi];omega
  have ex:(its.toArray.extract 0 k).push D++its.toArray.extract k=(its.take k++D::its.drop k).toArray:=by
   apply Array.toList_inj.mp;simp;rw[Oq (by rw[NB];exact LW _)]
  refine⟨.eu,_,I.BM (its':=its.take k++D::its.drop k) N e ?_ ((r.take k).append (.cons J (r.drop k))) ?_,rfl,q⟩
  ·show (its.toArray.extract 0 (if B<0 then (B+(its.toArray.size:Int)).toNat else min B.toNat its.toArray.size)).push D++its.toArray.extract (if B<0 then (B+(its.toArray.size:Int)).toNat else min B.toNat its.toArray.size)=_;rw[Z,ex]
  ·rw[LY,Ms,Mu,NB];have:sizeLine=16777216\/1000000<sizeLine:=.inr ⋯;omega
end
section
variable {X:Cx}
end
section
variable {X:Cx}{pos:Pos}
end
section
variable {X:Cx}{pos:Pos}
end
section
variable {X:Cx}{pos:Pos}
end
section
variable {X:Cx}{K:LV}
def J4 (K:LV):List V->Hp->VK->Prop:=λ xs H Q=>∃p ys,xs=[.ref p]/\((cN K H p ys/\∀l,H l=none->Q (.ref l) (upd H l (.tup ys)))\/(cE K H p ys/\Q (.ref p) H))
theorem we (B:X.K=K):il X (.type "tuple") (J4 K):=by
 subst B;exact cT
end
section
variable {X:Cx}
end
end L2
namespace LS
open PySem PySem.Spec PyProof.Rows L2
section
variable {prog:Program}{w:World}{A:Around}{E:Z0}{s:Shared}{I l:Addr}{its:Array Value}
end
section
variable {prog:Program}{w:World}{A:Around}{E:Z0}{s:Shared}{I l:Addr}{its:Array Value}
end
end LS
namespace L2
open PySem PySem.Spec PyProof.Rows
section
variable {X:Cx}
end
end L2
namespace LS
open PySem PySem.Spec PyProof.Rows L2
section
variable {prog:Program}{w:World}{K:Type}[DecidableEq K]{knd:KeyKind prog w K}
variable {A:Around}{E:Z0}{s:Shared}{a:Addr}{ks:List K}
end
section
variable {prog:Program}{w:World}{A:Around}{E:Z0}{s:Shared}
end
end LS
namespace L2
open PySem PySem.Spec PyProof.Rows LS
section
variable {X:Cx}
end
end L2
namespace HT
open PySem PySem.Spec PyProof.Rows
section
variable {prog:Program}{w:World}{A:Around}{E:Z0}{s:Shared}
end
end HT
namespace L2
open PySem PySem.Spec PyProof.Rows LS
variable {ps outs:List Piece}{G ms ks:List Nat}{a n b m i:Nat}{ds:List PyData}{p:Piece}{D:Ends}{H:Hp}{X:Cx}{xs:List Str}{x d y:PyData}{e:End}{B:Expr}{J Y Z N t2 t7:TS}{r:Addr}{p1:Pos}{c:Int}{t u v:Tok}{ta:TA}
section
variable {X:Cx}
end
section
variable {prog:Program}{w:World}{A:Around}{E:Z0}{s:Shared}
end
section
variable {X:Cx}
end
section
variable {X:Cx}
theorem IE:iK X (binaryOp .Mult) (λ x y H Q=>∃t n,x=.str t/\y=.int n/\MulOk t n/\Q (.str (Txt.mul t n)) H):=by
 intro B s N H x y v u Q I D G h;obtain⟨t,n,rfl,rfl,hm,q⟩:=h;obtain⟨k,rfl⟩:=D;obtain⟨J,rfl⟩:=G;exact SB.mul hm λ t' j=>⟨.str _,H,I.tok _,⟨_,rfl⟩,q⟩
end
theorem Gi {c0 c:Nat}{n:Int}(h0:97<=c0/\c0<=122)(B:97<=c/\c<=122)(G:1<=n)(D:n<=4):MulOk ⟨#[c]⟩ n/\(Txt.mul ⟨#[c]⟩ n).length<=4/\hU ((⟨#[c0]⟩:Str)++Txt.mul ⟨#[c]⟩ n):=by
 obtain rfl | rfl | rfl | rfl:n=1\/n=2\/n=3\/n=4:=by omega
 ·refine⟨⟨by decide,λ _ h=>absurd h (by show ¬true=false;decide),λ _ h=>absurd h (by show ¬true=false;decide)⟩,by show 1<=4;decide,⟨by show 1<=2;decide,by show 2<=8;decide,λ d hd=>?_⟩⟩;have:d∈[c0,c]:=hd;simp at this;omega
 ·refine⟨⟨by decide,λ _ _=>by show ¬((1:Nat):Int) > _;decide,λ _ _=>by show Builtin.Str.tooLong (1*2)=false;decide⟩,by show 2<=4;decide,⟨by show 1<=3;decide,by show 3<=8;decide,λ d hd=>?_⟩⟩;have:d∈[c0,c,c]:=hd;simp at this;omega
 ·refine⟨⟨by decide,λ _ _=>by show ¬((1:Nat):Int) > _;decide,λ _ _=>by show Builtin.Str.tooLong (1*3)=false;decide⟩,by show 3<=4;decide,⟨by show 1<=4;decide,by show 4<=8;decide,λ d hd=>?_⟩⟩;have:d∈[c0,c,c,c]:=hd;simp at this;omega
 ·refine⟨⟨by decide,λ _ _=>by show ¬((1:Nat):Int) > _;decide,λ _ _=>by show Builtin.Str.tooLong (1*4)=false;decide⟩,by show 4<=4;decide,⟨by show 1<=5;decide,by show 5<=8;decide,λ d hd=>?_⟩⟩;have:d∈[c0,c,c,c,c]:=hd;simp at this;omega
inductive zA  (vs:List V) (H:Hp) (Q:VK) (_:XK):Prop
 | mk (b:Addr) (c:Nat) (_:vs=[.ref b,.int c]) (_:e7 H b) (_:0<c) (_:c<=1000) (_:∀v xs ps H',cW H' v (fq ps)->ps.length=c->fi xs 4 ps->((∀x∈xs,hU x)/\xs.length<=60)->e7 H' b->Fix b H H'->Q v H')
def gd:End->List PyData
 | .stop=>[.str "stop"]
 | .go _=>[.str "go"]
 | .eM b x n _ _=>[.str (wT b),.str x,.int n]
def iE (p:Piece):PyData:=.tuple [.tuple (p.1.map eN),.tuple (gd p.2)]
noncomputable def fQ (ds:List PyData):List Nat:=ds.map ds.idxOf
theorem vi (ds:List PyData):(fQ ds).length=ds.length:=LU ..
theorem mG (h:ds[a]?=some d):cL (fQ ds) a=ds.idxOf d:=by
 unfold cL fQ;rw[MR,L6,h];rfl
theorem IF (hx:x∈ds)(B:y∈ds)(h:ds.idxOf x=ds.idxOf y):x=y:=by
 have N:=Nv (MN hx);have J:=Nv (MN B);have D:ds[ds.idxOf x]?=some x:=by rw[MB (MN hx),N]
 have G:ds[ds.idxOf y]?=some y:=by rw[MB (MN B),J]
 rw[h,G] at D;exact (Mf.inj D).symm
theorem nP {ds:List PyData}(B:ds[a]?=some x)(hb:ds[b]?=some y):cL (fQ ds) a=cL (fQ ds) b↔x=y:=by
 rw[mG B,mG hb];exact⟨IF (L8 B) (L8 hb),λ h=>by rw[h]⟩
theorem rp (D:ds[a]?=some x):cL (fQ ds) a<=a/\ds[cL (fQ ds) a]?=some x/\∀b,b<cL (fQ ds) a->ds[b]?≠some x:=by
 rw[mG D];have hm:=L8 D;have G:=MN hm;have B:∀b,b<ds.idxOf x->ds[b]?≠some x:=λ b hb z=>by
  have:=List.not_of_lt_findIdx (p:=(· == x)) (xs:=ds) hb;obtain⟨J,e⟩:=Md.mp z;rw[e] at this;simp at this
 refine⟨?_,?_,B⟩
 ·by_cases h:ds.idxOf x<=a
  ·exact h
  ·exact absurd D (B a ⋯)
 ·rw[MB G,Nv]
def tZ (G:List Nat)(k:Nat)(ws:List Nat):PyData:=.tuple [fm (cL G k),.tuple ((ws.map (cL G)).map fm)]
def kn (ps:List Piece)(G:List Nat):List PyData:=ps.mapIdx λ k p=>tZ G k (cC p.2)
theorem nQ (h:ps[a]?=some p):(kn ps G)[a]?=some (tZ G a (cC p.2)):=by
 unfold kn;rw[List.getElem?_mapIdx,h];rfl
noncomputable def d5 (ps:List Piece):Nat->List Nat
 | 0=>fQ (ps.map iE)
 | n+1=>fQ (kn ps (d5 ps n))
theorem j8 (ps:List Piece):∀n,(d5 ps n).length=ps.length
 | 0=>by show (fQ _).length=_;rw[vi,LU]
 | n+1=>by show (fQ _).length=_;rw[vi];unfold kn;rw[Ox]
theorem rA:∀{xs ys:List Nat},xs.map fm=ys.map fm->xs=ys
 | [],[],_=>rfl
 | [],_::_,h=>nomatch h
 | _::_,[],h=>nomatch h
 | x::xs,y::ys,h=>by
  injection h with h1 h2
  injection h1 with h1
  rw[rA h2,show x=y by omega]
theorem IG {v w:List Nat}:tZ G a v=tZ G b w↔cL G a=cL G b/\v.map (cL G)=w.map (cL G):=by
 constructor
 ·intro h;injection h with h
  injection h with D B
  injection D with D
  injection B with B _
  injection B with B
  exact⟨by omega,rA B⟩
 ·rintro⟨D,B⟩;unfold tZ;rw[D,B]
section
variable {ps:List Piece}{a b:Nat}{p q:Piece}
theorem t9 (B:ps[a]?=some p)(hb:ps[b]?=some q):cL (d5 ps 0) a=cL (d5 ps 0) b↔iE p=iE q :=
 nP (ds:=ps.map iE) (by rw[L6,B];rfl) (by rw[L6,hb];rfl)
theorem m4 (B:ps[a]?=some p)(hb:ps[b]?=some q):cL (d5 ps (n+1)) a=cL (d5 ps (n+1)) b↔cL (d5 ps n) a=cL (d5 ps n) b/\(cC p.2).map (cL (d5 ps n))=(cC q.2).map (cL (d5 ps n)):=by
 refine (nP (nQ B) (nQ hb)).trans ?_;exact IG
theorem ua (B:ps[a]?=some p)(hb:ps[b]?=some q):∀{n m:Nat},m<=n->cL (d5 ps n) a=cL (d5 ps n) b->cL (d5 ps m) a=cL (d5 ps m) b
 | 0,m,h,e=>by rw[show m=0 by omega];exact e
 | n+1,m,h,e=>by
  by_cases hm:m=n+1
  ·rw[hm];exact e
  ·exact ua B hb ⋯ ((m4 B hb).mp e).1
theorem Es (h:iE p=iE q):(cC p.2).length=(cC q.2).length:=by
 have h:gd p.2=gd q.2:=by
  injection h with h
  injection h with _ h
  injection h with h _
  injection h
 generalize p.2=e at h ⊢;generalize q.2=f at h ⊢;cases e with
 | stop =>
  cases f with
  | stop=>rfl
  | go _=>injection h with h _;injection h with h;exact absurd h ⋯
  | eM b x n i j=>injection h with _ h;cases h
 | go i =>
  cases f with
  | stop=>injection h with h _;injection h with h;exact absurd h ⋯
  | go _=>rfl
  | eM b x n i j=>injection h with _ h;cases h
 | eM b x n i j =>
  cases f with
  | stop=>injection h with _ h;cases h
  | go _=>injection h with _ h;cases h
  | eM _ _ _ _ _=>rfl
end
def KQ (ps:List Piece)(a b:Nat):Prop:=∀n,cL (d5 ps n) a=cL (d5 ps n) b
def i6 (ps:List Piece)(G:List Nat):Prop:=∃n,G=d5 ps n/\d5 ps (n+1)=d5 ps n
theorem zB {ps:List Piece}{n:Nat}(h:d5 ps (n+1)=d5 ps n):∀k,d5 ps (n+k)=d5 ps n
 | 0=>rfl
 | k+1=>by
  have B:=zB h k;show fQ (kn ps (d5 ps (n+k)))=_;rw[B];exact h
theorem i6.len (h:i6 ps G):G.length=ps.length:=by
 obtain⟨n,rfl,_⟩:=h;exact j8 ps n
theorem i6.iff (h:i6 ps G)(J:a<ps.length)(hb:b<ps.length):cL G a=cL G b↔KQ ps a b:=by
 obtain⟨n,rfl,e⟩:=h;have D:ps[a]?=some ps[a]:=by simp[J]
 have B:ps[b]?=some ps[b]:=by simp[hb]
 refine⟨λ z m=>?_,λ z=>z n⟩;by_cases hm:m<=n
 ·exact ua D B hm z
 ·have:=zB e (m-n);rw[show n+(m-n)=m by omega] at this;rw[this];exact z
theorem lX (G:a<ps.length):∀n,cL (d5 ps n) a<=a/\cL (d5 ps n) (cL (d5 ps n) a)=cL (d5 ps n) a/\∀b,b<cL (d5 ps n) a->cL (d5 ps n) b≠cL (d5 ps n) a:=by
 intro n;have key:∀ds:List PyData,a<ds.length->cL (fQ ds) a<=a/\cL (fQ ds) (cL (fQ ds) a)=cL (fQ ds) a/\∀b,b<cL (fQ ds) a->cL (fQ ds) b≠cL (fQ ds) a:=λ ds hd=>by
  have hx:ds[a]?=some ds[a]:=by simp[hd]
  obtain⟨Y,N,J⟩:=rp hx;refine⟨Y,(nP N hx).mpr rfl,λ b hb z=>?_⟩;have B:b<ds.length:=by omega
  have D:ds[b]?=some ds[b]:=by simp[B]
  have:=(nP D hx).mp z;exact J b hb (by rw[D,this])
 cases n with
 | zero=>exact key _ (by rw[LU];exact G)
 | succ n=>exact key _ (by unfold kn;rw[Ox];exact G)
theorem i6.lt (h:i6 ps G)(B:a<ps.length):cL G a<ps.length:=by
 obtain⟨n,rfl,e⟩:=h;have:=(lX B n).1;omega
theorem i6.Hd (h:i6 ps G)(B:a<ps.length):KQ ps a (cL G a):=by
 refine (h.iff B (h.lt B)).mp ?_;obtain⟨n,rfl,e⟩:=h;exact ((lX B n).2.1).symm
theorem Gj (B:a<ps.length)(n:Nat):cL (d5 ps n) a<=cL (d5 ps (n+1)) a:=by
 obtain⟨N,J,_⟩:=lX B (n+1);have hb:cL (d5 ps (n+1)) a<ps.length:=by omega
 have G:ps[a]?=some ps[a]:=by simp[B]
 have D:ps[cL (d5 ps (n+1)) a]?=some ps[cL (d5 ps (n+1)) a]:=by simp[hb]
 have:=((m4 D G).mp J).1;by_cases h:cL (d5 ps n) a<=cL (d5 ps (n+1)) a
 ·exact h
 ·exact absurd this ((lX B n).2.2 _ ⋯)
theorem Et:∀{xs ys:List Nat},xs.length=ys.length->(∀a,a<xs.length->cL xs a<=cL ys a)->xs.sum<=ys.sum/\(xs≠ys->xs.sum<ys.sum)
 | [],[],_,_=>⟨LW _,λ h=>absurd rfl h⟩
 | [],_::_,h,_=>nomatch h
 | _::_,[],h,_=>nomatch h
 | x::xs,y::ys,h,hle=>by
  have h0:x<=y:=hle 0 (by simp);obtain⟨G,B⟩:=Et (xs:=xs) (ys:=ys) (by simpa using h) λ a D=>hle (a+1) (by simpa using D)
  rw[Oe,Oe];refine⟨by omega,λ hne=>?_⟩;by_cases e:xs=ys
  ·have:x≠y:=λ z=>hne (by rw[z,e])
   omega
  ·have:=B e;omega
theorem vj {m:Nat}:∀{xs:List Nat},(∀x∈xs,x<=m)->xs.sum<=xs.length*m
 | [],_=>by simp
 | x::xs,h=>by
  have:=vj (xs:=xs) λ y B=>h y (Mc _ B)
  have:=h x (L9 ..);rw[Oe,Ms,Nat.succ_mul];omega
theorem wg {xs:List Nat}{x:Nat}(h:x∈xs):∃a,a<xs.length/\cL xs a=x:=by
 obtain⟨a,B,e⟩:=List.getElem_of_mem h;exists a,B;unfold cL;rw[MR,MB B,e];rfl
theorem Eu {x:Nat}(h:x∈d5 ps n):x<ps.length:=by
 obtain⟨a,B,rfl⟩:=wg h;rw[j8] at B;have:=(lX B n).1;omega
theorem Bk (ps:List Piece)(n:Nat):(d5 ps n).sum<=ps.length*ps.length:=by
 have:=vj (m:=ps.length) (xs:=d5 ps n) λ x hx=>Mr (Eu hx)
 rw[j8] at this;exact this
theorem Gk (h:d5 ps (n+1)≠d5 ps n):(d5 ps n).sum<(d5 ps (n+1)).sum :=
 (Et (by rw[j8,j8]) λ a B=>Gj (by rw[j8] at B;exact B) n).2 h.symm
section
variable {X:Cx}{P:Program}{w:World}
theorem Gm {pos:Pos}:PE X (.Dict [] [] pos) (λ G H Q=>∀d,H d=none->Q (.ref d) (upd H d (gG X.prog X.w d []))):=λ B s G H Q I h=>by
 obtain⟨_,hb,_⟩:=(show ff X.prog X.w H _ s.heap.objs.size (.dK []) from o7 s.heap I.big);have D:oR X.prog X.w s.heap.objs.size [] (s.heap.push { cls:=.type "dict",data:=.dict #[] }):=⟨hb,Me _,[],_,#[],0,L7 _ rfl,⟨rfl,rfl,rfl⟩,rfl,rfl,Nr,.nil⟩;exact wpAny_Dict_empty ⟨.ref s.heap.objs.size,_,I.laid (a:=s.heap.objs.size) (o:=gG X.prog X.w s.heap.objs.size []) (t':=s.toks) (λ _ _ q=>L3 _ q) (LW _) (pB D),rfl,h _ (I.de.fresh (LW _))⟩
theorem IH {K:LV}{G l:Expr}{tl:TE}(D:X.K=K)(B:PE X l tl):PI X G l (Jf K tl):=by
 subst D;exact hH B
def Lw (P:Program)(w:World)(H:Hp)(a k:Addr)(kvs:List (PyData×Addr×V))(d:PyData):Prop:=H a=some (gG P w a kvs)/\vc H kvs/\kj d/\cW H (.ref k) d
theorem Gn {o i:Expr}{pos:Pos}{td ty:TE}(hP:X.prog=P)(hw:X.w=w)(hu:X.A.units+66<cLine)(ho:PE X o td)(hi:PE X i ty)(hs:yQ i) :
  PE X (.Subscript o i pos) (λ G H Q=>td G H λ x H1=>ty G H1 λ y N=>∃k a d kvs v,x=.ref a/\y=.ref k/\Lw P w N a k kvs d/\gm kvs d=some v/\Q v N):=by
 subst hP hw;intro B s G H Q I h;refine rX PySem.F.slot_dict_getitem.lookup hs (dC (ho B s G H _ I h) λ u s1 ⟨x,H1,I1,rx,q1⟩=>dC (hi B s1 G H1 _ I1 q1) λ iv s2 ⟨y,N,Y,ry,k,a,d,kvs,v,ex,ey,D,J,q2⟩=>?_);subst ex ey;obtain rfl:u=Value.ref a:=rx;obtain rfl:iv=Value.ref k:=ry;obtain⟨h1,h2,xs,kx,dd⟩:=sr Y D.1 D.2.1
 rcases kx.val (d:=d) with ⟨Z,_⟩ | ⟨v',a',u',Z,e2,e3⟩
 ·rw[Z] at J;cases J
 ·rw[Z] at J;cases J;exact⟨dd.typeIs,O9 (vd hu) (key_is Y D.2.2.1 D.2.2.2) dd e2 ⟨_,N,Y.tok _,e3,q2⟩⟩
end
theorem Gp (kvs:List (PyData×Addr×V))(d x:PyData)(k:Addr)(v:V)(h:gm kvs d=none):gm (kvs++[(d,k,v)]) x=if x=d then some v else gm kvs x:=by
 unfold gm at *;rw[List.find?_append];by_cases e:x=d
 ·subst e;rw[if_pos rfl];have h':kvs.find? (λ p=>decide (p.1=x))=none:=by
   cases hh:kvs.find? (λ p=>decide (p.1=x)) with
   | none=>rfl
   | some y=>rw[hh] at h;cases h
  rw[h',N9 (by exact decide_eq_true rfl)];rfl
 ·rw[if_neg e,Oa (by rw[decide_eq_false λ z=>e z.symm];decide)];cases hh:kvs.find? (λ p=>decide (p.1=x)) with
  | none=>rfl
  | some y=>rfl
theorem Gq {kvs:List (PyData×Addr×V)}{k:Addr}{v:V}(h:gm kvs d=none):putD kvs d k v=kvs++[(d,k,v)]:=by
 unfold putD;rw[h];rfl
theorem wh:∀{ds:List PyData},(∀d∈ds,hZ d=true)->fC ds=true
 | [],_=>rfl
 | d::ds,h=>by show (hZ d&&fC ds)=true;rw[h d (L9 ..),wh λ x hx=>h x (Mc _ hx)];rfl
theorem Gr (d:e6):hZ (eN d)=true:=by cases d<;>rfl
theorem Ew (ds:List e6):fC (ds.map eN)=true:=wh λ d hd=>by obtain⟨x,_,rfl⟩:=Mb.mp hd;exact Gr x
theorem Gs (e:End):fC (gd e)=true:=by cases e<;>rfl
theorem ub (ns:List Nat):fC (ns.map fm)=true:=wh λ d hd=>by obtain⟨x,_,rfl⟩:=Mb.mp hd;rfl
theorem lY (ns:List Nat):(PyData.tuple (ns.map fm)).canLay0=true:=gU _ λ d hd=>by obtain⟨x,_,rfl⟩:=Mb.mp hd;rfl
theorem m5 (ns:List Nat):dQ (ns.map fm)=true:=by
 induction ns with
 | nil=>rfl
 | cons n ns ih=>show (eh (fm n)&&dQ (ns.map fm))=true;rw[ih];rfl
theorem Cv (h:(jd e).canLay0=true):(PyData.tuple (gd e)).canLay0=true:=by
 refine gU _ λ d hd=>?_
 cases e with
 | stop=>rw[LX.mp hd];decide
 | go p=>rw[LX.mp hd];decide
 | eM b x n p q =>
  have h:((PyData.str (wT b)).canLay0&&((PyData.str x).canLay0&&_))=true:=h;rw[MA,MA] at h
  rcases LZ.mp hd with rfl | hd
  ·exact h.1
  rcases LZ.mp hd with rfl | hd
  ·exact h.2.1
  rw[LX.mp hd];rfl
theorem Gu (lay:zl ps)(hp:p∈ps):kj (iE p) where
 key:=by show (fC (p.1.map eN)&&(fC (gd p.2)&&true))=true;rw[Ew,Gs];rfl
 lay:=by
  show ((PyData.tuple (p.1.map eN)).canLay0&&((PyData.tuple (gd p.2)).canLay0&&true))=true;rw[(lay p hp).1,Cv (lay p hp).2];rfl
 dep:=by
  have D:=jE (p.1.map eN) λ d hd=>by obtain⟨x,_,rfl⟩:=Mb.mp hd;exact zk x
  have B:PyData.depthAll (gd p.2)<=0:=jE _ λ d hd=>by
   generalize p.2=e at hd;cases e with
   | stop=>rw[LX.mp hd];exact LW 0
   | go q=>rw[LX.mp hd];exact LW 0
   | eM b x n q r =>
    rcases LZ.mp hd with rfl | hd
    ·exact LW 0
    rcases LZ.mp hd with rfl | hd
    ·exact LW 0
    rw[LX.mp hd];exact LW 0
  show max (PyData.depthAll (p.1.map eN)+1) (max (PyData.depthAll (gd p.2)+1) 0)+1<=7;omega
 tup:=⟨_,rfl⟩
theorem Gv (G:List Nat)(k:Nat)(B:List Nat):kj (tZ G k B) where
 key:=by show (true&&(fC ((B.map (cL G)).map fm)&&true))=true;rw[ub];rfl
 lay:=by show (true&&((PyData.tuple ((B.map (cL G)).map fm)).canLay0&&true))=true;rw[lY];rfl
 dep:=by
  have D:=jE (m:=0) ((B.map (cL G)).map fm) λ d hd=>by obtain⟨x,_,rfl⟩:=Mb.mp hd;exact LW 0
  show max 0 (max (PyData.depthAll ((B.map (cL G)).map fm)+1) 0)+1<=7;omega
 tup:=⟨_,rfl⟩
theorem tE (p:Piece):eh (iE p)=true:=by
 show (dQ (p.1.map eN)&&(dQ (gd p.2)&&true))=true;rw[dq];cases p.2<;>rfl
theorem z6 (G:List Nat)(k:Nat)(B:List Nat):eh (tZ G k B)=true:=by
 show (true&&(dQ ((B.map (cL G)).map fm)&&true))=true;rw[m5];rfl
theorem jK:∀{ds:List PyData},(∀d∈ds,eh d=true)->dQ ds=true
 | [],_=>rfl
 | d::ds,h=>by show (eh d&&dQ ds)=true;rw[h d (L9 ..),jK λ x hx=>h x (Mc _ hx)];rfl
mutual
theorem iZ:∀{d:PyData},hZ d=true->eh d=true
 | .none,_=>rfl
 | .int _,_=>rfl
 | .str _,_=>rfl
 | .tuple xs,h=>tF (ds:=xs) h
 | .bool _,h=>nomatch h
 | .list _,h=>nomatch h
 | .dict _,h=>nomatch h
theorem tF:∀{ds:List PyData},fC ds=true->dQ ds=true
 | [],_=>rfl
 | d::ds,h=>by
  have h:(hZ d&&fC ds)=true:=h;rw[MA] at h;show (eh d&&dQ ds)=true;rw[iZ h.1,tF h.2];rfl
end
theorem vc.dr {H H':Hp}{kvs:List (PyData×Addr×V)}(h:vc H kvs)(k:∀p xs,H p=some (.tup xs)->H' p=some (.tup xs)):vc H' kvs:=λ p hp=>⟨(h p hp).1,(h p hp).2.dr k (iZ (h p hp).1.key)⟩
theorem II (e:End):dh H (fK e) (gd e):=by
 cases e with
 | stop=>exact .cons (.str _) .nil
 | go p=>exact .cons (.str _) .nil
 | eM b x n p q=>exact .cons (.str _) (.cons (.str _) (.cons (.int _) .nil))
theorem nX {H:Hp}:∀{xs:List V} {ns:List Nat},dh H xs (ns.map fm)->xs=vN ns
 | _,[],.nil=>rfl
 | _,n::ns,.cons r rs=>by
  have r:cW H _ (.int (n:Nat)):=r;cases r;rw[nX rs];rfl
theorem Gw (xs ys:List Nat):PyData.eqv (.list (xs.map fm)) (.list (ys.map fm))=decide (xs=ys):=by
 show PyData.eqvAll (xs.map fm) (ys.map fm)=_;have h:=pA (ub xs) (ub ys);by_cases e:xs=ys
 ·rw[decide_eq_true e,h,e]
 ·rw[decide_eq_false e];exact Ow.mpr λ z=>e (rA (h.mp z))
section
variable {P:Program}{w:World}{H H':Hp}{d:Addr}{n:Nat}{us:List ((Nat×Nat)×Addr)}
end
theorem take1 {B:Type}{ds:List B}{d:B}(h:ds[i]?=some d):ds.take (i+1)=ds.take i++[d]:=by rw[Mz,h];rfl
theorem mj (ps:List Piece)(G:List Nat)(i:Nat):dQ ((kn ps G).take i)=true:=jK λ d hd=>by
 obtain⟨j,B⟩:=Ni (Of hd);unfold kn at B;rw[List.getElem?_mapIdx] at B;cases h:ps[j]? with
 | none=>rw[h] at B;cases B
 | some p=>rw[h] at B;cases B;exact z6 _ _ _
theorem pJ (e:End):(cC e).length<=2:=by cases e<;>(show _<=2)<;>simp[cC]
theorem wj (B:ft ps)(hp:p∈ps){k:Nat}(D:k∈cC p.2):k<ps.length:=by
 have G:=B p hp;obtain⟨ds,e⟩:=p;cases e with
 | stop=>cases D
 | go p=>rw[LX.mp D];exact G
 | eM b x n p p2 =>
  rcases LZ.mp D with z | z
  ·rw[z];exact G.1
  ·rw[LX.mp z];exact G.2
inductive xM  (vs:List V) (H:Hp) (Q:VK) (_:XK):Prop
 | mk (pc da ea:Addr) (ws:List V) (ds:List e6) (e:End) (_:vs=[.ref pc]) (_:H pc=some (.tup [.ref da,.ref ea])) (_:H da=some (.tup ws)) (_:dh H ws (ds.map eN)) (_:H ea=some (.tup (fX e))) (_:∀v H',cW H' v (iE (ds,e))->cy H H'->Q v H')
inductive wm  (vs:List V) (H:Hp) (Q:VK) (_:XK):Prop
 | mk (l:Addr) (xs:List V) (ds:List PyData) (_:vs=[.ref l]) (_:H l=some (.lst xs)) (_:dh H xs ds) (_:(∀d∈ds,kj d)) (_:ds.length<=1000) (_:∀l' H',H' l' = some (.lst (vN (fQ ds)))->H l' = none->cy H H'->Q (.ref l') H')
theorem qg (ps:List Piece):dQ (ps.map iE)=true:=jK λ d hd=>by obtain⟨p,_,rfl⟩:=Mb.mp hd;exact tE p
def Cw (p:Piece):PyData:=.tuple ((cC p.2).map fm)
theorem m6 (ps:List Piece):dQ (ps.map Cw)=true:=jK λ d hd=>by obtain⟨p,_,rfl⟩:=Mb.mp hd;exact m5 _
inductive zC  (vs:List V) (H:Hp) (Q:VK) (_:XK):Prop
 | mk (plv:V) (ps:List Piece) (_:vs=[plv]) (_:cW H plv (fq ps)) (_:ps.length<=1000) (_:∀l us H',H' l=some (.lst us)->dh H' us (ps.map Cw)->H l=none->cy H H'->Q (.ref l) H')
inductive xN  (vs:List V) (H:Hp) (Q:VK) (_:XK):Prop
 | mk (plv:V) (ps:List Piece) (_:vs=[plv]) (_:cW H plv (fq ps)) (_:zl ps) (_:ps.length<=1000) (_:∀l H',H' l=some (.lst (vN (d5 ps 0)))->H l=none->cy H H'->Q (.ref l) H')
inductive wo  (vs:List V) (H:Hp) (Q:VK) (_:XK):Prop
 | mk (plv:V) (ps:List Piece) (_:vs=[plv]) (_:cW H plv (fq ps)) (_:ft ps) (_:zl ps) (_:0<ps.length) (_:ps.length<=1000) (_:∀t G H',i6 ps G->H' t=some (.tup (vN G))->cy H H'->Q (.ref t) H')
def sx (ps:List Piece)(G:List Nat):PyData:=.tuple [.tuple ((eQ ps (cL G) ps.length [cL G 0] []).2.map d8),.tuple (G.map λ g=>if g∈(eQ ps (cL G) ps.length [cL G 0] []).1 then fm ((eQ ps (cL G) ps.length [cL G 0] []).1.idxOf g) else PyData.none)]
inductive zD  (vs:List V) (H:Hp) (Q:VK) (_:XK):Prop
 | mk (plv:V) (ps:List Piece) (_:vs=[plv]) (_:cW H plv (fq ps)) (_:ft ps) (_:zl ps) (_:0<ps.length) (_:ps.length<=1000) (_:∀v G H',i6 ps G->cW H' v (sx ps G)->cy H H'->Q v H')
inductive xO  (vs:List V) (H:Hp) (Q:VK) (_:XK):Prop
 | mk (plv:V) (l:Addr) (ps:List Piece) (ss:List Nat) (_:vs=[plv,.ref l]) (_:cW H plv (fq ps)) (_:ft ps) (_:H l=some (.tup (vN ss))) (_:ss.length=ps.length) (_:0<ps.length) (_:ps.length<=1000) (_:(∀k∈ss,k<ps.length)) (_:∀v H',cW H' v (JX (eQ ps (cL ss) ps.length [cL ss 0] []))->cy H H'->Q v H')
section
variable (P:Program)(w:World)
end
theorem Ex {K:LV}(h:X.K=K):wY X (Fh K):=by subst h;exact df
theorem IJ {Sq:Hp->Addr->List V->Prop}{a acc:Addr}{xs:List V}{N:List Nat}{g:TG}{ct:TT}{J tv:TE}{Y:St}{H1:Hp}{Q:VK}(G:Nat->List (Key×V)->St->Hp->Prop)(h0:G 0 [] (kJ n N Y) (upd H1 acc (.dK [])))
  (hl:∀i ys B H,i<=xs.length->G i ys B H->Sq H a xs/\H acc=some (.dK ys)/\ys.length<sizeLine)
  (hs:∀i x ys B H t,xs[i]?=some x->H t=none->G i ys B H->g (.ref t) B (upd H t (.tup [.int (i:Nat),x])) λ D H4=>ct D H4 λ b H5=>if b=true then J D H5 λ x1 H6=>tv D H6 λ y Z=>∃k,x1=kV k/\Z acc=some (.dK ys)/\G (i+1) (putK ys k y) D (upd Z acc (.dK (putK ys k y))) else G (i+1) ys D H5)
  (hd:∀ys B H,G xs.length ys B H->Q (.ref acc) H) :
  J2 (q5 Sq a) n N g ct J tv acc Y H1 Q:=by
 exists λ i m ys B H=>m=xs.length-i/\i<=xs.length/\G i ys B H,⟨xs.length,by simp,Me _,h0⟩;rintro i m ys B H ⟨rfl,hi,p⟩;obtain⟨q,q2,q3⟩:=hl i ys B H hi p;exists q2,q3;by_cases hlt:i<xs.length
 ·refine .inr ⟨⟨xs,xs[i],q,by simp[hlt]⟩,G (i+1),λ a1 a0 H' p'=>⟨xs.length-(i+1),by omega,rfl,hlt,p'⟩,λ v H' y=>?_⟩;obtain⟨t,x,rfl,ht,rfl,h⟩:=y;exact hs i x ys B H t (h xs q) ht p
 ·have e:i=xs.length:=by omega
  subst e;exact .inl ⟨⟨xs,q,rfl⟩,hd ys B H p⟩
theorem zE {ps:List Piece}{st:Nat->Nat}:∀(f:Nat) {ms:List Nat} {outs:List Piece},ms.Nodup->(eQ ps st f ms outs).1.Nodup
 | 0,_,_,h=>h
 | f+1,ms,outs,h=>by
  cases hm:ms[outs.length]? with
  | none=>rw[jt hm];exact h
  | some k =>
   cases hp:ps[k]? with
   | none =>
    show (match ms[outs.length]? with
     | none=>(ms,outs)
     | some k=>match ps[k]? with
      | none=>(ms,outs)
      | some pc=>eQ ps st f (putAll ms ((cC pc.2).map st)) (outs++[fe pc ((cC pc.2).map st) (putAll ms ((cC pc.2).map st))])).1.Nodup
    rw[hm];show (match ps[k]? with
      | none=>(ms,outs)
      | some pc=>eQ ps st f (putAll ms ((cC pc.2).map st)) (outs++[fe pc ((cC pc.2).map st) (putAll ms ((cC pc.2).map st))])).1.Nodup
    rw[hp];exact h
   | some pc =>
    rw[iD hm hp];exact zE f (j6 h)
theorem zF {ps:List Piece}{st:Nat->Nat}{n:Nat}(B:∀p∈ps,∀w∈cC p.2,st w<n):∀(f:Nat) {ms:List Nat} {outs:List Piece},(∀x∈ms,x<n)->∀x∈(eQ ps st f ms outs).1,x<n
 | 0,_,_,h=>h
 | f+1,ms,outs,h=>by
  cases hm:ms[outs.length]? with
  | none=>rw[jt hm];exact h
  | some k =>
   cases hp:ps[k]? with
   | none =>
    show ∀x∈(match ms[outs.length]? with
     | none=>(ms,outs)
     | some k=>match ps[k]? with
      | none=>(ms,outs)
      | some pc=>eQ ps st f (putAll ms ((cC pc.2).map st)) (outs++[fe pc ((cC pc.2).map st) (putAll ms ((cC pc.2).map st))])).1,x<n
    rw[hm];show ∀x∈(match ps[k]? with
      | none=>(ms,outs)
      | some pc=>eQ ps st f (putAll ms ((cC pc.2).map st)) (outs++[fe pc ((cC pc.2).map st) (putAll ms ((cC pc.2).map st))])).1,x<n
    rw[hp];exact h
   | some pc =>
    rw[iD hm hp];refine zF B f (ju h λ x hx=>?_);obtain⟨w,D,rfl⟩:=Mb.mp hx;exact B pc (L8 hp) w D
theorem lZ (nd:ms.Nodup){k:Nat}(h:ms[i]?=some k):ms.idxOf k=i:=by
 obtain⟨hi,e⟩:=Md.mp h;rw[<-e];exact nd.idxOf_getElem i hi
theorem Ey (kvs:List (Key×V))(k:Key)(v:V):(putK kvs k v).length<=kvs.length+1:=by
 unfold putK;split
 ·rw[LU];omega
 ·rw[LY];exact LW _
theorem iR (ms G:List Nat):dQ (G.map λ g=>if g∈ms then fm (ms.idxOf g) else PyData.none)=true:=jK λ d hd=>by
 obtain⟨g,_,rfl⟩:=Mb.mp hd;by_cases e:g∈ms
 ·rw[if_pos e];rfl
 ·rw[if_neg e];rfl
section
variable {X:Cx}
end
def qh (i:Int)(n:Nat):List Int:=(L1 n).map λ k=>i+(k:Nat)
theorem qi {acc:Array Value}{i:Int}(h:ItemsOf (λ j v=>∃t,v=.int (i+j*1) t) acc n):IntsAre acc.toList (qh i n):=by
 refine vh ?_ λ j v x J B=>?_
 ·rw[MD,h.1];simp[qh]
 ·obtain⟨t,rfl⟩:=h.2 j v (by rw[<-NH];exact J);unfold qh at B;rw[L6] at B;cases e:(L1 n)[j]? with
  | none=>rw[e] at B;cases B
  | some k =>
   rw[e] at B;have G:k=j:=by
    obtain⟨N,D⟩:=Md.mp e;rw[List.getElem_range] at D;exact D.symm
   have hx:i+(k:Nat)=x:=Mf.inj B;exists t;rw[<-hx,G,Int.mul_one]
section
variable {X:Cx}
end
section
variable {ps:List Piece}
end
theorem sy (ks:List Nat)(k:Nat):vN ks++[V.int (k:Nat)]=vN (ks++[k]):=by show _=List.map _ (_++_);rw[L4];rfl
def kZ:List (Key×V):=oE [] [(Sum.inr "stop",.int 0),(Sum.inr "go",.int 1)]
theorem zG (e:End):(fF kZ (Sum.inr (wE e):Key)).getD (.int 2)=V.int ((cC e).length:Nat):=by
 cases e with
 | stop=>decide
 | go p=>show (fF kZ (Sum.inr ("go" : Str))).getD (.int 2)=V.int ((1:Nat):Int);decide
 | eM b x n p q =>
  show (fF kZ (Sum.inr (wT b))).getD (.int 2)=V.int ((2:Nat):Int);cases b<;>decide
theorem zH (e:End):jT (fX e) (some ((fK e).length:Nat)) none=vN (cC e):=by
 unfold jT;rw[HT.tN,HT.rR];cases e<;>rfl
theorem zI (e:End):((fX e).length:Int)-((cC e).length:Nat)=((fK e).length:Nat):=by cases e<;>rfl
theorem Bm (e:End):¬HT.fb (fX e).length 0 (some ((fK e).length:Nat))=0:=by
 rw[HT.rR];cases e with
 | stop=>show ¬min 1 1=0;decide
 | go p=>show ¬min 1 2=0;decide
 | eM b x n p q=>show ¬min 3 5=0;decide
theorem zJ (e:End):iL (fX e) 0=some (V.str (wE e)):=by cases e<;>exact eG
section
variable {X:Cx}
theorem Bn (n:Nat):(qh 0 n).map V.int=vN (L1 n):=by
 unfold qh;rw[MT];refine MV λ k _=>?_
 show V.int (0+(k:Int))=V.int (k:Int);rw[Og]
theorem x9 {a:Expr}  {Z pos B:Pos} (hc:X.calm=true) (hg:Gl X "list") (hm:X.mg "list" = none) (a0:Gl X "range") (a1:X.mg "range" = none) (ha:PA X [a] ta)
  (hs:starEach [a] X.env=[(false,eval a X.env)]:=by rfl)
  (Y:starEach [.Call (.Name "range" Z) [a] [] pos] X.env=[(false,eval (.Call (.Name "range" Z) [a] [] pos) X.env)]:=by rfl) :
  PE X (.Call (.Name "list" p1) [.Call (.Name "range" Z) [a] [] pos] [] B) (λ LQ H Q=>ta LQ H λ vs H1=>∃n:Nat,vs=[.int (n:Nat)]/\n<=1000/\∀l,H1 l=none->Q (.ref l) (upd H1 l (.lst (vN (L1 n))))):=by
 intro G s LQ H Q I h;refine OL (jJ I hg hm oy ?_ ⋯ ⋯);refine PyProof.Rows.callWith_type1 (Calls.spliced_cons ?_) (by rw[Y];rfl) rfl;refine OL (jJ I a0 a1 boot_range (PyProof.Rows.callWith_type1 (dC (ha pos G s LQ H _ I h) λ us N ⟨vs,H1,I1,r1,q1⟩=>?_) hs rfl) ⋯ ⋯);obtain⟨n,e,hz,q⟩:=q1;subst e;cases r1 with
 | cons r rr =>
  cases rr;obtain⟨t,rfl⟩:=r;refine call_range_1 ?_;refine Calls.spliced_nil ?_;have a2:Builtin.Range.rangeSize 0 (n:Int) 1=(n:Nat):=by rw[rangeSize_one];split<;>omega
  refine call_list_range (I1.ok.hd hc) (IsRange.new ..) (small_one ⋯ ⋯ ⋯ ⋯) a2 (Ma hz ⋯) λ h' tk acc c' hk hl D=>?_
  have hS:=qi (i:=0) D;have J:(qh 0 n).length=n:=by simp[qh]
  rw[<-Bn] at q;refine⟨.ref _,_,I1.laid (t':=tk) (o:=.lst ((qh 0 n).map V.int)) (λ b o e=>hk b o (L3 _ e)) ?_ (show ff X.prog X.w _ h' _ (.lst ((qh 0 n).map V.int)) from ⟨?_,acc.toList,c',lR hS,by simpa using hl⟩),rfl,q _ (I1.de.fresh ?_)⟩
  ·show N.heap.objs.size<=(N.heap.push _).objs.size;rw[size_push'];exact MJ _
  ·rw[LU,J];exact Ma hz ⋯
  ·show N.heap.objs.size<=(N.heap.push _).objs.size;rw[size_push'];exact MJ _
end
inductive sE (m:Nat) (vs:List V) (H:Hp) (Q:VK) (_:XK):Prop
 | mk (b:Addr) (c:Nat) (_:vs=[.ref b,.int c]) (_:e7 H b) (_:0<c) (_:c<=400) (_:∀v xs ps H',cW H' v (fq ps)->ps.length=c->fi xs m ps->((∀x∈xs,hU x)/\xs.length<=60)->e7 H' b->Fix b H H'->Q v H')
theorem wq {c d:Nat}(h:iT xs d e)(B:ks.length=(cC e).length)(hb:∀k∈ks,k<c):iT xs c (gZ e ks):=by
 cases e with
 | stop=>exact True.intro
 | go p =>
  match ks,B with
  | [a],_=>exact hb a (L9 ..)
 | eM b x n p q =>
  match ks,B with
  | [a,a'],_=>exact⟨h.1,h.2.1,hb a (L9 ..),hb a' (Mc _ (L9 ..))⟩
theorem dh.setAt {H:Hp}{v:V}{d:PyData}(r:cW H v d):∀{xs:List V} {ds:List PyData} (j:Nat),dh H xs ds->dh H (xs.set j v) (ds.set j d)
 | _,_,_,.nil=>.nil
 | _,_,0,.cons _ rs=>.cons r rs
 | _,_,j+1,.cons q rs=>.cons q (dh.setAt r j rs)
theorem jx:∀es:List End,dQ (es.map jd)=true
 | []=>rfl
 | e::es=>by show (eh (jd e)&&dQ (es.map jd))=true;rw[jB,jx es];rfl
theorem Gx {B:Type}{xs:List B}{j:Nat}{v x:B}(h:x∈xs.set j v):x∈xs\/x=v:=List.mem_or_eq_of_mem_set h
structure J5 (ps qs:List Piece) (src:List Nat):Prop where
 len:qs.length=src.length
 lt:∀s∈src,s<ps.length
 all:∀j,j<ps.length->j∈src
 pc:∀(k s:Nat) (p:Piece),src[k]?=some s->ps[s]?=some p->∃ks:List Nat,qs[k]?=some (p.1,gZ p.2 ks)/\ks.length=(cC p.2).length/\(∀w∈ks,w<src.length)/\ks.map (cL src)=cC p.2
inductive xP  (vs:List V) (H:Hp) (Q:VK) (_:XK):Prop
 | mk (b:Addr) (plv:V) (ps:List Piece) (m:Nat) (_:vs=[.ref b,plv,.int (m:Nat)]) (_:e7 H b) (_:cW H plv (fq ps)) (_:ft ps) (_:0<ps.length) (_:ps.length+m<=1000) (_:∀t qt st zs qs src H',H' t=some (.tup [.ref qt,.ref st])->H' qt=some (.tup zs)->dh H' zs (qs.map d8)->H' st=some (.tup (vN src))->src.length=ps.length+m->J5 ps qs src->e7 H' b->Fix b H H'->Q (.ref t) H')
theorem J5.ok {qs:List Piece}{B:List Nat}{xs:List Str}(D:J5 ps qs B)(h:fi xs m ps):fi xs m qs:=by
 have key:∀p∈qs,∃(s:Nat) (o:Piece) (ks:List Nat),ps[s]?=some o/\p=(o.1,gZ o.2 ks)/\ks.length=(cC o.2).length/\∀w∈ks,w<B.length:=λ p hp=>by
  obtain⟨k,hk⟩:=Ni hp;have G:k<B.length:=by have:=(Md.mp hk).1;rw[D.len] at this;exact this
  have Z:B[k]?=some B[k]:=by simp[G]
  have J:=D.lt _ (MU G);generalize B[k]=s at Z J;have ho:ps[s]?=some ps[s]:=by simp[J]
  obtain⟨ks,h1,Y,N,h4⟩:=D.pc k s _ Z ho;rw[hk] at h1;exact⟨s,_,ks,ho,Mf.inj h1,Y,N⟩
 refine⟨λ p hp=>?_,λ p hp=>?_⟩
 ·obtain⟨s,o,ks,ho,rfl,_,_⟩:=key p hp;exact h.jM o (L8 ho)
 ·obtain⟨s,o,ks,ho,rfl,Y,N⟩:=key p hp;exact wq (h.ends o (L8 ho)) Y (by rw[D.len];exact N)
theorem xQ {B:Type}{xs:List B}{k:Nat}{y x:B}:x∈xs.take k++y::xs.drop k↔x=y\/x∈xs:=by
 conv=>rhs;rw[<-Ou k xs]
 simp only[Mh,LZ];exact⟨λ h=>h.elim (λ h=>.inr (.inl h)) λ h=>h.elim .inl λ h=>.inr (.inr h),λ h=>h.elim (λ h=>.inr (.inl h)) λ h=>h.elim .inl λ h=>.inr (.inr h)⟩
theorem Ez {B:Type}{xs:List B}{k:Nat}{y:B}(h:k<=xs.length):(xs.take k++y::xs.drop k).length=xs.length+1:=by
 rw[LY,Mu,Ms,NB];omega
theorem Gy (xs:List Nat)(k y:Nat):(vN xs).take k++V.int (y:Nat)::(vN xs).drop k=vN (xs.take k++y::xs.drop k):=by
 show _=List.map _ (_++_::_);rw[L4,Mt,List.map_take,List.map_drop]
theorem z7 {B:List Nat}{s:Nat}(h:s∈B):0<((L1 B.length).filter λ k=>decide (cL B k=s)).length:=by
 obtain⟨a,D,e⟩:=wg h;exact List.length_pos_of_mem (M4.mpr ⟨MI.mpr D,decide_eq_true e⟩)
theorem J6 {xs:List Nat}{k:Nat}(h:k<xs.length):(vN xs)[k]?=some (V.int (cL xs k:Nat)):=by
 rw[L6,MB h];show _=some (V.int ((xs.getD k 0:Nat):Int));rw[MR,MB h];rfl
theorem my (p:Nat->Bool)(i:Nat):(L1 (i+1)).filter p=(L1 i).filter p++(if p i=true then [i] else []):=by
 rw[List.range_succ,NM]
 congr 1
 by_cases h:p i=true
 ·rw[if_pos h,Od h];rfl
 ·rw[if_neg h,NP h];rfl
inductive xR  (vs:List V) (H:Hp) (Q:VK) (_:XK):Prop
 | mk (b:Addr) (m:Nat) (_:vs=[.ref b,.int (m:Nat)]) (_:e7 H b) (_:0<m) (_:m<=400) (_:∀v xs ps H',cW H' v (fq ps)->0<ps.length->ps.length<=m->fi xs 12 ps->((∀x∈xs,hU x)/\xs.length<=60)->e7 H' b->Fix b H H'->Q v H')
theorem fi.mono {m:Nat}(h:fi xs m ps)(hm:m<=n):fi xs n ps:=⟨λ p hp=>⟨Ma (h.jM p hp).1 hm,(h.jM p hp).2⟩,h.ends⟩
theorem EA (xs:List Nat):(L1 xs.length).map (cL xs)=xs:=by
 refine N5 λ k=>?_
 rw[L6];by_cases hk:k<xs.length
 ·rw[Ot hk,MB hk];show some (xs.getD k 0)=_;rw[MR,MB hk];rfl
 ·rw[Na (by simp;omega),Na ⋯];rfl
section
variable {prog:Program}{w:World}{A:Around}{E:Z0}{s:Shared}
end
section
variable {X:Cx}
end
abbrev KR:=(Nat×Nat)×List Str
section
variable {ps:List Piece}{ms:List KR}{at_ f:Nat}{x:KR}{p q:Piece}
end
section
variable (P:Program)(w:World)
end
section
variable {X:Cx}
end
def md (n x:Nat):Nat:=if x<n then x else x-n
section
variable {n odd a b i j:Nat}
end
open AutoSeq1 (wpAny_loadPart')
section
variable {prog:Program}{w:World}{A:Around}{E:Z0}{s:Shared}
theorem ya {Q:List Value->Shared->Prop}{a b:Int}(hh:A.handled=none)(hr:IsRange s.heap r a b c t u v)(G:Builtin.Range.small a b c=true)
  (hn:Builtin.Range.rangeSize a b c=n) (Z:n<=2 ^ 24)
  (hQ:∀h' J acc,(∀b o,s.heap.get? b=some o->h'.get? b=some o)->ItemsOf (λ i v=>∃t,v=.int (a+i*c) t) acc n->Q acc.toList { s with heap:=h',toks:=J }) :
  wpAny (model prog w) A (collect (.ref r)) Q E s:=by
 obtain⟨Rs,Y⟩:∃Rs:Result->Shared->Prop,∀res s',Rs res s'↔∃h' J B c',(∀b o,s.heap.get? b=some o->h'.get? b=some o)/\h'.get? s.heap.objs.size=some { cls:=.type "list",dict:=none,data:=.seq B c',slots:=#[] }/\ItemsOf (λ i v=>∃t,v=.int (a+i*c) t) B n/\res=.ok (.ret (.ref s.heap.objs.size))/\s' = { s with heap:=h',toks:=J }:=⟨_,λ _ _=>Iff.rfl⟩;unfold collect;refine Oz (O0 (OJ (R:=Rs) (OG F.entry_proto_collect ?_) λ res s' h=>?_))
 ·rw[MS F.plain_proto_collect _];show wpAny _ A.in1 (newList [] >>= λ l=>again (.builtin "list.__iadd__" ⟨[l,.ref r],[]⟩)) _ _ s;refine Oz (OD ?_);refine OA ⟨plainId_quiet F.plain_list_iadd _,OG F.entry_list_iadd ?_⟩;rw[MS F.plain_list_iadd _];show wpAny _ A.in1 (Builtin.List.listExtendWith (.ref s.heap.objs.size) (.ref r) (.ref s.heap.objs.size)) _ _ _;have a0:(s.heap.push { cls:=.type "list",data:=.seq ([]:List Value).toArray }).get? s.heap.objs.size=some { cls:=.type "list",data:=.seq #[] 0 }:=L7 _ rfl;exact wpAny_extend_range (R:=Rs) (s:={ s with heap:=s.heap.push { cls:=.type "list",data:=.seq ([]:List Value).toArray } }) hh (L3 _ hr) G hn Z s.heap.objs.size (.ref s.heap.objs.size) 0 a0 λ h' J B c' hk N D =>
   (Y _ _).mpr ⟨h',J,B,c',λ b ob e=>hk b ob (L5 (L0 e)) (L3 _ e),N,D,rfl,rfl⟩
 ·obtain⟨h',J,B,c',hk,N,D,rfl,rfl⟩:=(Y _ _).mp h;show wpAny _ A (load s.heap.objs.size >>= _) _ _ _;refine Oz (OT N ?_);exact OA (hQ h' J B hk D)
end
theorem sI (r:Addr)(a b c:Int)(t u v:Tok)(n:Nat)(B:Builtin.Range.small a b c=true)(hn:Builtin.Range.rangeSize a b c=n)(G:n<=2 ^ 24) :
  Meets (Builtin.«tuple.__new__» ⟨[.type "tuple",.ref r],[]⟩)
   (λ A R s=>A.handled=none/\IsRange s.heap r a b c t u v/\∀(h':Heap) (J:Nat) (acc:Array Value),(∀b o,s.heap.get? b=some o->h'.get? b=some o)->ItemsOf (λ i v=>∃t,v=.int (a+i*c) t) acc n ->
    R (.ok (.ret (.ref h'.objs.size))) { s with heap:=h'.push { cls:=.type "tuple",data:=.seq acc },toks:=J }) :=
 .of_wp λ prog w A R s h=>by
  obtain⟨hh,hr,h⟩:=h;have Z:=sub_tuple_self;have N:=init_tuple_lookup;have a0:=madeHere_tuple;have hT:s.TypeIs (.ref r) "range" := ⟨_,hr,rfl⟩;have Y:A.in1.handled=none:=hh
  wp_walk using ON hT,ya Y hr B hn G
  intro h' J acc hk D;show wpAny _ _ (Builtin.Tuple.tupleExact acc.toList.toArray >>= λ v=>ret v) _ _ _;unfold Builtin.Tuple.tupleExact;refine Oz (OD ?_ (show acc.toList.toArray.size<=sizeLine by simp only[Ov];rw[D.1,sizeLine_eq];omega));refine OA ⟨_,rfl,?_⟩;have e:acc.toList.toArray=acc:=by simp
  rw[e];exact h h' J acc hk D
section
variable {prog:Program}{w:World}{A:Around}{E:Z0}{s:Shared}
theorem uc {Q:Z0}{a b:Int}(hh:A.handled=none)(Y:IsRange s.heap r a b c t u v)(B:Builtin.Range.small a b c=true)
  (hn:Builtin.Range.rangeSize a b c=n) (G:n<=2 ^ 24)
  (h:∀(h':Heap) (J:Nat) (acc:Array Value),(∀b o,s.heap.get? b=some o->h'.get? b=some o)->ItemsOf (λ i v=>∃t,v=.int (a+i*c) t) acc n->Q (.ref h'.objs.size) { s with heap:=h'.push { cls:=.type "tuple",data:=.seq acc },toks:=J }) :
  wpAny (model prog w) A (call (.type "tuple") [.ref r]) Q E s :=
 callType_new F.called_tuple ⋯ (F.typeCall_tuple_1 _) (F.newCall_tuple_1 _) (λ obj=>F.args_object_init_2 obj _) F.entry_tuple_new
  (sI r a b c t u v n B hn G) ⟨hh,Y,λ h' J acc N D=>⟨⟨_,L7 _ rfl,rfl⟩,h h' J acc N D⟩⟩
end
section
variable {X:Cx}
theorem zK {a:Expr}  {Z pos B:Pos} (hc:X.calm=true) (hg:Gl X "tuple") (hm:X.mg "tuple" = none) (a0:Gl X "range") (a1:X.mg "range" = none) (ha:PA X [a] ta)
  (hs:starEach [a] X.env=[(false,eval a X.env)]:=by rfl)
  (Y:starEach [.Call (.Name "range" Z) [a] [] pos] X.env=[(false,eval (.Call (.Name "range" Z) [a] [] pos) X.env)]:=by rfl) :
  PE X (.Call (.Name "tuple" p1) [.Call (.Name "range" Z) [a] [] pos] [] B) (λ LQ H Q=>ta LQ H λ vs H1=>∃n:Nat,vs=[.int (n:Nat)]/\n<=1000/\∀l,H1 l=none->Q (.ref l) (upd H1 l (.tup (vN (L1 n))))):=by
 intro J s LQ H Q I h;refine OL (jJ I hg hm dI ?_ ⋯ ⋯);refine PyProof.Rows.callWith_type1 (Calls.spliced_cons ?_) (by rw[Y];rfl) rfl;refine OL (jJ I a0 a1 boot_range (PyProof.Rows.callWith_type1 (dC (ha pos J s LQ H _ I h) λ us s1 ⟨vs,H1,I1,r1,q1⟩=>?_) hs rfl) ⋯ ⋯);obtain⟨n,e,hz,q⟩:=q1;subst e;cases r1 with
 | cons r rr =>
  cases rr;obtain⟨t,rfl⟩:=r;refine call_range_1 ?_;refine Calls.spliced_nil ?_;have a2:Builtin.Range.rangeSize 0 (n:Int) 1=(n:Nat):=by rw[rangeSize_one];split<;>omega
  refine uc (I1.ok.hd hc) (IsRange.new ..) (small_one ⋯ ⋯ ⋯ ⋯) a2 (Ma hz ⋯) λ h' tk acc hk D=>?_
  have hS:=qi (i:=0) D;have N:(qh 0 n).length=n:=by simp[qh]
  rw[<-Bn] at q;have G:s1.heap.objs.size<=h'.objs.size:=by
   have:=hk s1.heap.objs.size _ (L7 _ rfl);exact Mr (L0 this)
  refine⟨.ref _,_,I1.laid (t':=tk) (o:=.tup ((qh 0 n).map V.int)) (λ b o e=>L3 _ (hk b o (L3 _ e))) G ?_,rfl,q _ (I1.de.fresh G)⟩;exact⟨by rw[LU,N];exact Ma hz ⋯,acc.toList,lR hS,⟨_,L7 _ rfl,rfl,0,(by simp),rfl⟩⟩
end
theorem Cy:gd (gZ e ks)=gd e:=by
 cases e with
 | stop=>rfl
 | go p=>match ks with
  | []=>rfl
  | [a]=>rfl
  | _::_::_=>rfl
 | eM b x n p q=>match ks with
  | []=>rfl
  | [a]=>rfl
  | [a,c]=>rfl
  | _::_::_::_=>rfl
theorem rB (h:ks.length=(cC e).length):cC (gZ e ks)=ks:=by
 cases e with
 | stop=>match ks,h with | [],_=>rfl
 | go p=>match ks,h with | [a],_=>rfl
 | eM b x n p q=>match ks,h with | [a,c],_=>rfl
section
variable {ps qs:List Piece}{src:List Nat}
end
section
variable {P:Program}{w:World}{K:LV}{mg:Z2}{base h:Heap}{x q m:Str}{st:Stmt}{f C:Addr}{fd:FuncData}{k:Nat}{ps:List Str}{sp:Sp}
structure dP (K:LV) (x:Str) (st:Stmt) (f:Addr) (fd:FuncData):Prop where
 a:Mw K mainGlobals x=some (some (.ref f))
 F:eC K x x st f fd
structure i0 (K:LV) (C:Addr) (x q:Str) (st:Stmt) (f:Addr) (fd:FuncData):Prop where
 a:Mp K (.ref C) x=some (some (.ref f))
 i:Nz K (.ref f)=true
 F:eC K x q st f fd
section
variable {oc:Value}{od an:Option Addr}{osl:Z3}{kV doc pm cdv ct:Value}
theorem def_mk (a:Mw K mainGlobals x=some (some (.ref f)))(l:K.lookup f=some ⟨oc,od,.func (MC x x (gx st) (fU st) (cG st) .none kV doc pm an cdv ct),osl⟩)
  (c:Nd K cdv x=true) (k:MQ K (.ref f)=true):dP K x st f (MC x x (gx st) (fU st) (cG st) .none kV doc pm an cdv ct):=⟨a,Dh l c k⟩
theorem met_mk (a:Mp K (.ref C) x=some (some (.ref f)))(i:Nz K (.ref f)=true)(l:K.lookup f=some ⟨oc,od,.func (MC x q (gx st) (fU st) (cG st) .none kV doc pm an cdv ct),osl⟩)
  (c:Nd K cdv q=true) (k:MQ K (.ref f)=true):i0 K C x q st f (MC x q (gx st) (fU st) (cG st) .none kV doc pm an cdv ct):=⟨a,i,Dh l c k⟩
end
def nR (x q:Str)(st:Stmt)(ps:List Str):Prop:=∀(kV doc pm:Value) (an:Option Addr) (cdv ct:Value) (us:List Value),us.length=ps.length->bindArgs (MC x q (gx st) (fU st) (cG st) .none kV doc pm an cdv ct) ⟨us,[]⟩=pure (ps.zip us)
theorem dG (P:Program)(w:World)(base:Heap)(X:K.In h)(G:h.Ns mainGlobals mg)(d:dP K x st f fd)(o:dB P w K mg base d7 k f fd ps sp)(b:nR x x st ps):Own P w K mg base x k ps sp:=⟨⟨_,_,o,Nj X G d.a,d.F.kp,d.F.binds b⟩⟩
theorem ja (P:Program)(w:World)(base:Heap)(mg:Z2)(T:nq K C)(d:i0 K C x q st f fd)(o:dB P w K mg base d7 k f fd ps sp)(b:nR x q st ps):jZ P w K mg base C x k ps sp:=⟨T,⟨_,_,o,⟨d.a,d.i,d.F.kp⟩,d.F.binds b⟩⟩
theorem Bo (P:Program) (w:World) (base:Heap) (X:K.In h) (G:h.Ns mainGlobals mg) (B:Mw K mainGlobals m=some (some (.ref C))) (D:NA K C=true) (J:MQ K (.ref C)=true) (d:i0 K C "__init__" q st f fd) (o:dB P w K mg base d7 k f fd ps sp) (b:nR "__init__" q st ps):vL P w K mg base C m k ps sp:=⟨⟨_,_,o,⟨D,d.a,d.i,J⟩,Nj X G B,d.F.binds b⟩⟩
section
variable {p1 p2 p3 p4 p5 p6:Str}
theorem jI (h:∀(kV doc pm:Value) (an:Option Addr) (cdv ct B:Value),bindArgs (MC x q (gx st) (fU st) (cG st) .none kV doc pm an cdv ct) ⟨[B],[]⟩=pure [(p1,B)]):nR x q st [p1]:=λ _ _ _ _ _ _ us D=>match us,D with | [_],_=>h ..
theorem iM (h:∀(kV doc pm:Value) (an:Option Addr) (cdv ct D B:Value),bindArgs (MC x q (gx st) (fU st) (cG st) .none kV doc pm an cdv ct) ⟨[D,B],[]⟩=pure [(p1,D),(p2,B)]):nR x q st [p1,p2]:=λ _ _ _ _ _ _ us G=>match us,G with | [_,_],_=>h ..
theorem tG (h:∀(kV doc pm:Value) (an:Option Addr) (cdv ct D B G:Value),bindArgs (MC x q (gx st) (fU st) (cG st) .none kV doc pm an cdv ct) ⟨[D,B,G],[]⟩=pure [(p1,D),(p2,B),(p3,G)]):nR x q st [p1,p2,p3]:=λ _ _ _ _ _ _ us J=>match us,J with | [_,_,_],_=>h ..
theorem KS (h:∀(kV doc pm:Value) (an:Option Addr) (cdv ct G D J B:Value),bindArgs (MC x q (gx st) (fU st) (cG st) .none kV doc pm an cdv ct) ⟨[G,D,J,B],[]⟩=pure [(p1,G),(p2,D),(p3,J),(p4,B)]):nR x q st [p1,p2,p3,p4]:=λ _ _ _ _ _ _ us N=>match us,N with | [_,_,_,_],_=>h ..
theorem KU (h:∀(kV doc pm:Value) (an:Option Addr) (cdv ct J G N B D:Value),bindArgs (MC x q (gx st) (fU st) (cG st) .none kV doc pm an cdv ct) ⟨[J,G,N,B,D],[]⟩=pure [(p1,J),(p2,G),(p3,N),(p4,B),(p5,D)]):nR x q st [p1,p2,p3,p4,p5]:=λ _ _ _ _ _ _ us Y=>match us,Y with | [_,_,_,_,_],_=>h ..
end
end
theorem eS {N ps:List Str}{B:Scope}(h1:B.kind=.function:=by rfl)(Y:B.isCoroutine=false:=by rfl)(G:B.isGenerator=false:=by rfl)(D:N.Nodup:=by decide)(Z:N.take ps.length=ps:=by rfl)(J:∀x∈ps,B.names.lookup x=some .local\/B.names.lookup x=some .cell:=by decide)(h7:∀y∈B.names,y.2≠.free:=by decide):cQ N ps B:=⟨h1,Y,G,D,Z,J,h7⟩
theorem cH {x:Str}{k:Nat}{ps:List Str}{sp:Sp}{e:Expr}{es:List Expr}{t:TA}{p pos:Pos}(o:Own X.prog X.w X.K X.mg X.base x k ps sp)(Z:fP m X.A)(G:PA X (e::es) t)(J:k<=m:=by decide)(N:Gl X x:=by rfl)
  (B:(x == ("__debug__" : Str))=false:=by decide) (Y:starEach (e::es) X.env=(false,eval e X.env)::starEach es X.env:=by rfl) (D:(backTo pos (starEach es X.env)).any (·.1)=false:=by rfl):PE X (.Call (.Name x p) (e::es) [] pos) (BG sp [] E0 t):=JB o (Z.mono J) N G B Y D
theorem cU {i:Nat}{x:Str}{e:Expr}{D:TE}{pos B:Pos}(G:X.N.Nodup)(J:PE X e D)(hi:X.N[i]?=some x:=by rfl)(hx:Loc X.env.scope x:=by first | exact Or.inl rfl | exact Mg rfl)(Y:swapsWith e (some (.Name x B)) pos.line X.env=pure false:=by rfl)(hf:X.fn x=true\/X.env.scope.names.lookup x=some .local:=by first | exact .inl rfl | exact .inr rfl | assumption) :
  PS X (.Assign [.Name x B] e pos) (Bv D (rQ i)):=Ja G hi hx J Y hf
theorem cJ {i:Nat}{x:Str}{pos:Pos}(B:X.N.Nodup)(hi:X.N[i]?=some x:=by rfl)(hx:Loc X.env.scope x:=by first | exact Or.inl rfl | exact Mg rfl)(hf:X.fn x=true\/X.env.scope.names.lookup x=some .local:=by first | exact .inl rfl | exact .inr rfl | assumption):PG X (.Name x pos) (rQ i):=Hm B hi hx hf
theorem cI {a b:Expr}{B tb:TE}{pos:Pos}{r:R2}(G:wY X r)(D:PE X a B)(hb:PE X b tb)(J:Av b:=by exact λ _ _=>rfl):PE X (.Subscript a b pos) (C5 r B tb):=Kn G D hb J
theorem cF {D:TE}(J:PE X B D)(G:starEach [B] X.env=(false,eval B X.env)::starEach [] X.env:=by rfl):PA X [B] (iq D oZ):=(eE J fg G)
theorem cS {D:Expr}{G J:TE}(h1:PE X D G)(Y:PE X B J)(N:starEach [D,B] X.env=(false,eval D X.env)::starEach [B] X.env:=by rfl)(Z:starEach [B] X.env=(false,eval B X.env)::starEach [] X.env:=by rfl):PA X [D,B] (iq G (iq J oZ)):=(eE h1 (eE Y fg Z) N)
theorem iJ {G D:Expr}{J Y N:TE}(h1:PE X G J)(h2:PE X D Y)(h3:PE X B N)(Z:starEach [G,D,B] X.env=(false,eval G X.env)::starEach [D,B] X.env:=by rfl)(s2:starEach [D,B] X.env=(false,eval D X.env)::starEach [B] X.env:=by rfl)(s3:starEach [B] X.env=(false,eval B X.env)::starEach [] X.env:=by rfl):PA X [G,D,B] (iq J (iq Y (iq N oZ))):=(eE h1 (eE h2 (eE h3 fg s3) s2) Z)
theorem wu {J G D:Expr}{N t2 Y Z:TE}(h1:PE X J N)(h2:PE X G t2)(h3:PE X D Y)(h4:PE X B Z)(s1:starEach [J,G,D,B] X.env=(false,eval J X.env)::starEach [G,D,B] X.env:=by rfl)(s2:starEach [G,D,B] X.env=(false,eval G X.env)::starEach [D,B] X.env:=by rfl)(s3:starEach [D,B] X.env=(false,eval D X.env)::starEach [B] X.env:=by rfl)(s4:starEach [B] X.env=(false,eval B X.env)::starEach [] X.env:=by rfl):PA X [J,G,D,B] (iq N (iq t2 (iq Y (iq Z oZ)))):=(eE h1 (eE h2 (eE h3 (eE h4 fg s4) s3) s2) s1)
section
variable (ps:List Piece)
def LN (p:Nat):Nat:=match ps[p]? with
 | some ([],.go q)=>q
 | _=>p
def sq (p:Nat):Nat->Nat
 | 0=>p
 | i+1=>LN ps (sq p i)
end
section
variable {ps:List Piece}
end
section
variable {ps:List Piece}{st:Nat->Nat}
theorem mH {x:Nat}:x∈putAll ms ks↔x∈ms\/x∈ks:=LS.tU ks ms x
def J7 (ps:List Piece)(st:Nat->Nat)(ms:List Nat)(outs:List Piece):Prop:=∀(j:Nat) (p:Piece),outs[j]?=some p->∃(k:Nat) (pc:Piece),ms[j]?=some k/\ps[k]?=some pc/\p=fe pc ((cC pc.2).map st) ms/\∀q∈cC pc.2,st q∈ms
structure m7 (ps:List Piece) (st:Nat->Nat) (ms:List Nat) (outs:List Piece):Prop where
 nd:ms.Nodup
 lt:∀k∈ms,k<ps.length/\st k=k
 le:outs.length<=ms.length
 rel:J7 ps st ms outs
theorem EB {pc:Piece}{more:List Nat}(h:∀k∈ks,k∈ms):fe pc ks (ms++more)=fe pc ks ms:=by
 unfold fe;rw[MV λ k B=>by rw[Nh,if_pos (h k B)]]
theorem xS (N:ft ps)(Y:∀k,k<ps.length->st k<ps.length/\st (st k)=st k):∀(fu:Nat) {ms:List Nat} {outs:List Piece},m7 ps st ms outs->fu+outs.length=ps.length ->
  m7 ps st (eQ ps st fu ms outs).1 (eQ ps st fu ms outs).2/\(eQ ps st fu ms outs).2.length=(eQ ps st fu ms outs).1.length/\∃more,(eQ ps st fu ms outs).1=ms++more
 | 0,ms,outs,h,hf=>by
  have h1:=gO h.nd λ k D=>(h.lt k D).1
  have h2:=h.le;exact⟨h,by show outs.length=ms.length;omega,[],by show ms=_;simp⟩
 | fu+1,ms,outs,h,hf=>by
  cases D:ms[outs.length]? with
  | none =>
   rw[jt D];have:ms.length<=outs.length:=NQ.mp D;have:=h.le;exact⟨h,by show outs.length=ms.length;omega,[],by simp⟩
  | some k =>
   have a1:=L8 D;have a3:=(h.lt k a1).1;have B:ps[k]?=some ps[k]:=by simp[a3]
   generalize ps[k]=pc at B;rw[iD D B];have hw:∀q∈cC pc.2,q<ps.length:=λ q hq=>by
    obtain⟨ds,e⟩:=pc;exact kW N B q hq
   obtain⟨more,J⟩:=iW ((cC pc.2).map st) ms;have a0:outs.length<ms.length:=(Md.mp D).1;have h':m7 ps st (putAll ms ((cC pc.2).map st)) (outs++[fe pc ((cC pc.2).map st) (putAll ms ((cC pc.2).map st))]):=by
    refine⟨j6 h.nd,λ x hx=>?_,?_,λ j p Z=>?_⟩
    ·rcases mH.mp hx with hx | hx
     ·exact h.lt x hx
     ·obtain⟨q,hq,rfl⟩:=Mb.mp hx;exact Y q (hw q hq)
    ·rw[J,LY,LY];show _+1<=_;omega
    ·by_cases hjl:j<outs.length
     ·rw[MM hjl] at Z;obtain⟨k',a4,g1,g2,g3,g4⟩:=h.rel j p Z;refine⟨k',a4,?_,g2,?_,λ q hq=>mH.mpr (.inl (g4 q hq))⟩
      ·rw[J,MM ⋯];exact g1
      ·rw[J,EB λ x hx=>by obtain⟨q,hq,rfl⟩:=Mb.mp hx;exact g4 q hq];exact g3
     ·have a2:j=outs.length:=by
       have:=(Md.mp Z).1;rw[LY] at this;have:j<outs.length+1:=this;omega
      subst a2;rw[M6 (LW _),Nat.sub_self] at Z;cases Z;refine⟨k,pc,?_,B,rfl,λ q hq=>mH.mpr (.inr (Mb.mpr ⟨q,hq,rfl⟩))⟩;rw[J,MM a0];exact D
   obtain⟨i1,i2,G,i3⟩:=xS N Y fu h' (by rw[LY];show fu+(_+1)=_;omega);exact⟨i1,i2,more++G,by rw[i3,J,MK]⟩
theorem IK {f:Nat->Nat}{w:Str->Int}:Bi (gZ e ((cC e).map f)) w=(Bi e w).map f:=by
 cases e with
 | stop=>rfl
 | go p=>rfl
 | eM b x n p q =>
  show some (if iF b (w x) n=true then f p else f q)=some (f (if iF b (w x) n=true then p else q));split<;>rfl
end
def Bp (a b:Sp):Sp:=λ vs H Q E=>a vs H Q E\/b vs H Q E
theorem IL {d e:e6}(h:eN d=eN e):d=e:=by
 have w:∀{a b:Str} {r r':List PyData},PyData.tuple (.str a::r)=PyData.tuple (.str b::r')->a=b/\r=r':=λ h=>by
  injection h with h
  injection h with D B
  injection D with D
  exact⟨D,B⟩
 have N:∀{x y:Str} {r r':List PyData},PyData.str x::r=PyData.str y::r'->x=y/\r=r':=λ h=>by
  injection h with D B
  injection D with D
  exact⟨D,B⟩
 have Y:∀{x y:Int} {r r':List PyData},PyData.int x::r=PyData.int y::r'->x=y/\r=r':=λ h=>by
  injection h with D B
  injection D with D
  exact⟨D,B⟩
 cases d<;>cases e<;>first
  | (obtain⟨D,B⟩:=w h;exact absurd D ⋯)
  | skip
 ·obtain⟨_,B⟩:=w h;obtain⟨rfl,J⟩:=N B;obtain⟨rfl,_⟩:=Y J;rfl
 ·obtain⟨_,B⟩:=w h;obtain⟨rfl,J⟩:=N B;obtain⟨rfl,_⟩:=N J;rfl
 ·obtain⟨_,B⟩:=w h;obtain⟨rfl,J⟩:=N B;obtain⟨rfl,_⟩:=Y J;rfl
 ·obtain⟨_,B⟩:=w h;obtain⟨rfl,J⟩:=N B;rfl
 ·obtain⟨_,B⟩:=w h;obtain⟨rfl,J⟩:=N B;rfl
theorem Bq:∀{ds es:List e6},ds.map eN=es.map eN->ds=es
 | [],[],_=>rfl
 | [],_::_,h=>nomatch h
 | _::_,[],h=>nomatch h
 | d::ds,e::es,h=>by
  injection h with h1 h2
  rw[IL h1,Bq h2]
theorem IM {b B:Bool}(h:wT b=wT B):b=B:=by
 cases b<;>cases B<;>first | rfl | exact absurd h ⋯
theorem EC {e f:End}(h:gd e=gd f)(B:(cC e).length=(cC f).length)(D:ks.length=(cC e).length):gZ e ks=gZ f ks:=by
 cases e with
 | stop =>
  cases f with
  | stop=>rfl
  | go _=>cases B
  | eM b x n i j=>cases B
 | go i =>
  cases f with
  | stop=>cases B
  | go _ =>
   obtain⟨a,rfl⟩:∃a,ks=[a]:=List.length_eq_one_iff.mp D;rfl
  | eM b x n i j=>cases B
 | eM b x n i j =>
  cases f with
  | stop=>cases B
  | go _=>cases B
  | eM b' x' n' i' j' =>
   injection h with h1 h
   injection h with h2 h
   injection h with h3 _
   injection h1 with h1
   injection h2 with h2
   injection h3 with h3
   rw[IM h1,h2,h3];obtain⟨a,c,rfl⟩:∃a c,ks=[a,c]:=by
    match ks,D with
    | [a,c],_=>exact⟨a,c,rfl⟩
   rfl
theorem ED (e:End):gZ e (cC e)=e:=by cases e<;>rfl
section
variable {ps:List Piece}{G:List Nat}
theorem EE (h:i6 ps G){q:Piece}(B:ps[a]?=some p)(hb:ps[b]?=some q)(J:cL G a=cL G b):p.1=q.1/\gd p.2=gd q.2/\(cC p.2).length=(cC q.2).length/\(cC p.2).map (cL G)=(cC q.2).map (cL G):=by
 obtain⟨n,rfl,hn⟩:=h;have h0:iE p=iE q:=(t9 B hb).mp (ua B hb (Me n) J);have N:=Es h0;have Z:p.1=q.1:=by
  injection h0 with h
  injection h with h _
  injection h with h
  exact Bq h
 have Y:gd p.2=gd q.2:=by
  injection h0 with h
  injection h with _ h
  injection h with h _
  injection h
 have D:cL (d5 ps (n+1)) a=cL (d5 ps (n+1)) b:=by rw[hn];exact J
 exact⟨Z,Y,N,((m4 B hb).mp D).2⟩
def dY (ps:List Piece)(G:List Nat):List Nat×List Piece:=eQ ps (cL G) ps.length [cL G 0] []
theorem i6.fix (h:i6 ps G)(B:a<ps.length):cL G a<ps.length/\cL G (cL G a)=cL G a:=by
 have D:=h.lt B;exact⟨D,((h.iff B D).mpr (h.Hd B)).symm⟩
theorem Cz (h:i6 ps G)(h0:0<ps.length):m7 ps (cL G) [cL G 0] []:=⟨by simp,λ k D=>by
  rw[LX.mp D];exact h.fix h0,Me _,λ j p B=>by cases B⟩
theorem lg (B:ft ps)(h:i6 ps G)(h0:0<ps.length):m7 ps (cL G) (dY ps G).1 (dY ps G).2/\(dY ps G).2.length=(dY ps G).1.length/\(dY ps G).1[0]?=some (cL G 0):=by
 obtain⟨I,J,more,D⟩:=xS (st:=cL G) B (λ k N=>h.fix N) ps.length (Cz h h0) rfl;exists I,J;show (eQ ps (cL G) ps.length [cL G 0] []).1[0]?=_;rw[D];rfl
theorem EF (B:fi xs m ps)(h:i6 ps G)(h0:0<ps.length):fi xs m (dY ps G).2:=by
 obtain⟨I,hl,hm⟩:=lg B.qG h h0;have key:∀p∈(dY ps G).2,(p.1.length<=m/\∀d∈p.1,fV xs d)/\iT xs (dY ps G).2.length p.2:=λ p hp=>by
  obtain⟨j,Z⟩:=Ni hp;obtain⟨k,pc,g1,g2,rfl,Y⟩:=I.rel j p Z;have J:=L8 g2;exists (show pc.1.length<=m/\∀d∈pc.1,fV xs d from B.jM pc J);have N:=B.ends pc J;have D:∀q∈cC pc.2,(dY ps G).1.idxOf (cL G q)<(dY ps G).2.length:=λ q hq=>by rw[hl];exact MN (Y q hq)
  obtain⟨ds,e⟩:=pc;cases e with
  | stop=>exact True.intro
  | go q=>exact D q (LX.mpr rfl)
  | eM b x n q r=>exact⟨N.1,N.2.1,D q (L9 ..),D r (Mc _ (L9 ..))⟩
 exact⟨λ p hp=>(key p hp).1,λ p hp=>(key p hp).2⟩
theorem join_some (B:ft ps)(h:i6 ps G)(h0:0<ps.length):0<(dY ps G).2.length/\(dY ps G).2.length<=ps.length:=by
 obtain⟨I,D,hm⟩:=lg B h h0;have J:=(Md.mp hm).1;refine⟨by omega,?_⟩;rw[D];exact gO I.nd λ x hx=>(I.lt x hx).1
structure EG (ps:List Piece) (G ms:List Nat) (S S':RS):Prop where
 w:S'.w=S.w
 taken:S'.taken=S.taken
 told:S'.told=S.told
 word:S'.word=S.word
 place:S'.place=S.place
 lt:S.dE<ps.length
 at_:ms[S'.dE]?=some (cL G S.dE)
 dM:S'.dM=S.dM.map λ k=>ms.idxOf (cL G k)
 bin:∀k∈S.dM,k<ps.length/\cL G k∈ms
theorem EG.step {nums:List Int}{S S':RS}(a3:ft ps)(hG:i6 ps G)(I:m7 ps (cL G) ms outs)(hl:outs.length=ms.length)(h:EG ps G ms S S'):EG ps G ms (fN ps nums S) (fN outs nums S'):=by
 have Z:S.dE<ps.length:=h.lt;have J:ps[S.dE]?=some ps[S.dE]:=by simp[Z]
 generalize a6:ps[S.dE]=pc at J;have D:=h.at_;have a4:S'.dE<outs.length:=by rw[hl];exact (Md.mp D).1
 have N:outs[S'.dE]?=some outs[S'.dE]:=by simp[a4]
 generalize outs[S'.dE]=po at N;obtain⟨k,a5,g1,g2,g3,g4⟩:=I.rel _ _ N;rw[D] at g1;cases g1;obtain⟨d1,d2,d3,d4⟩:=EE hG J g2 (hG.fix Z).2.symm;have a2:∀q∈cC pc.2,cL G q∈ms:=λ q hq=>by
  have:cL G q∈(cC pc.2).map (cL G):=List.mem_map_of_mem hq;rw[d4] at this;obtain⟨r,hr,e⟩:=Mb.mp this;rw[<-e];exact g4 r hr
 have g3:po=(pc.1,gZ pc.2 (((cC pc.2).map (cL G)).map ms.idxOf)):=by
  rw[g3];unfold fe;rw[<-d4,d1,EC d2 d3 (by simp)]
 subst g3;obtain⟨ds,e⟩:=pc;have B:=h.place;cases hd:ds[S.place]? with
 | some dd =>
  rw[nB J hd,nB (ds:=ds) (e:=gZ e (((cC e).map (cL G)).map ms.idxOf)) N (by rw[B];exact hd)];cases dd with
  | put x n=>exact⟨by show jX S'.w x n=_;rw[h.w];rfl,h.taken,h.told,h.word,by show S'.place+1=S.place+1;rw[B],h.lt,D,h.dM,h.bin⟩
  | copy x y=>exact⟨by show jX S'.w x (S'.w y)=_;rw[h.w];rfl,h.taken,h.told,h.word,by show S'.place+1=S.place+1;rw[B],h.lt,D,h.dM,h.bin⟩
  | add x n=>exact⟨by show jX S'.w x (S'.w x+n)=_;rw[h.w];rfl,h.taken,h.told,h.word,by show S'.place+1=S.place+1;rw[B],h.lt,D,h.dM,h.bin⟩
  | tell x=>exact⟨h.w,h.taken,by show S'.told++[S'.w x]=_;rw[h.told,h.w];rfl,h.word,by show S'.place+1=S.place+1;rw[B],h.lt,D,h.dM,h.bin⟩
  | read x =>
   unfold jN;rw[h.taken];cases hn:nums[S.taken]? with
   | none=>exact⟨h.w,rfl,h.told,rfl,B,h.lt,D,h.dM,h.bin⟩
   | some n=>exact⟨by show jX S'.w x n=jX S.w x n;rw[h.w],rfl,h.told,h.word,by show S'.place+1=S.place+1;rw[B],h.lt,D,h.dM,h.bin⟩
 | none =>
  rw[o8 J hd,o8 (ds:=ds) (e:=gZ e (((cC e).map (cL G)).map ms.idxOf)) N (by rw[B];exact hd),xH,xH];have en:Bi (gZ e (((cC e).map (cL G)).map ms.idxOf)) S'.w=(Bi e S.w).map λ p=>ms.idxOf (cL G p):=by
   rw[MT,h.w];exact IK (f:=ms.idxOf ∘ cL G)
  rw[en];cases hx:Bi e S.w with
  | none=>exact⟨h.w,h.taken,h.told,rfl,B,h.lt,h.at_,h.dM,h.bin⟩
  | some p =>
   have a1:p∈cC e:=by
    cases e with
    | stop=>cases hx
    | go q=>cases hx;exact LX.mpr rfl
    | eM b x n q r =>
     have:(if iF b (S.w x) n=true then q else r)=p:=Mf.inj hx;rw[<-this];split
     ·exact L9 ..
     ·exact Mc _ (L9 ..)
   have hm:=a2 p a1;have Y:=kW a3 J p a1;refine⟨h.w,h.taken,h.told,h.word,rfl,Y,?_,?_,λ k hk=>?_⟩
   ·show ms[ms.idxOf (cL G p)]?=some (cL G p);have a0:=MN hm;rw[MB a0,Nv a0]
   ·show S'.dM++[ms.idxOf (cL G p)]=(S.dM++[p]).map λ k=>ms.idxOf (cL G k)
    rw[L4,h.dM];rfl
   ·have hk:k∈S.dM++[p]:=hk
    rcases Mh.mp hk with hk | hk
    ·exact h.bin k hk
    ·rw[LX.mp hk];exact⟨Y,hm⟩
theorem xT (B:ft ps)(D:i6 ps G)(h0:0<ps.length)(nums:List Int):∀n,EG ps G (dY ps G).1 (eH ps nums n (eV 0 λ _=>0)) (eH (dY ps G).2 nums n (eV 0 λ _=>0))
 | 0=>by
  obtain⟨I,N,hm⟩:=lg B D h0;refine⟨rfl,rfl,rfl,rfl,rfl,h0,hm,?_,λ k Y=>?_⟩
  ·show [0]=[(dY ps G).1.idxOf (cL G 0)];rw[lZ I.nd hm]
  ·rw[LX.mp Y];exact⟨h0,L8 hm⟩
 | n+1=>by
  obtain⟨I,N,hm⟩:=lg B D h0;have J:=xT B D h0 nums n;show EG ps G _ (qJ ps nums (eH ps nums n _)) (qJ (dY ps G).2 nums (eH (dY ps G).2 nums n _));unfold qJ;rw[J.word];split
  ·exact J.step B D I N
  ·exact J
theorem Gz (J:ft ps)(hG:i6 ps G)(I:m7 ps (cL G) ms outs)(hl:outs.length=ms.length):∀(n:Nat) {i j k l:Nat},ms[i]?=some k->ms[j]?=some l->cL (d5 outs n) i=cL (d5 outs n) j->cL (d5 ps n) k=cL (d5 ps n) l:=by
 have at_:∀{i k:Nat},ms[i]?=some k->∃pc,ps[k]?=some pc/\outs[i]?=some (fe pc ((cC pc.2).map (cL G)) ms)/\∀q∈cC pc.2,cL G q∈ms:=λ {i k} h=>by
  have a3:i<outs.length:=by rw[hl];exact (Md.mp h).1
  have D:outs[i]?=some outs[i]:=by simp[a3]
  obtain⟨k',pc,g1,g2,g3,g4⟩:=I.rel _ _ D;rw[h] at g1;cases g1;exact⟨pc,g2,by rw[D,<-g3],g4⟩
 have B:∀(pc:Piece) (ks:List Nat),iE (fe pc ks ms)=iE pc:=λ pc ks=>by
  unfold iE fe;rw[Cy]
 intro n
 induction n with
 | zero =>
  intro i j k l hi hj e;obtain⟨p,Z,p2,_⟩:=at_ hi;obtain⟨q,q1,q2,_⟩:=at_ hj;have:=(t9 p2 q2).mp e;rw[B,B] at this;exact (t9 Z q1).mpr this
 | succ n ih =>
  intro i j k l hi hj e;obtain⟨p,Z,p2,p3⟩:=at_ hi;obtain⟨q,q1,q2,q3⟩:=at_ hj;obtain⟨e1,e2⟩:=(m4 p2 q2).mp e;refine (m4 Z q1).mpr ⟨ih hi hj e1,?_⟩;have w1:cC (fe p ((cC p.2).map (cL G)) ms).2=((cC p.2).map (cL G)).map ms.idxOf:=rB (by simp);have w2:cC (fe q ((cC q.2).map (cL G)) ms).2=((cC q.2).map (cL G)).map ms.idxOf:=rB (by simp);rw[w1,w2] at e2;have a4:(cC p.2).length=(cC q.2).length:=by have:=congrArg Nc e2;simpa using this
  refine N5 λ t=>?_
  rw[L6,L6];by_cases ht:t<(cC p.2).length
  ·have a2:t<(cC q.2).length:=by omega
   have N:(cC p.2)[t]?=some (cC p.2)[t]:=by simp[ht]
   have hd:(cC q.2)[t]?=some (cC q.2)[t]:=by simp[a2]
   generalize (cC p.2)[t]=c at N;generalize (cC q.2)[t]=d at hd;have e3:=congrArg (λ l:List Nat=>l[t]?) e2;simp only[L6,N,hd,NJ] at e3;have e3:=Mf.inj e3;have mc:=p3 c (L8 N);have md:=q3 d (L8 hd);have ix:∀{x:Nat},x∈ms->ms[ms.idxOf x]?=some x:=λ {x} hm=>by
    have Y:=MN hm;rw[MB Y,Nv Y]
   have e4:=ih (ix mc) (ix md) e3;obtain⟨pd,pe⟩:=p;obtain⟨qd,qe⟩:=q;have a0:=kW J Z c (L8 N);have a1:=kW J q1 d (L8 hd);rw[N,hd];show some (cL (d5 ps n) c)=some (cL (d5 ps n) d);rw[hG.Hd a0 n,hG.Hd a1 n,e4]
  ·rw[NQ.mpr ⋯,NQ.mpr ⋯]
theorem z8 (J:ft ps)(Z:i6 ps G)(h0:0<ps.length){Y:List Nat}(h':i6 (dY ps G).2 Y):Y=L1 (dY ps G).2.length:=by
 obtain⟨I,hl,hm⟩:=lg J Z h0;rw[<-EA Y,h'.len];refine (MV λ a N=>?_).trans (List.map_id _);have N:=MI.mp N;have hb:=h'.lt N;have hk:=h'.Hd N;generalize cL Y a=b at hb hk;have D:(dY ps G).1[a]?=some (dY ps G).1[a]:=by simp[show a<(dY ps G).1.length by omega]
 have B:(dY ps G).1[b]?=some (dY ps G).1[b]:=by simp[show b<(dY ps G).1.length by omega]
 generalize (dY ps G).1[a]=k at D;generalize (dY ps G).1[b]=l at B;have kl:=I.lt k (L8 D);have ll:=I.lt l (L8 B);have e:cL G k=cL G l:=(Z.iff kl.1 ll.1).mpr λ n=>Gz J Z I hl n D B (hk n)
 rw[kl.2,ll.2] at e;subst e;show b=a;rw[<-lZ I.nd D,<-lZ I.nd B]
theorem rC:∀(ks m:List Nat),m.Nodup->putAll (L1 m.length) (ks.map (putAll m ks).idxOf)=L1 (putAll m ks).length
 | [],m,_=>rfl
 | x::xs,m,nd=>by
  show putAll (LS.putIn (L1 m.length) ((putAll (LS.putIn m x) xs).idxOf x)) (xs.map (putAll (LS.putIn m x) xs).idxOf)=L1 (putAll (LS.putIn m x) xs).length;have D:(LS.putIn m x).Nodup:=LS.vZ [x] m nd;have e:LS.putIn (L1 m.length) ((putAll (LS.putIn m x) xs).idxOf x)=L1 (LS.putIn m x).length:=by
   obtain⟨more,N⟩:=iW xs (LS.putIn m x);rw[N];by_cases hx:x∈m
   ·have B:LS.putIn m x=m:=by unfold LS.putIn;rw[if_pos hx]
    rw[B,Nh,if_pos hx];unfold LS.putIn;rw[if_pos (MI.mpr (MN hx))]
   ·have B:LS.putIn m x=m++[x]:=by unfold LS.putIn;rw[if_neg hx]
    have J:(m++[x]).idxOf x=m.length:=by
     rw[Nh,if_neg hx];simp
    rw[B,Nh,if_pos (by simp),J];unfold LS.putIn;rw[if_neg (λ z=>Mq _ (MI.mp z)),LY];exact List.range_succ.symm
  rw[e];exact rC xs (LS.putIn m x) D
theorem xU {L x:Nat}(h:x<L):(L1 L).idxOf x=x:=lZ List.nodup_range (by simp[h])
theorem xV {st:Nat->Nat}:∀(fu:Nat) {ms:List Nat} {outs:List Piece},∃more,(eQ ps st fu ms outs).2=outs++more
 | 0,ms,outs=>⟨[],by show outs=_;simp⟩
 | fu+1,ms,outs=>by
  cases hk:ms[outs.length]? with
  | none=>rw[jt hk];exact⟨[],by simp⟩
  | some k =>
   cases hp:ps[k]? with
   | none =>
    exists [];show (match ms[outs.length]? with
     | none=>(ms,outs)
     | some k=>match ps[k]? with
      | none=>(ms,outs)
      | some pc=>eQ ps st fu (putAll ms ((cC pc.2).map st)) (outs++[fe pc ((cC pc.2).map st) (putAll ms ((cC pc.2).map st))])).2=_
    rw[hk];show (match ps[k]? with
      | none=>(ms,outs)
      | some pc=>eQ ps st fu (putAll ms ((cC pc.2).map st)) (outs++[fe pc ((cC pc.2).map st) (putAll ms ((cC pc.2).map st))])).2=_
    rw[hp];simp
   | some pc =>
    rw[iD hk hp];obtain⟨more,e⟩:=xV (st:=st) fu (ms:=putAll ms ((cC pc.2).map st)) (outs:=outs++[fe pc ((cC pc.2).map st) (putAll ms ((cC pc.2).map st))]);exact⟨[fe pc ((cC pc.2).map st) (putAll ms ((cC pc.2).map st))]++more,by rw[e,MK]⟩
theorem vk {st:Nat->Nat}:∀(fu:Nat) {ms:List Nat} {outs:List Piece},ms.length<=(eQ ps st fu ms outs).1.length
 | 0,ms,outs=>LW _
 | fu+1,ms,outs=>by
  cases hk:ms[outs.length]? with
  | none=>rw[jt hk];exact LW _
  | some k =>
   cases hp:ps[k]? with
   | none =>
    show _<=(match ms[outs.length]? with
     | none=>(ms,outs)
     | some k=>match ps[k]? with
      | none=>(ms,outs)
      | some pc=>eQ ps st fu (putAll ms ((cC pc.2).map st)) (outs++[fe pc ((cC pc.2).map st) (putAll ms ((cC pc.2).map st))])).1.length
    rw[hk];show _<=(match ps[k]? with
      | none=>(ms,outs)
      | some pc=>eQ ps st fu (putAll ms ((cC pc.2).map st)) (outs++[fe pc ((cC pc.2).map st) (putAll ms ((cC pc.2).map st))])).1.length
    rw[hp];exact LW _
   | some pc =>
    rw[iD hk hp];refine Ma ?_ (vk (st:=st) fu);obtain⟨D,B⟩:=iW ((cC pc.2).map st) ms;rw[B,LY];omega
theorem tH {st id':Nat->Nat}{M:List Nat}{O:List Piece}(Y:∀k,k<M.length->id' k=k)(a7:O.length=M.length):∀(fu:Nat) {ms:List Nat} {outs:List Piece},ms.Nodup->outs.length<=ms.length->fu+outs.length=ps.length->(∀k∈ms,k<ps.length)->(∀(k:Nat) (p:Piece),ps[k]?=some p->∀q∈cC p.2,st q<ps.length)->eQ ps st fu ms outs=(M,O)->∀B,O.length=B+outs.length->eQ O id' B (L1 ms.length) (O.take outs.length)=(L1 M.length,O)
 | 0,ms,outs,nd,le,hf,hlt,hw,e,B,hf'=>by
  have e:(ms,outs)=(M,O):=e;injection e with e1 e2
  rw[<-e2] at hf' ⊢;rw[<-e1];obtain rfl:B=0:=by omega
  show (L1 ms.length,outs.take outs.length)=_;rw[Mn]
 | fu+1,ms,outs,nd,le,hf,hlt,hw,e,B,hf'=>by
  cases hk:ms[outs.length]? with
  | none =>
   rw[jt hk] at e;injection e with e1 e2
   rw[<-e2] at hf' ⊢;rw[<-e1];obtain rfl:B=0:=by omega
   show (L1 ms.length,outs.take outs.length)=_;rw[Mn]
  | some k =>
   have a8:=hlt k (L8 hk);have D:ps[k]?=some ps[k]:=by simp[a8]
   generalize ps[k]=pc at D;rw[iD hk D] at e;obtain⟨more,J⟩:=xV (ps:=ps) (st:=st) fu (ms:=putAll ms ((cC pc.2).map st)) (outs:=outs++[fe pc ((cC pc.2).map st) (putAll ms ((cC pc.2).map st))]);rw[e] at J;have J:O=(outs++[fe pc ((cC pc.2).map st) (putAll ms ((cC pc.2).map st))])++more:=J;have aa:outs.length<O.length:=by rw[J];simp
   obtain⟨f',rfl⟩:∃f',B=f' + 1:=⟨B-1,by omega⟩;have a0:O[outs.length]?=some (fe pc ((cC pc.2).map st) (putAll ms ((cC pc.2).map st))):=by rw[J];simp
   have a9:outs.length<ms.length:=(Md.mp hk).1;have Z:∀x∈(cC pc.2).map st,x∈putAll ms ((cC pc.2).map st):=λ x hx=>mH.mpr (.inr hx)
   have a2:((cC pc.2).map st).length=(cC pc.2).length:=LU ..;have a6:∀k∈putAll ms ((cC pc.2).map st),k<ps.length:=ju hlt λ x hx=>by
    obtain⟨q,hq,rfl⟩:=Mb.mp hx;exact hw k pc D q hq
   have a3:=j6 (ks:=(cC pc.2).map st) nd;have a5:=rC ((cC pc.2).map st) ms nd;have a1:(putAll ms ((cC pc.2).map st)).length<=M.length:=by
    have:=vk (ps:=ps) (st:=st) fu (ms:=putAll ms ((cC pc.2).map st)) (outs:=outs++[fe pc ((cC pc.2).map st) (putAll ms ((cC pc.2).map st))]);rw[e] at this;exact this
   have N:outs.length+1<=(putAll ms ((cC pc.2).map st)).length:=by
    obtain⟨mm,em⟩:=iW ((cC pc.2).map st) ms;rw[em,LY];omega
   generalize (cC pc.2).map st=ks at *;generalize putAll ms ks=m2 at *;have wv:cC (fe pc ks m2).2=ks.map m2.idxOf:=rB (by rw[LU];exact a2);have LO:(cC (fe pc ks m2).2).map id' = ks.map m2.idxOf:=by
    rw[wv,MT];refine MV λ x hx=>?_
    exact Y _ (Mo (MN (Z x hx)) a1)
   have a4:(O.take outs.length).length=outs.length:=by rw[Mu];omega
   rw[iD (k:=outs.length) (pc:=fe pc ks m2) (by rw[a4];simp[a9]) a0,LO,a5];have eo:fe (fe pc ks m2) (ks.map m2.idxOf) (L1 m2.length)=fe pc ks m2:=by
    show ((fe pc ks m2).1,gZ (fe pc ks m2).2 ((ks.map m2.idxOf).map (L1 m2.length).idxOf))=_;have:(ks.map m2.idxOf).map (L1 m2.length).idxOf=cC (fe pc ks m2).2:=by
     rw[wv,MT];refine MV λ x hx=>?_
     exact xU (MN (Z x hx))
    rw[this,ED]
   rw[eo];have et:O.take outs.length++[fe pc ks m2]=O.take (outs++[fe pc ks m2]).length:=by
    rw[LY,NG,Mz,a0];rfl
   rw[et];refine tH Y a7 fu a3 (by rw[LY,NG];exact N) (by rw[LY,NG];omega) a6 hw e f' ?_;rw[LY,NG];omega
theorem CA (B:ft ps)(J:i6 ps G)(h0:0<ps.length):dY (dY ps G).2 (L1 (dY ps G).2.length)=(L1 (dY ps G).2.length,(dY ps G).2):=by
  obtain⟨I,Y,hm⟩:=lg B J h0;have N:=join_some B J h0;have D:∀k,k<(dY ps G).1.length->cL (L1 (dY ps G).2.length) k=k:=λ k Z=>by
    unfold cL;rw[MR,Ot ⋯];rfl
  have:=tH (ps:=ps) (st:=cL G) (id':=cL (L1 (dY ps G).2.length)) (M:=(dY ps G).1) (O:=(dY ps G).2) D Y ps.length (ms:=[cL G 0]) (outs:=[]) (by simp) (Me _) rfl (λ k Z=>by rw[LX.mp Z];exact (J.fix h0).1) (λ k p hp q hq=>by
    obtain⟨ds,e⟩:=p;exact (J.fix (kW B hp q hq)).1) rfl (dY ps G).2.length rfl
  show eQ (dY ps G).2 (cL (L1 (dY ps G).2.length)) (dY ps G).2.length [cL (L1 (dY ps G).2.length) 0] []=_;rw[D 0 ⋯];rw[<-Y] at this;exact this
end
inductive vm (P:Program) (w:World) (C:Addr) (vs:List V) (H:Hp) (Q:VK) (_:XK):Prop
 | mk (plv:V) (ps:List Piece) (xs:List Str) (most:Nat) (_:vs=[plv,.int (most:Nat)]) (_:cW H plv (fq ps)) (_:fi xs 12 ps) (_:(∀x∈xs,hU x)) (_:xs.length<=60) (_:0<ps.length) (_:ps.length<=60) (_:1<=most) (_:most<=300) (_:∀(v:V) (ds:List PyData) (H':Hp),Paired (λ d c=>CD c d) ds (kX ps most).1->cW H' v (.tuple [.tuple ((kX ps most).2.map d8),.tuple ds])->cy H H'->Q v H')
theorem yb {qs:List Piece}(h:dY qs (L1 qs.length)=(L1 qs.length,qs)):sx qs (L1 qs.length)=.tuple [.tuple (qs.map d8),.tuple ((L1 qs.length).map fm)]:=by
 unfold sx;rw[show eQ qs (cL (L1 qs.length)) qs.length [cL (L1 qs.length) 0] []=(L1 qs.length,qs) from h]
 congr 3
 congr 1
 refine MV λ g B=>?_
 rw[if_pos B,xU (MI.mp B)]
theorem EH {B:List V}{k:Nat}(r:dh H B (G.map λ g=>if g∈ms then fm (ms.idxOf g) else PyData.none))(Y:G.length=n)(Z:k<n)(hm:cL G k∈ms):B[k]?=some (V.int (ms.idxOf (cL G k):Nat)):=by
 have D:G[k]?=some (cL G k):=by
  unfold cL;rw[MR,MB ⋯];rfl
 obtain⟨v,J,N⟩:=r.get (i:=k) (d:=fm (ms.idxOf (cL G k))) (by rw[L6,D];show some (if cL G k∈ms then _ else _)=_;rw[if_pos hm]);rw[J,N.int_inv]
theorem CB (h:(PyData.tuple (p.1.map eN)).canLay0=true/\(jd p.2).canLay0=true):(d8 p).canLay0=true:=by
 show ((PyData.tuple (p.1.map eN)).canLay0&&((jd p.2).canLay0&&true))=true;rw[h.1,h.2];rfl
theorem EI {ns:List Nat}{outs:List Piece}:(PyData.tuple [.tuple (outs.map d8),.tuple (ns.map fm)]).depth<=60:=by
 have D:=jE (outs.map d8) λ d hd=>by obtain⟨x,_,rfl⟩:=Mb.mp hd;exact Ei x
 have B:=jE (m:=0) (ns.map fm) λ d hd=>by
  obtain⟨x,hx,rfl⟩:=Mb.mp hd;exact LW 0
 show max (PyData.depthAll (outs.map d8)+1) (max (PyData.depthAll (ns.map fm)+1) 0)+1<=60;omega
theorem EJ {qs:List Piece}{ns:List Nat}(h:∀q∈qs,(d8 q).canLay0=true):(PyData.tuple [.tuple (qs.map d8),.tuple (ns.map fm)]).canLay0=true:=by
 have B:(PyData.tuple (qs.map d8)).canLay0=true:=gU _ λ d hd=>by obtain⟨x,hx,rfl⟩:=Mb.mp hd;exact h x hx
 exact gU _ λ d hd=>by
  rcases LZ.mp hd with rfl | hd
  ·exact B
  ·rw[LX.mp hd];exact lY ns
theorem lh {G:St->Hp->Prop}{B:St}(h:let s:=B;G s H):G B H:=h
theorem He {G:TS}{B:St}(h:let D0:=D;let R2:=J;let R1:=eD N R2;eD G R1 D0 B H):eD G (eD N J) D B H:=h
theorem yo {B:TS}{G:St}(h:let D0:=D;let R3:=B;let R2:=eD N R3;let R1:=eD Y R2;eD J R1 D0 G H):eD J (eD Y (eD N B)) D G H:=h
theorem Hf {G B:TS}{N:St}(h:let D0:=D;let R4:=B;let R3:=eD J R4;let R2:=eD Y R3;let R1:=eD Z R2;eD G R1 D0 N H):eD G (eD Z (eD Y (eD J B))) D N H:=h
theorem KC {G B:TS}{N:St}(h:let D0:=D;let R5:=Z;let R4:=eD B R5;let R3:=eD J R4;let R2:=eD Y R3;let R1:=eD t2 R2;eD G R1 D0 N H):eD G (eD t2 (eD Y (eD J (eD B Z)))) D N H:=h
theorem Hg {G B:TS}{N:St}(h:let D0:=D;let R6:=t7;let R5:=eD Z R6;let R4:=eD B R5;let R3:=eD J R4;let R2:=eD Y R3;let R1:=eD t2 R2;eD G R1 D0 N H):eD G (eD t2 (eD Y (eD J (eD B (eD Z t7))))) D N H:=h
theorem Hh {G t6 B:TS}{Y:St}(h:let D0:=D;let R7:=B;let R6:=eD t7 R7;let R5:=eD t6 R6;let R4:=eD G R5;let R3:=eD N R4;let R2:=eD Z R3;let R1:=eD t2 R2;eD J R1 D0 Y H):eD J (eD t2 (eD Z (eD N (eD G (eD t6 (eD t7 B)))))) D Y H:=h
end L2
namespace My
open PySem PySem.Spec PyProof.Rows L2
variable {f C aA aE s0 s3 s2 aD d0 d1 d2 d3 d4 s1:Addr}
def top (i:Nat):Stmt:=PySem.Challenge.pw_ledpast_k42_whole_joined_tells_the_same.main.body.getD i (.Pass ⟨0,0,0,0⟩)
structure Bl (mg:Z2):Prop where
 len:mg "len" = none
 zip:mg "zip" = none
 tuple:mg "tuple" = none
 sorted:mg "sorted" = none
 set:mg "set" = none
 dict:mg "dict" = none
 min:mg "min" = none
 max:mg "max" = none
 range:mg "range" = none
 list:mg "list" = none
 int:mg "int" = none
 enumerate:mg "enumerate" = none
abbrev ko:Stmt:=top 3
theorem ud:cQ ["thing", "kinds", "wanted"] ["thing", "kinds", "wanted"] (cG ko):=eS
abbrev rD:Stmt:=top 5
theorem CC:cQ ["end"] ["end"] (cG rD):=eS
abbrev lj:Stmt:=top 6
theorem vn:cQ ["end"] ["end"] (cG lj):=eS
abbrev pK:Stmt:=top 4
theorem jL:cQ ["plan", "names", "deeds", "end", "deed"] ["plan"] (cG pK):=eS
abbrev rE:Stmt:=top 22
theorem pL:cQ ["number", "stretch", "low", "high"] ["number", "stretch"] (cG rE):=eS
abbrev m8:Stmt:=top 23
theorem jP:cQ ["stretch", "number", "low", "high", "top"] ["stretch", "number"] (cG m8):=eS
abbrev nY:Stmt:=top 24
theorem kq:cQ ["stretch", "number", "low", "high", "bottom"] ["stretch", "number"] (cG nY):=eS
abbrev rF:Stmt:=top 25
theorem CF:cQ ["stretch", "number"] ["stretch", "number"] (cG rF):=eS
abbrev mn:Stmt:=top 26
theorem lq:cQ ["stretch", "number", "low", "high"] ["stretch", "number"] (cG mn):=eS
abbrev rG:Stmt:=top 27
theorem CG:cQ ["stretch", "word", "number", "side"] ["stretch", "word", "number", "side"] (cG rG):=eS
abbrev pM:Stmt:=top 31
theorem z9:cQ ["stretches"] ["stretches"] (cG pM):=eS
abbrev wx:Stmt:=top 32
theorem GB:cQ ["facts", "name"] ["facts", "name"] (cG wx):=eS
abbrev m9:Stmt:=top 33
theorem ql:cQ ["facts", "name", "stretch", "stretches"] ["facts", "name", "stretch"] (cG m9):=eS
abbrev wy:Stmt:=top 34
theorem ue:cQ ["stretch", "number", "low", "high"] ["stretch", "number"] (cG wy):=eS
abbrev j0:Stmt:=top 35
theorem mz:cQ ["stretches", "deed", "word", "name"] ["stretches", "deed"] (cG j0):=eS
abbrev uf:Stmt:=top 36
theorem rH:cQ ["facts", "deeds", "stretches", "deed"] ["facts", "deeds"] (cG uf):=eS
abbrev lr:Stmt:=top 37
theorem gf:cQ ["facts", "end", "ways", "word", "name", "number", "stretch", "parts"] ["facts", "end"] (cG lr):=eS
abbrev wz:Stmt:=top 38
theorem zL:cQ ["facts", "end", "beyond"] ["facts", "end"] (cG wz):=eS
abbrev wA:Stmt:=top 39
theorem GC:cQ ["plan"] ["plan"] (cG wA):=eS
abbrev lu:Stmt:=inClass (top 7) 0
theorem vo:cQ ["self", "first"] ["self", "first"] (cG lu):=eS
abbrev lB:Stmt:=inClass (top 7) 1
theorem vp:cQ ["self", "thing"] ["self", "thing"] (cG lB):=eS
abbrev rK:Stmt:=top 9
theorem kr:cQ ["plan", "found", "waiting", "at", "way"] ["plan"] (cG rK):=eS
abbrev wB:Stmt:=top 10
theorem pN:cQ ["plan", "found", "at", "way"] ["plan"] (cG wB):=eS
abbrev pO:Stmt:=top 42
theorem tI:cQ ["lead", "tops", "places", "most", "piece"] ["lead", "tops", "places", "most"] (cG pO):=eS
abbrev ug:Stmt:=top 43
theorem EK:cQ ["end", "ways"] ["end", "ways"] (cG ug):=eS
abbrev pP:Stmt:=top 44
theorem fZ:cQ ["plan", "most", "tops", "copies", "pieces", "piece", "facts", "deeds", "end", "ahead", "ways"] ["plan", "most"] (cG pP):=eS
abbrev mq:Stmt:=top 8
theorem ic:cQ ["plan", "steads", "row", "pieces", "deeds", "end", "ways"] ["plan", "steads"] (cG mq):=eS
abbrev rL:Stmt:=top 12
theorem pQ:cQ ["piece", "deeds", "end"] ["piece"] (cG rL):=eS
abbrev lC:Stmt:=top 13
theorem ji:cQ ["keys", "places", "at", "key"] ["keys"] (cG lC):=eS
abbrev rM:Stmt:=top 14
theorem CH:cQ ["plan"] ["plan"] (cG rM):=eS
abbrev j1:Stmt:=top 15
theorem sJ:cQ ["plan"] ["plan"] (cG j1):=eS
abbrev wC:Stmt:=top 16
theorem lF:cQ ["plan", "ways", "before", "groups"] ["plan"] (cG wC):=eS
abbrev uh:Stmt:=top 17
theorem ma:cQ ["plan", "steads", "pieces", "order", "places"] ["plan"] (cG uh):=eS
abbrev nZ:Stmt:=top 28
theorem zM:cQ ["stretch", "word", "number"] ["stretch", "word", "number"] (cG nZ):=eS
abbrev mr:Stmt:=inClass (top 46) 1
theorem wF:cQ ["self", "name"] ["self", "name"] (cG mr):=eS
abbrev lG:Stmt:=inClass (top 46) 2
theorem ku:cQ ["self", "deeds", "end"] ["self"] (cG lG):=eS
abbrev i5:Stmt:=inClass (top 46) 3
theorem oV:cQ ["self"] ["self"] (cG i5):=eS
abbrev ky:Stmt:=inClass (top 46) 4
theorem ui:cQ ["self"] ["self"] (cG ky):=eS
abbrev jg:Stmt:=inClass (top 46) 5
theorem pR:cQ ["self"] ["self"] (cG jg):=eS
abbrev kA:Stmt:=inClass (top 46) 6
theorem nc:cQ ["self", "deed", "word", "name"] ["self", "deed"] (cG kA):=eS
abbrev kB:Stmt:=inClass (top 46) 7
theorem uj:cQ ["self", "piece"] ["self", "piece"] (cG kB):=eS
abbrev lH:Stmt:=inClass (top 46) 8
theorem gg:cQ ["self", "end", "word", "name", "number", "yes", "no", "worth"] ["self", "end"] (cG lH):=eS
abbrev kC:Stmt:=inClass (top 46) 9
theorem j2:cQ ["self", "deeds", "end"] ["self"] (cG kC):=eS
abbrev j3:Stmt:=inClass (top 46) 0
theorem sL:cQ ["self", "pieces", "begin", "worths", "numbers"] ["self", "pieces", "begin", "worths", "numbers"] (cG j3):=eS
abbrev wG:Stmt:=top 47
theorem uk:cQ ["stand", "steps", "done"] ["stand", "steps"] (cG wG):=eS
abbrev um:Stmt:=top 48
theorem nS:cQ ["plan", "piece", "worths", "numbers", "steps", "stand", "done", "held"] ["plan", "piece", "worths", "numbers", "steps"] (cG um):=eS
abbrev CI:Stmt:=top 49
theorem J8:cQ ["plan", "numbers", "steps"] ["plan", "numbers", "steps"] (cG CI):=eS
abbrev zN:Stmt:=top 50
theorem Br:cQ ["plan", "numbers", "steps", "stand"] ["plan", "numbers", "steps"] (cG zN):=eS
abbrev rN:Stmt:=top 52
theorem pS:cQ ["script", "k", "cell"] ["script", "k"] (cG rN):=eS
abbrev pT:Stmt:=top 53
theorem tJ:cQ ["bag", "many", "found"] ["bag", "many"] (cG pT):=eS
abbrev oa:Stmt:=top 54
theorem gP:cQ ["bag", "letters", "many", "base", "at", "names", "k", "name"] ["bag"] (cG oa):=eS
abbrev nh:Stmt:=top 55
theorem yc:cQ ["bag"] ["bag"] (cG nh):=eS
abbrev pU:Stmt:=top 56
theorem og:cQ ["bag", "names", "word", "name"] ["bag", "names"] (cG pU):=eS
abbrev rO:Stmt:=top 57
theorem mI:cQ ["bag", "names", "count", "way", "word", "name"] ["bag", "names", "count"] (cG rO):=eS
abbrev pV:Stmt:=top 58
theorem jb:cQ ["bag", "count", "most", "names", "pieces", "k", "many", "end"] ["bag", "count", "most"] (cG pV):=eS
abbrev pW:Stmt:=top 59
theorem Aa:cQ ["end"] ["end"] (cG pW):=eS
abbrev mu:Stmt:=top 60
theorem fD:cQ ["bag", "plan", "many", "sources", "k", "some", "source", "deeds", "end", "ways", "there", "places"] ["bag", "plan", "many"] (cG mu):=eS
abbrev kF:Stmt:=top 61
theorem fT:cQ ["bag", "count", "plan", "some", "k", "deeds", "end", "ways"] ["bag", "count"] (cG kF):=eS
abbrev kG:Stmt:=top 66
theorem eW:cQ ["bag", "count", "names", "base", "ends", "at", "odd", "some", "k", "deeds", "end", "ways"] ["bag", "count"] (cG kG):=eS
abbrev kH:Stmt:=top 67
theorem fy:cQ ["bag", "count", "letters", "shift", "names", "k", "sign", "pieces", "deeds"] ["bag", "count"] (cG kH):=eS
abbrev lI:Stmt:=top 62
theorem jl:cQ ["bag", "most", "way", "count", "small"] ["bag", "most"] (cG lI):=eS
abbrev pX:Stmt:=top 63
theorem eT:cQ ["plan", "state", "numbers", "piece", "place", "worths", "taken", "told", "word", "been", "deeds", "end", "deed", "worth", "there", "yes"] ["plan", "state", "numbers"] (cG pX):=eS
abbrev pY:Stmt:=top 64
theorem lO:cQ ["plan", "numbers", "steps", "state", "k"] ["plan", "numbers", "steps"] (cG pY):=eS
abbrev oh:Stmt:=top 65
theorem rP:cQ ["bag", "many"] ["bag"] (cG oh):=eS
abbrev sF:Stmt:=top 68
theorem i7:cQ ["script", "first", "plan", "other", "numbers_in", "rising", "k", "bag", "numbers", "steps", "state"] ["script"] (cG sF):=eS
section
variable {P:Program}{w:World}{K:LV}{mg:Z2}{base:Heap}
theorem uo {fd:FuncData} (F:eC K "parts_of_kind" "parts_of_kind" ko f fd) (Z:Bl mg)  : dB P w K mg base d7 1 f fd ["thing", "kinds", "wanted"] (vX K):=by
 refine F.ok (k:=0) ud (λ vs H Q E h=>?_) (λ a0 A outer s H vs Q E hr h=>?_)
 ·obtain⟨t,s,v0,xs,ks,w,rfl,_⟩:=h;rfl
 ·obtain⟨t,s,v0,xs,ks,w,rfl,ht,hs,hl,q⟩:=h;exists _,(cB (cK (fL ["part", "kind"] ["wanted"] [2] rfl (DL rfl Z.zip (cS (jS kT (pv 0) (kO cA) kN) (pv 1))) rfl ⋯ ⋯ ⋯ ⟨⟨rfl,.inl rfl,rfl⟩,True.intro⟩ (λ _ _ _ _=>(oz (K:=K) (n:=2) rfl (fw (n:=2) rfl (cR (cJ (i:=0) (show ((["part", "kind"]:List Str)++(["wanted"]:List Str)).Nodup by decide) (hf:=Mg rfl)) (cR (cJ (i:=1) (show ((["part", "kind"]:List Str)++(["wanted"]:List Str)).Nodup by decide) (hf:=Mg rfl)) eX))))) (λ _ _ _ _=>(rT (cP eF (pv 1) (pv 2) (cX _)))) (λ _ _ _ _=>(pv 0)))));refine⟨_,rfl,_,rfl,t,_,rfl,cE.of ht,λ hw=>?_,λ _ p np=>?_⟩
  ·exfalso;obtain⟨h1,_⟩:=hw;simp[HT.fb] at h1
  ·have ec:jT (v0::xs) (some 1) none=xs:=by simp[jT,HT.fb]
   rw[ec];have sp:=cy.new (o:=.tup xs) np;refine⟨_,rfl,p,s,rfl,⟨_,cE.of cu⟩,⟨_,hs.same sp⟩,λ acc na=>?_⟩;refine DM (K:=K) (a:=p) (b:=s) (xs:=xs) (ys:=ks.map V.str) (λ i Y LR H'=>∃(c1 c2:Option V),LR=[c1,c2,some (.str w)]/\Y=nJ w xs ks i/\H' acc=some (.lst Y)/\H' p=some (.tup xs)/\cy H H') ?_ ?_ ?_ ?_
   ·exact⟨none,none,rfl,rfl,cu,cy.new na _ _ cu,sp.trans (cy.new na)⟩
   ·rintro i Y LR H4 hi ⟨c1,c2,rfl,rfl,D,B,G⟩;exact⟨cE.of B,hs.same G,D,fG (by have:=DO (w:=w) (xs:=xs) (ks:=ks) (i:=i);omega)⟩
   ·rintro i x y Y LR H4 u hx N hu ⟨c1,c2,rfl,rfl,D,B,G⟩;obtain⟨k,rfl,hk⟩:∃k,y=V.str k/\ks[i]?=some k:=by
     rw[L6] at N;cases e:ks[i]? with
     | none=>rw[e] at N;cases N
     | some k=>rw[e] at N;exact⟨k,(Mf.inj N).symm,rfl⟩
    have J:=cy.new (o:=.tup [x,.str k]) hu;exists u,_,rfl,cE.of cu,rfl,_,_,rfl,_,_,rfl,rfl;exists _,rfl,_,rfl,rfl,_,rfl;have hn:=Ca (w:=w) hx hk;by_cases hkw:k=w
    ·rw[if_pos hkw] at hn;refine eU (decide_eq_true (congrArg V.str hkw)) ?_;exists _,rfl,J _ _ D,_,_,rfl,hn.symm,cu,?_
     ·rw[cx (dD B D (by intro z;cases z))];exact J _ _ B
     ·exact (G.trans J).put (sp.free na)
    ·rw[if_neg hkw,Nb] at hn;refine dn (decide_eq_false λ z=>hkw (V.str.inj z)) ?_;exact⟨_,_,rfl,hn.symm,J _ _ D,J _ _ B,G.trans J⟩
   ·rintro Y LR H4 ⟨c1,c2,rfl,rfl,D,B,G⟩;rw[DN] at D;exact q acc H4 D G
theorem CJ {fd:FuncData} (F:eC K "ways_on" "ways_on" rD f fd) (Z:Bl mg) {J:Addr} (Y:y6 K mg aE s0 J s2 s3) (B:Own P w K mg base "parts_of_kind" 1 ["thing", "kinds", "wanted"] (vX K)):dB P w K mg base d7 3 f fd ["end"] lU:=by
 refine F.ok (k:=2) CC (λ vs H Q E h=>?_) (λ a0 A outer s H vs Q E hr h=>?_)
 ·obtain⟨N,e,rfl,_⟩:=h;rfl
 ·obtain⟨N,e,rfl,G,q⟩:=h;exists _,(cB (cK (cZ cT rfl Z.tuple dI (cF (cH B hr (iJ (pv 0) (vW Y.tab rfl (cI df (pv 0) cA) (λ _ _=>rfl)) dA))))));obtain⟨xs,ev,hl,hp⟩:=DP e;rw[ev] at G;obtain⟨s,hs,ks⟩:=Y.at_ e;refine⟨_,rfl,_,rfl,N,_,0,_,rfl,rfl,cE.of G,eG,_,s,rfl,hs,N,s,_,xs,kE e, "piece",rfl,G,.inr ks,hl,λ l H1 D J=>?_⟩;rw[hp] at D;exact⟨l,_,rfl,.inl ⟨cN.of D,λ t ht=>q t _ cu (J.trans (cy.new ht))⟩⟩
theorem vq {fd:FuncData} (F:eC K "without_ways" "without_ways" lj f fd) (Z:Bl mg) (B:Own P w K mg base "ways_on" 3 ["end"] lU):dB P w K mg base d7 4 f fd ["end"] nL:=by
 refine F.ok (k:=3) vn (λ vs H Q E h=>?_) (λ a0 A outer s H vs Q E hr h=>?_)
 ·obtain⟨G,e,rfl,_⟩:=h;rfl
 ·obtain⟨G,e,rfl,N,q⟩:=h;exists _,(cB (cK (jS kT (pv 0) kN (kO (dt gJ (cY cM rfl Z.len dU (cF (pv 0))) (cY cM rfl Z.len dU (cF (cH B hr (cF (pv 0))))))))));refine⟨_,rfl,_,rfl,G,_,rfl,.inr (cE.of N),_,rfl,G,e,rfl,N,λ t H1 ht Y=>⟨t,_,rfl,.inr (cE.of ht),_,_,rfl,rfl,?_⟩⟩;have D:=Y _ _ N;have el:((fX e).length:Int)-(((cC e).map λ k=>V.int (k:Nat)).length:Int)=((fK e).length:Nat):=by cases e<;>rfl
  have J:jT (fX e) none (some ((fK e).length:Nat))=fK e:=by
   unfold jT;rw[HT.tN,HT.rR];cases e<;>rfl
  refine⟨_,congrArg V.int el,G,_,rfl,cE.of D,λ hw=>?_,λ _ p hp=>?_⟩
  ·unfold jT at J;rw[hw.1,hw.2] at J;refine q G H1 ?_ Y;rw[D,<-J];simp
  ·rw[J];exact q p _ cu (Y.trans (cy.new hp))
theorem Ab {fd:FuncData} (F:eC K "names_of" "names_of" pK f fd) (Z:Bl mg)  (GD:ym K mg aD d0 d1 d2 d3 d4) {G:Addr} (GE:y6 K mg aE s0 s1 G s3) (B:Own P w K mg base "parts_of_kind" 1 ["thing", "kinds", "wanted"] (vX K)):dB P w K mg base d7 3 f fd ["plan"] xo:=by
 refine F.ok (k:=2) jL (λ vs H Q E h=>?_) (λ ak A outer s H vs Q E hr h=>?_)
 ·obtain⟨af,ps,xs,m,rfl,_⟩:=h;rfl
 ·obtain⟨af,ps,xs,m,rfl,hp,ac,aj,ag,q⟩:=h;refine⟨_,(cw (cU (i:=1) jL.nd (fh fg))
   (cw (gu PassesOwn.never rfl (hH (pv 0)) (fw rfl (cR (cJ (i:=2) jL.nd) (cR (cJ (i:=3) jL.nd) eX)))
   (cw (gu PassesOwn.never rfl (hH (pv 2)) (cJ (i:=4) jL.nd)
   (cB (eJ (gr PySem.F.plainAttrs_list PySem.F.slot_list_extend PySem.F.type_list_extend w9 (pv 1) (cF (cH B hr (iJ (pv 4) (vW GD.tab rfl (cI df (pv 4) cA) (λ _ _=>rfl)) dA)))))))
   (cB (eJ (gr PySem.F.plainAttrs_list PySem.F.slot_list_extend PySem.F.type_list_extend w9 (pv 1) (cF (cH B hr (iJ (pv 3) (vW GE.tab rfl (cI df (pv 3) cA) (λ _ _=>rfl)) dA))))))))
   (cB (cK (cZ cT rfl Z.tuple dI (cF (cY (xW rfl) rfl Z.sorted nI (cF (cZ (Ec rfl) rfl Z.set Ea (cF (pv 1))))))))))),?_⟩
  try dsimp only[mw,qm]
  refine He ?_;intro D0 R2 R1;obtain⟨pp,vs,rfl,e1,r⟩:=cW.d9 hp;have hl:=r.len;refine⟨(by show 0<=sizeLine;decide),λ nm nn=>?_⟩;have s0:=cy.new (o:=.lst []) nn;have big:∀(i:Nat) (ys:List Str),ys.length<=4000->(ys.map V.str).length<=sizeLine:=λ i ys h=>by rw[LU];exact Ma h ⋯
  refine⟨_,rfl,pp,rfl,⟨_,cE.of (s0 _ _ e1)⟩,kL (K:=K) (a:=pp) (xs:=vs) (λ i LQ H'=>∃(u1 u2 u3:Option V),LQ=[some (.ref pp),some (.ref nm),u1,u2,u3]/\H' nm=some (.lst ((eO (ps.take i)).map V.str))/\cy H H') ?_ ?_ ?_ ?_⟩
  ·exact⟨_,_,_,rfl,cu,s0⟩
  ·rintro i LQ H1 hi ⟨u1,u2,u3,rfl,h1,s1⟩;exact cE.of (s1 _ _ e1)
  ·rintro i x LQ H1 hi ⟨u1,u2,u3,rfl,h1,s1⟩;have ah:i<ps.length:=by
    have:=(Md.mp hi).1;rw[hl,LU] at this;exact this
   have a5:ps[i]?=some ps[i]:=by simp[ah]
   generalize ps[i]=pe at a5;obtain⟨ds,e⟩:=pe;have D:=xn (f:=pNames) a5;have hsz:(eO (ps.take (i+1))).length<=4000:=Ma (qb (f:=pNames) (i+1)) ag;have ai:(eO (ps.take i)).length+((ds.flatMap hV).length+(mW e).length)<=4000:=by
    have z:=congrArg Nc D;unfold eO at hsz ⊢;rw[z] at hsz;simp only[LY,pNames] at hsz;omega
   obtain⟨p',al,pc,da,ea,ws,ep,a8,am,a9,e2,e3,r3,e4⟩:=gX hp a5;cases ep;rw[e1] at a8;cases a8;rw[hi] at a9;cases a9;exists pc,_,rfl,cE.of (s1 _ _ e2),rfl,_,_,rfl,_,_,rfl,rfl;refine⟨_,rfl,da,rfl,⟨_,cE.of (s1 _ _ e3)⟩,kL (K:=K) (a:=da) (xs:=ws) (λ j LQ H'=>∃(u3:Option V),LQ=[some (.ref pp),some (.ref nm),some (.ref da),some (.ref ea),u3]/\H' nm=some (.lst ((eO (ps.take i)++(ds.take j).flatMap hV).map V.str))/\cy H H') ?_ ?_ ?_ ?_⟩
   ·exact⟨_,rfl,by simpa using h1,s1⟩
   ·rintro j LQ H2 hj ⟨a6,rfl,h2,G⟩;exact cE.of (G _ _ e3)
   ·rintro j y LQ H2 hj ⟨a6,rfl,h2,G⟩;have ad:j<ds.length:=by
     have:=(Md.mp hj).1;rw[r3.len,LU] at this;exact this
    have a4:ds[j]?=some ds[j]:=by simp[ad]
    generalize ds[j]=dd at a4;obtain⟨v,hv,rd⟩:=r3.get (i:=j) (d:=eN dd) (by rw[L6,a4];rfl);rw[hj] at hv;cases hv;obtain⟨dp,rfl,ae⟩:=oF rd;have Y:=G _ _ ae;obtain⟨zs,ez,a1,a3⟩:=Ci dd;rw[ez] at Y;obtain⟨s,hs,ks⟩:=GD.at_ dd;have a7:=xn (f:=hV) a4;have aa:((ds.take (j+1)).flatMap hV).length<=(ds.flatMap hV).length:=qb (f:=hV) (j+1);refine dW ?_;refine⟨_,rfl,.inl ⟨rfl,_,cN.of h2⟩,_,rfl,_,rfl,dp,_,0,_,rfl,rfl,cE.of Y,eG,_,s,rfl,hs,dp,s,_,zs,kD dd, "name",rfl,Y,.inr ks,a1,λ l H3 J s3=>?_⟩;rw[a3] at J;have h3:=s3 _ _ h2;exists nm,l,_,_,rfl,rfl,h3,J,?_
    ·rw[LU,LU,LY];rw[a7,LY] at aa;exact Ma (show _<=4000 by omega) ⋯
    ·refine⟨_,rfl,?_,(G.trans s3).put nn⟩;rw[cu,a7,<-MK];simp only[L4]
   ·rintro LQ H2 ⟨a6,rfl,h2,G⟩;rw[show ws.length=ds.length by rw[r3.len,LU],Mn] at h2;have a0:=G _ _ e4;obtain⟨zs,ez,a1,a3⟩:=Cj e;rw[ez] at a0;obtain⟨s,hs,ks⟩:=GE.at_ e;refine⟨_,rfl,.inl ⟨rfl,_,cN.of h2⟩,_,rfl,_,rfl,ea,_,0,_,rfl,rfl,cE.of a0,eG,_,s,rfl,hs,ea,s,_,zs,kE e, "name",rfl,a0,.inr ks,a1,λ l H3 J s3=>?_⟩;rw[a3] at J;have h3:=s3 _ _ h2;exists nm,l,_,_,rfl,rfl,h3,J,?_
    ·rw[LU,LU,LY];exact Ma (show _<=4000 by omega) ⋯
    ·refine⟨_,_,_,rfl,?_,(G.trans s3).put nn⟩;rw[cu,<-L4];unfold eO at D ⊢;rw[D];simp only[pNames,MK]
  ·rintro LQ H1 ⟨u1,u2,u3,rfl,h1,s1⟩;rw[show vs.length=ps.length by rw[hl,LU],Mn] at h1;have hk:cN K H1 nm (((eO ps).map (Sum.inr:Str->Key)).map kV):=by rw[Ic];exact cN.of h1
   refine⟨_,rfl,nm,(eO ps).map Sum.inr,rfl,hk,(by rw[LU];show _+1<4096;omega),λ sa ab=>?_⟩;have hf:=FY ac;refine⟨sa,LS.gS (eO ps),rfl,(by rw[cu,Ck]),⋯,λ l ss N a2 hn=>?_⟩;have G:=cy.new (o:=fJ P w sa (LS.gS ((eO ps).map (Sum.inr:Str->Key)))) ab;refine⟨l,_,rfl,.inl ⟨cN.of cu,λ t ht=>?_⟩⟩;exact q t ss _ cu N a2 (by rw[N.length_eq];omega) (((s1.trans G).trans (cy.new hn)).trans (cy.new ht))
theorem CK {fd:FuncData} (F:eC K "lies_in" "lies_in" rE f fd) (Z:Bl mg)  : dB P w K mg base d7 1 f fd ["number", "stretch"] (AX K):=by
 refine F.ok (k:=0) pL (λ vs H Q E h=>?_) (λ D A outer s H vs Q E G h=>?_)
 ·obtain⟨n,q,lo,hi,rfl,_⟩:=h;rfl
 ·obtain⟨n,q,lo,hi,rfl,hq,k⟩:=h;refine⟨_,(cw (fz (pv 1) (fw rfl (cR (cJ (i:=2) pL.nd) (cR (cJ (i:=3) pL.nd) eX))))
   (cB (cK (C1 (Bu (C0 (j9 (pv 2))) (qx (kM Bz (pv 2) (pv 0) (cX _)))) (qx (Bu (C0 (j9 (pv 3))) (qx (kM Bz (pv 0) (pv 3) (cX _))))))))),?_⟩
  exists _,rfl,q,_,rfl,hq,rfl,_,_,rfl,_,_,rfl,rfl;cases lo with
  | none =>
   refine⟨_,rfl,_,rfl,eI ⟨_,rfl,eI ?_⟩⟩;cases hi with
   | none=>exact⟨_,rfl,_,rfl,eI k⟩
   | some b =>
    refine⟨_,rfl,_,rfl,fB ⟨_,rfl,_,rfl,_,_,rfl,rfl,?_⟩⟩;simpa only [nE,N0] using k
  | some a =>
   refine⟨_,rfl,_,rfl,fB ⟨_,rfl,_,rfl,_,_,rfl,rfl,_,rfl,?_⟩⟩;cases hx:decide (a<=n) with
   | false=>exact fB (by have B:=k;simp only[nE,hx,NR] at B;exact B)
   | true =>
    refine eI ?_;cases hi with
    | none=>exact⟨_,rfl,_,rfl,eI (by have B:=k;simp only[nE,hx,N0] at B;exact B)⟩
    | some b =>
     refine⟨_,rfl,_,rfl,fB ⟨_,rfl,_,rfl,_,_,rfl,rfl,?_⟩⟩;have B:=k;simp only[nE,hx,N0] at B;exact B
theorem yd {fd:FuncData} (F:eC K "part_below" "part_below" m8 f fd) (Z:Bl mg)  : dB P w K mg base d7 1 f fd ["stretch", "number"] (qX K jn):=by
 refine F.ok (k:=0) jP (λ vs H Q E h=>?_) (λ J A outer s H vs Q E N h=>?_)
 ·obtain⟨p,n,lo,hi,rfl,_⟩:=h;rfl
 ·obtain⟨p,n,lo,hi,rfl,hp,q⟩:=h;refine⟨_,(cw (fz (pv 0) (fw rfl (cR (cJ (i:=2) jP.nd) (cR (cJ (i:=3) jP.nd) eX))))
   (cw (cU (i:=4) jP.nd (gW (jm (j9 (pv 3))) (dt gJ (pv 1) cA) (cY (wO rfl) rfl Z.min Di (cS (pv 3) (dt gJ (pv 1) cA)))))
   (cw (dJ (PW.pt (qw (jm (vE (pv 2))) (oo (cP yg (pv 2) (pv 4) (cX _)))))
   (cB (cK mL))
   du)
   (cB (cK (dH (cS (pv 2) (pv 4)))))))),?_⟩
  exists _,rfl,p,_,rfl,hp,rfl,_,_,rfl,_,_,rfl,rfl;cases hi with
  | none =>
   refine⟨_,rfl,_,rfl,eI ⟨_,rfl,_,_,rfl,rfl,?_⟩⟩;cases lo with
   | none =>
    refine⟨_,rfl,_,rfl,fB (fB ⟨_,rfl,_,rfl,ln2,λ l G=>?_⟩)⟩;exact q _ _ ⟨l,rfl,cu⟩ (cy.new G)
   | some i =>
    refine⟨_,rfl,_,rfl,eI ⟨_,rfl,_,rfl,_,_,rfl,rfl,_,rfl,?_⟩⟩;refine fR (λ D=>?_) (λ D=>?_)
    ·have B:mf none n<i:=of_decide_eq_true D;exact q _ _ (by simp only[jn];rw[if_pos B];rfl) (cy.refl H)
    ·have B:¬mf none n<i:=λ z=>D (decide_eq_true z)
     refine⟨_,rfl,_,rfl,ln2,λ l G=>?_⟩;exact q _ _ (by simp only[jn];rw[if_neg B];exact⟨l,rfl,cu⟩) (cy.new G)
  | some j =>
   refine⟨_,rfl,_,rfl,fB ⟨_,rfl,_,rfl,_,_,rfl,rfl,_,_,rfl,?_⟩⟩;cases lo with
   | none =>
    refine⟨_,rfl,_,rfl,fB (fB ⟨_,rfl,_,rfl,ln2,λ l G=>?_⟩)⟩;exact q _ _ ⟨l,rfl,cu⟩ (cy.new G)
   | some i =>
    refine⟨_,rfl,_,rfl,eI ⟨_,rfl,_,rfl,_,_,rfl,rfl,_,rfl,?_⟩⟩;refine fR (λ D=>?_) (λ D=>?_)
    ·have B:mf (some j) n<i:=of_decide_eq_true D;exact q _ _ (by simp only[jn];rw[if_pos B];rfl) (cy.refl H)
    ·have B:¬mf (some j) n<i:=λ z=>D (decide_eq_true z)
     refine⟨_,rfl,_,rfl,ln2,λ l G=>?_⟩;exact q _ _ (by simp only[jn];rw[if_neg B];exact⟨l,rfl,cu⟩) (cy.new G)
theorem zO {fd:FuncData} (F:eC K "part_from" "part_from" nY f fd) (Z:Bl mg)  : dB P w K mg base d7 1 f fd ["stretch", "number"] (qX K jO):=by
 refine F.ok (k:=0) kq (λ vs H Q E h=>?_) (λ J A outer s H vs Q E N h=>?_)
 ·obtain⟨p,n,lo,hi,rfl,_⟩:=h;rfl
 ·obtain⟨p,n,lo,hi,rfl,hp,q⟩:=h;refine⟨_,(cw (fz (pv 0) (fw rfl (cR (cJ (i:=2) kq.nd) (cR (cJ (i:=3) kq.nd) eX))))
   (cw (cU (i:=4) kq.nd (gW (jm (j9 (pv 2))) (pv 1) (cY (wN rfl) rfl Z.max Dj (cS (pv 2) (pv 1)))))
   (cw (dJ (PW.pt (qw (jm (vE (pv 3))) (oo (cP yg (pv 4) (pv 3) (cX _)))))
   (cB (cK mL))
   du)
   (cB (cK (dH (cS (pv 4) (pv 3)))))))),?_⟩
  exists _,rfl,p,_,rfl,hp,rfl,_,_,rfl,_,_,rfl,rfl;cases lo with
  | none =>
   refine⟨_,rfl,_,rfl,eI ⟨_,rfl,?_⟩⟩;cases hi with
   | none =>
    refine⟨_,rfl,_,rfl,fB (fB ⟨_,rfl,_,rfl,ln2,λ l G=>?_⟩)⟩;exact q _ _ ⟨l,rfl,cu⟩ (cy.new G)
   | some j =>
    refine⟨_,rfl,_,rfl,eI ⟨_,rfl,_,rfl,_,_,rfl,rfl,_,rfl,?_⟩⟩;refine fR (λ D=>?_) (λ D=>?_)
    ·have B:j<jY none n:=of_decide_eq_true D;exact q _ _ (by simp only[jO];rw[if_pos B];rfl) (cy.refl H)
    ·have B:¬j<jY none n:=λ z=>D (decide_eq_true z)
     refine⟨_,rfl,_,rfl,ln2,λ l G=>?_⟩;exact q _ _ (by simp only[jO];rw[if_neg B];exact⟨l,rfl,cu⟩) (cy.new G)
  | some i =>
   refine⟨_,rfl,_,rfl,fB ⟨_,rfl,_,rfl,_,_,rfl,?_⟩⟩;cases hi with
   | none =>
    refine⟨_,rfl,_,rfl,fB (fB ⟨_,rfl,_,rfl,ln2,λ l G=>?_⟩)⟩;exact q _ _ ⟨l,rfl,cu⟩ (cy.new G)
   | some j =>
    refine⟨_,rfl,_,rfl,eI ⟨_,rfl,_,rfl,_,_,rfl,rfl,_,rfl,?_⟩⟩;refine fR (λ D=>?_) (λ D=>?_)
    ·have B:j<jY (some i) n:=of_decide_eq_true D;exact q _ _ (by simp only[jO];rw[if_pos B];rfl) (cy.refl H)
    ·have B:¬j<jY (some i) n:=λ z=>D (decide_eq_true z)
     refine⟨_,rfl,_,rfl,ln2,λ l G=>?_⟩;exact q _ _ (by simp only[jO];rw[if_neg B];exact⟨l,rfl,cu⟩) (cy.new G)
theorem CL {fd:FuncData} (F:eC K "part_at" "part_at" rF f fd) (Z:Bl mg) (B:Own P w K mg base "lies_in" 1 ["number", "stretch"] (AX K)):dB P w K mg base d7 2 f fd ["stretch", "number"] (qX K sV):=by
 refine F.ok (k:=1) CF (λ vs H Q E h=>?_) (λ N A outer s H vs Q E G h=>?_)
 ·obtain⟨p,n,lo,hi,rfl,_⟩:=h;rfl
 ·obtain⟨p,n,lo,hi,rfl,hp,q⟩:=h;refine⟨_,(cw (dJ (qv (cH B G (cS (pv 1) (pv 0))))
   (cB (cK (dH (cS (pv 1) (pv 1)))))
   du)
   (cB (cK mL))),?_⟩
  exists _,rfl,_,rfl,n,p,lo,hi,rfl,hp,_,rfl;refine fR (λ D=>?_) (λ D=>?_)
  ·refine⟨_,rfl,_,rfl,ln2,λ l J=>?_⟩;exact q _ _ (by simp only[sV,if_pos D];exact⟨l,rfl,cu⟩) (cy.new J)
  ·exact q _ _ (by simp only[sV,if_neg D];rfl) (cy.refl H)
theorem wH {fd:FuncData} (F:eC K "part_beside" "part_beside" mn f fd) (Z:Bl mg)  : dB P w K mg base d7 1 f fd ["stretch", "number"] (qX K kf):=by
 refine F.ok (k:=0) lq (λ vs H Q E h=>?_) (λ N A outer s H vs Q E Y h=>?_)
 ·obtain⟨p,n,lo,hi,rfl,_⟩:=h;rfl
 ·obtain⟨p,n,lo,hi,rfl,hp,q⟩:=h;refine⟨_,(cw (fz (pv 0) (fw rfl (cR (cJ (i:=2) lq.nd) (cR (cJ (i:=3) lq.nd) eX))))
   (cw (dJ (PW.pt (qw (cP eF (pv 2) (pv 1) (cX _)) (oo (cP eF (pv 3) (pv 1) (cX _)))))
   (cB (cK mL))
   du)
   (cw (dJ (cP eF (pv 2) (pv 1) (cX _))
   (cB (cK (dH (cS (dt fH (pv 1) cA) (pv 3)))))
   du)
   (cw (dJ (cP eF (pv 3) (pv 1) (cX _))
   (cB (cK (dH (cS (pv 2) (dt gJ (pv 1) cA)))))
   du)
   (cB (cK (dH (cS (pv 2) (pv 3))))))))),?_⟩
  exists _,rfl,p,_,rfl,hp,rfl,_,_,rfl,_,_,rfl,rfl;exists _,rfl,_,rfl,qH,_,rfl;rw[uN];refine fR (λ J=>?_) (λ J=>?_)
  ·have D:lo=some n:=of_decide_eq_true J;exists _,rfl,_,rfl,qH,_,rfl;rw[uN];refine fR (λ hd=>?_) (λ hd=>?_)
   ·have B:hi=some n:=of_decide_eq_true hd;exact q _ _ (by simp only[kf,if_pos D,if_pos B];rfl) (cy.refl H)
   ·have B:¬hi=some n:=λ z=>hd (decide_eq_true z)
    exists _,rfl,_,rfl,qH,_,rfl;rw[uN,J];refine eI ⟨_,rfl,_,_,rfl,rfl,_,rfl,ln2,λ l G=>?_⟩;exact q _ _ (by simp only[kf,if_pos D,if_neg B];exact⟨l,rfl,cu⟩) (cy.new G)
  ·have D:¬lo=some n:=λ z=>J (decide_eq_true z)
   refine fB ?_;exists _,rfl,_,rfl,qH,_,rfl;rw[uN,show decide (lo=some n)=false from decide_eq_false D];refine fB ?_;exists _,rfl,_,rfl,qH,_,rfl;rw[uN];refine fR (λ hd=>?_) (λ hd=>?_)
   ·have B:hi=some n:=of_decide_eq_true hd;refine⟨_,rfl,_,rfl,_,_,rfl,rfl,ln2,λ l G=>?_⟩;exact q _ _ (by simp only[kf,if_neg D,if_pos B];exact⟨l,rfl,cu⟩) (cy.new G)
   ·have B:¬hi=some n:=λ z=>hd (decide_eq_true z)
    refine⟨_,rfl,_,rfl,ln2,λ l G=>?_⟩;exact q _ _ (by simp only[kf,if_neg D,if_neg B];exact⟨l,rfl,cu⟩) (cy.new G)
theorem CM {fd:FuncData} (F:eC K "part_of" "part_of" rG f fd) (Z:Bl mg) (D:Own P w K mg base "part_below" 1 ["stretch", "number"] (qX K jn)) (G:Own P w K mg base "part_from" 1 ["stretch", "number"] (qX K jO)) (J:Own P w K mg base "part_at" 2 ["stretch", "number"] (qX K sV)) (B:Own P w K mg base "part_beside" 1 ["stretch", "number"] (qX K kf)):dB P w K mg base d7 3 f fd ["stretch", "word", "number", "side"] (wa K):=by
 refine F.ok (k:=2) CG (λ vs H Q E h=>?_) (λ a0 A outer s H vs Q E Y h=>?_)
 ·obtain⟨p,w,n,side,lo,hi,rfl,_⟩:=h;rfl
 ·obtain⟨p,w,n,side,lo,hi,rfl,hp,q⟩:=h;refine⟨_,(cw (dJ (cP eF (pv 1) dA (cX _))
   (cB (cK (gW (qv (pv 3)) (cH D Y (cS (pv 0) (pv 2))) (cH G Y (cS (pv 0) (pv 2))))))
   du)
   (cB (cK (gW (qv (pv 3)) (cH J Y (cS (pv 0) (pv 2))) (cH B Y (cS (pv 0) (pv 2))))))),?_⟩
  exists _,rfl,rfl,_,rfl;by_cases hw:w = "less"
  ·subst hw;rw[Dw];refine eI ⟨_,rfl,_,rfl,?_⟩;cases side with
   | true=>exact eI ⟨_,rfl,_,rfl,p,n,lo,hi,rfl,hp,λ v H1 r N=>q v H1 (by simp only[gF,lN,if_true];exact r) N⟩
   | false=>exact fB ⟨_,rfl,_,rfl,p,n,lo,hi,rfl,hp,λ v H1 r N=>q v H1 (by simp only[gF,lN,if_true,MZ,if_false];exact r) N⟩
  ·have e:decide (V.str w=V.str "less")=false:=decide_eq_false λ z=>hw (V.str.inj z)
   rw[e];refine fB ⟨_,rfl,_,rfl,?_⟩;cases side with
   | true=>exact eI ⟨_,rfl,_,rfl,p,n,lo,hi,rfl,hp,λ v H1 r N=>q v H1 (by simp only[gF,sW,if_neg hw,if_true];exact r) N⟩
   | false=>exact fB ⟨_,rfl,_,rfl,p,n,lo,hi,rfl,hp,λ v H1 r N=>q v H1 (by simp only[gF,sW,if_neg hw,MZ,if_false];exact r) N⟩
theorem Ac {fd:FuncData} (F:eC K "facts_of" "facts_of" pM f fd) (Z:Bl mg)  (GA:mh K mg aA)  : dB P w K mg base d7 1 f fd ["stretches"] (qP aA):=by
 refine F.ok (k:=0) z9 (λ vs H Q E h=>?_) (λ cdv A outer s H vs Q E hr h=>?_)
 ·obtain⟨d,kvs,ks,T,rfl,_⟩:=h;rfl
 ·obtain⟨d,kvs,ks,T,rfl,hd,tb,hl,q⟩:=h;exists _,(cB (cK (cZ cT rfl Z.tuple dI (cF (fL ["name"] ["stretches"] [0] rfl (kK (cY (y4 rfl) rfl Z.sorted nI (cF (pv 0)))) rfl ⋯ ⋯ ⋯ ⟨⟨rfl,.inl rfl,rfl⟩,True.intro⟩ (λ _ _ _ _=>(cJ (i:=0) (show ((["name"]:List Str)++(["stretches"]:List Str)).Nodup by decide) (hf:=Mg rfl))) (λ _ _ _ _=>(rT (cP (JV (aA:=aA) hr.units GA) (vJ (fM hr) (pv 1) (pv 0) (λ _ _=>rfl)) (j4 (v:=.ref aA) rfl GA.xj rfl) (cX _)))) (λ _ _ _ _=>(dH (cS (pv 0) (vJ (fM hr) (pv 1) (pv 0) (λ _ _=>rfl))))))))));refine⟨_,rfl,d,kvs,ks,rfl,hd,tb.keys,hl,λ l ss hp hs hn=>?_⟩;have srt:nK ss:=⟨xq hs,hp.nodup_iff.mpr tb.nd⟩;have hl1:(upd H l (.lst (ss.map V.str))) l=some (.lst (ss.map V.str)):=cu;have s1:cy H (upd H l (.lst (ss.map V.str))):=cy.new hn;have hssl:ss.length<64:=by rw[hp.length_eq];exact hl
  generalize (upd H l (.lst (ss.map V.str)))=H1 at hl1 s1;refine⟨l,rfl,⟨_,cN.of hl1⟩,λ acc na=>?_⟩;refine mJ (K:=K) (a:=l) (xs:=ss.map V.str) (λ i ys LR H'=>∃c:Option V,LR=[c,some (.ref d)]/\dh H' ys (((ss.take i).filter λ x=>!decide (T x=iI)).map (dF T))/\H' acc=some (.lst ys)/\cy H1 H') ?_ ?_ ?_ ?_
  ·exact⟨none,rfl,.nil,cu,cy.new na⟩
  ·rintro i ys LR H2 hi ⟨c,rfl,r,ha,s2⟩;exists cN.of (s2 _ _ hl1),ha;have h1:=r.len;rw[LU] at h1;have h2:=M9 (λ x=>!decide (T x=iI)) (ss.take i);have h3:=List.length_take_le i ss;have h4:(ss.take i).length<=ss.length:=by rw[Mu];omega
   exact cV ⋯
  ·rintro i x ys LR H2 hi ⟨c,rfl,r,ha,s2⟩;obtain⟨y,hy,rfl⟩:∃y,ss[i]?=some y/\x=V.str y:=by
    rw[L6] at hi;cases e:ss[i]? with
    | none=>rw[e] at hi;cases hi
    | some k=>rw[e] at hi;exact⟨k,rfl,(Mf.inj hi).symm⟩
   have hym:y∈ks:=hp.mem_iff.mp (L8 hy);have tk:ss.take (i+1)=ss.take i++[y]:=by rw[Mz,hy];rfl
   obtain⟨v,ev,sv,_⟩:∃v,fF kvs (Sum.inr y)=some v/\SV aA H v (T y)/\y∈ks:=by
    rcases tb.val y with ⟨_,_,c⟩ | h
    ·exact absurd hym c
    ·exact h
   have sv2:SV aA H2 v (T y):=sv.dr λ p xs e=>s2 _ _ (s1 _ _ e)
   have hd2:H2 d=some (.dK kvs):=s2 _ _ (s1 _ _ hd);have dg:fS H2 d (.str y) (some v):=by
    have:=fS.k (k:=Sum.inr y) hd2;rw[ev] at this;exact this
   refine dW ?_;exists _,rfl,_,rfl,d,v,rfl,dg,T y,sv2,rfl,_,rfl;by_cases hT:T y=iI
   ·refine dn (by rw[decide_eq_true hT];rfl) ?_;refine⟨_,rfl,?_,ha,s2⟩;rw[tk,NM,NP (by rw[decide_eq_true hT];decide),List.filter_nil,Nb];exact r
   ·refine eU (by rw[decide_eq_false hT];rfl) ?_;refine⟨_,rfl,_,rfl,_,rfl,d,v,rfl,dg,ln2,λ t nt=>?_⟩;have s3:=cy.new (o:=.tup [.str y,v]) nt;have ht:(upd H2 t (.tup [.str y,v])) t=some (.tup [.str y,v]):=cu;generalize (upd H2 t (.tup [.str y,v]))=H3 at s3 ht;have sh:SH H3 v (T y):=by
     rcases sv2 with h | ⟨_,h⟩
     ·exact h.dr λ p xs e=>s3 _ _ e
     ·exact absurd h hT
    have ha3:=s3 _ _ ha;refine⟨ha3,_,rfl,?_,cu,(s2.trans s3).put na⟩;rw[tk,NM,Od (by rw[decide_eq_false hT];rfl),List.filter_nil,L4];refine dh.app ((r.same s3 (so T _)).put ha3 (so T _)) ?_;refine cW.dr (H:=H3) (λ p zs e=>by rw[cx (dD e ha3 (by intro z;cases z))];exact e) (.tup ht (.cons (.str y) (.cons sh.rd .nil))) ?_;have:=so T [y];simpa [dQ] using this
  ·rintro ys LR H2 ⟨c,rfl,r,ha,s2⟩;rw[LU,Mn] at r;refine⟨acc,ys,rfl,.inl ⟨cN.of ha,λ t nt=>?_⟩⟩;refine q _ _ ⟨t,ys,_,rfl,cu,srt.filter _,λ x=>?_,r.same (cy.new nt) (so T _)⟩ ((s1.trans s2).trans (cy.new nt));rw[M4]
   constructor
   ·rintro⟨_,h⟩ e;rw[decide_eq_true e] at h;cases h
   ·intro h;refine⟨?_,by rw[decide_eq_false h];rfl⟩
    rcases tb.val x with ⟨_,a,_⟩ | ⟨_,_,_,a⟩
    ·exact absurd a h
    ·exact hp.mem_iff.mpr a
theorem GF {fd:FuncData} (F:eC K "known" "known" wx f fd) (Z:Bl mg)  (J:mh K mg aA)  : dB P w K mg base d7 1 f fd ["facts", "name"] (AW aA):=by
 refine F.ok (k:=0) GB (λ vs H Q E h=>?_) (λ Y A outer s H vs Q E hr h=>?_)
 ·obtain⟨fv,x,T,rfl,_⟩:=h;rfl
 ·obtain⟨fv,x,T,rfl,hf,q⟩:=h;exists _,(cB (cK (ib (fM hr) (cZ (ki rfl) rfl Z.dict sd (cF (pv 0))) (pv 1) (j4 (v:=.ref aA) rfl J.xj rfl) ⟨rfl,rfl,rfl,rfl⟩)));obtain⟨fp,xs,ss,rfl,G,D,B,N⟩:=hf;obtain⟨kvs,l1,l2,l3,tb⟩:=FV.tb aA D B N;refine⟨_,rfl,fp,xs,kvs,rfl,G,l1,l2,l3,λ d nd=>?_⟩;obtain⟨v,ev,sv⟩:=tb.getD x;exact⟨d,rfl,.inl ⟨kvs,.inl cu⟩,_,rfl,_,v,fS.k (k:=Sum.inr x) cu,ev,q v _ (sv.dr λ p zs e=>cy.new nd _ _ e) (cy.new nd)⟩
theorem ye {fd:FuncData} (F:eC K "with_known" "with_known" m9 f fd) (Z:Bl mg)  (GA:mh K mg aA) (B:Own P w K mg base "facts_of" 1 ["stretches"] (qP aA)):dB P w K mg base d7 2 f fd ["facts", "name", "stretch"] (tm aA):=by
 refine F.ok (k:=1) ql (λ vs H Q E h=>?_) (λ a2 A outer s H vs Q E hr h=>?_)
 ·obtain⟨fv,sv,x,T,s,rfl,_⟩:=h;rfl
 ·obtain⟨fv,sv,x,T,s,rfl,hf,hs,er,q⟩:=h;refine⟨_,(cw (cU (i:=3) ql.nd (cZ (ki rfl) rfl Z.dict sd (cF (pv 0))))
   (cw (iP (fM hr) (pv 3) (pv 1) (pv 2) rfl)
   (cB (cK (cH B hr (cF (pv 3))))))),?_⟩
  obtain⟨fp,xs,ss,rfl,Y,G,D,rf⟩:=hf;obtain⟨kvs,l1,l2,l3,tb⟩:=FV.tb aA G D rf;have a1:ss.length<=62:=er ss (λ x hx=>(D x).mp hx) G.nd;have kl:kvs.length=ss.length:=by have:=congrArg Nc tb.keys;simpa using this
  refine⟨_,rfl,fp,xs,kvs,rfl,Y,l1,l2,l3,λ d nd=>?_⟩;have k1:∀p J,H p=some (.tup J)->(upd H d (.dK kvs)) p=some (.tup J):=λ p J e=>cy.new nd _ _ e
  exists _,rfl,_,rfl,_,rfl,d,_,rfl,jW.k (k:=Sum.inr x) cu (cV ⋯);obtain⟨N,t2,k2,m2⟩:=(tb.dr k1).put x (hs.dr k1);have a0:(upd H d (.dK kvs)) d=some (.dK kvs):=cu;refine⟨_,rfl,d,_,N,_,rfl,cu,t2.dr (λ p J e=>by rw[cx (dD e a0 (by intro z;cases z))];exact e),⋯,λ v H2 f2 s2=>q v H2 f2 (((cy.new nd).put nd).trans s2)⟩
theorem GG {fd:FuncData} (F:eC K "moved" "moved" wy f fd) (Z:Bl mg)  : dB P w K mg base d7 1 f fd ["stretch", "number"] (AS K):=by
 refine F.ok (k:=0) ue (λ vs H Q E h=>?_) (λ D A outer s H vs Q E G h=>?_)
 ·obtain⟨p,s,n,rfl,_⟩:=h;rfl
 ·obtain⟨p,s,n,rfl,hp,q⟩:=h;refine⟨_,(cw (fz (pv 0) (fw rfl (cR (cJ (i:=2) ue.nd) (cR (cJ (i:=3) ue.nd) eX))))
   (cB (cK (dH (cS (gW (jm (j9 (pv 2))) mL (dt fH (pv 2) (pv 1))) (gW (jm (j9 (pv 3))) mL (dt fH (pv 3) (pv 1)))))))),?_⟩
  obtain⟨lo,hi⟩:=s;exists _,rfl,p,_,rfl,hp,rfl,_,_,rfl,_,_,rfl,rfl;cases lo with
  | none =>
   refine⟨_,rfl,_,rfl,eI ?_⟩;cases hi with
   | none=>exact⟨_,rfl,_,rfl,eI ⟨ln2,λ t B=>q _ _ ⟨t,rfl,cu⟩ (cy.new B)⟩⟩
   | some b=>exact⟨_,rfl,_,rfl,fB ⟨_,rfl,_,rfl,_,_,rfl,rfl,ln2,λ t B=>q _ _ ⟨t,rfl,cu⟩ (cy.new B)⟩⟩
  | some a =>
   refine⟨_,rfl,_,rfl,fB ⟨_,rfl,_,rfl,_,_,rfl,rfl,?_⟩⟩;cases hi with
   | none=>exact⟨_,rfl,_,rfl,eI ⟨ln2,λ t B=>q _ _ ⟨t,rfl,cu⟩ (cy.new B)⟩⟩
   | some b=>exact⟨_,rfl,_,rfl,fB ⟨_,rfl,_,rfl,_,_,rfl,rfl,ln2,λ t B=>q _ _ ⟨t,rfl,cu⟩ (cy.new B)⟩⟩
theorem sM {fd:FuncData} (F:eC K "stretch_behind" "stretch_behind" j0 f fd) (Z:Bl mg)  (J:mh K mg aA) (G:Own P w K mg base "moved" 1 ["stretch", "number"] (AS K)):dB P w K mg base d7 2 f fd ["stretches", "deed"] (u9 aA):=by
  refine F.ok (k:=1) mz (λ vs H Q E h=>?_) (λ a1 A outer s H vs Q E Y h=>?_)
  . obtain⟨d,w,kvs,ks,T,dd,rfl,_⟩:=h
    rfl
  . obtain⟨d,w,kvs,ks,T,dd,rfl,hd,tb,D,q⟩:=h
    refine⟨_,(cw (fI (C2 (i:=2) (j:=3) rfl mz.nd rfl rfl ⋯ rfl rfl (cS (cI df (pv 1) cA) (cI df (pv 1) cA)) rfl))
      (cw (dJ (cP eF (pv 2) dA (cX _))
      (cB (cK (dH (cS (cI df (pv 1) cA) (cI df (pv 1) cA)))))
      du)
      (cw (dJ (cP eF (pv 2) dA (cX _))
      (cB (cK (ib (fM Y) (pv 0) (cI df (pv 1) cA) (j4 (v:=.ref aA) rfl J.xj rfl) ⟨rfl,rfl,rfl,rfl⟩)))
      du)
      (cw (dJ (cP eF (pv 2) dA (cX _))
      (cB (cK (cH G Y (cS (ib (fM Y) (pv 0) (pv 3) (j4 (v:=.ref aA) rfl J.xj rfl) ⟨rfl,rfl,rfl,rfl⟩) (cI df (pv 1) cA)))))
      du)
      (cw (dJ (cP eF (pv 2) dA (cX _))
      (cB (cK (j4 (v:=.ref aA) rfl J.xj rfl)))
      du)
      (cB (cK (ib (fM Y) (pv 0) (pv 3) (j4 (v:=.ref aA) rfl J.xj rfl) ⟨rfl,rfl,rfl,rfl⟩)))))))),?_⟩
    cases dd
    case put x n =>
      exists λ B H'=>B=[some (.ref d),some (.ref w),some (.str "put"),some (.str x)]/\H=H',⟨_,rfl,w,_,0,_,rfl,rfl,cE.of D,eG,_,rfl,w,_,1,_,rfl,rfl,cE.of D,gQ,_,_,rfl,rfl,rfl⟩;rintro B H' ⟨rfl,rfl⟩;exists _,rfl,rfl,_,rfl;refine eU (show decide (V.str "put" = V.str "put")=true by decide) ?_;exact⟨_,rfl,w,_,2,_,rfl,rfl,cE.of D,at2,_,rfl,w,_,2,_,rfl,rfl,cE.of D,at2,ln2,λ t nt=>q _ _ (.inl ⟨t,rfl,cu⟩) (cy.new nt)⟩
    case copy x y =>
      exists λ B H'=>B=[some (.ref d),some (.ref w),some (.str "copy"),some (.str x)]/\H=H',⟨_,rfl,w,_,0,_,rfl,rfl,cE.of D,eG,_,rfl,w,_,1,_,rfl,rfl,cE.of D,gQ,_,_,rfl,rfl,rfl⟩;rintro B H' ⟨rfl,rfl⟩;exists _,rfl,rfl,_,rfl;refine dn (show decide (V.str "copy" = V.str "put")=false by decide) ?_;exists _,rfl,rfl,_,rfl;refine eU (show decide (V.str "copy" = V.str "copy")=true by decide) ?_;obtain⟨v,N,sv⟩:=tb.getD y;exact⟨_,rfl,d,rfl,.inl ⟨kvs,.inl hd⟩,_,rfl,w,_,2,_,rfl,rfl,cE.of D,at2,_,v,fS.k (k:=Sum.inr y) hd,N,q _ _ sv (cy.refl H)⟩
    case add x n =>
      exists λ B H'=>B=[some (.ref d),some (.ref w),some (.str "add"),some (.str x)]/\H=H',⟨_,rfl,w,_,0,_,rfl,rfl,cE.of D,eG,_,rfl,w,_,1,_,rfl,rfl,cE.of D,gQ,_,_,rfl,rfl,rfl⟩;rintro B H' ⟨rfl,rfl⟩;exists _,rfl,rfl,_,rfl;refine dn (show decide (V.str "add" = V.str "put")=false by decide) ?_;exists _,rfl,rfl,_,rfl;refine dn (show decide (V.str "add" = V.str "copy")=false by decide) ?_;exists _,rfl,rfl,_,rfl;refine eU (show decide (V.str "add" = V.str "add")=true by decide) ?_;obtain⟨v,N,sv⟩:=tb.getD x;obtain⟨qa,rfl,a0⟩:=sv.sq J;exact⟨_,rfl,d,rfl,.inl ⟨kvs,.inl hd⟩,_,rfl,_,_,fS.k (k:=Sum.inr x) hd,N,_,rfl,w,_,2,_,rfl,rfl,cE.of D,at2,qa,T x,n,rfl,a0,λ v H' sh s1=>q _ _ (.inl sh) s1⟩
    case read x =>
      exists λ B H'=>B=[some (.ref d),some (.ref w),some (.str "read"),some (.str x)]/\H=H',⟨_,rfl,w,_,0,_,rfl,rfl,cE.of D,eG,_,rfl,w,_,1,_,rfl,rfl,cE.of D,gQ,_,_,rfl,rfl,rfl⟩;rintro B H' ⟨rfl,rfl⟩;exists _,rfl,rfl,_,rfl;refine dn (show decide (V.str "read" = V.str "put")=false by decide) ?_;exists _,rfl,rfl,_,rfl;refine dn (show decide (V.str "read" = V.str "copy")=false by decide) ?_;exists _,rfl,rfl,_,rfl;refine dn (show decide (V.str "read" = V.str "add")=false by decide) ?_;exists _,rfl,rfl,_,rfl;refine eU (show decide (V.str "read" = V.str "read")=true by decide) ?_;exact q _ _ (.inr ⟨rfl,rfl⟩) (cy.refl H)
    case tell x =>
      exists λ B H'=>B=[some (.ref d),some (.ref w),some (.str "tell"),some (.str x)]/\H=H',⟨_,rfl,w,_,0,_,rfl,rfl,cE.of D,eG,_,rfl,w,_,1,_,rfl,rfl,cE.of D,gQ,_,_,rfl,rfl,rfl⟩;rintro B H' ⟨rfl,rfl⟩;exists _,rfl,rfl,_,rfl;refine dn (show decide (V.str "tell" = V.str "put")=false by decide) ?_;exists _,rfl,rfl,_,rfl;refine dn (show decide (V.str "tell" = V.str "copy")=false by decide) ?_;exists _,rfl,rfl,_,rfl;refine dn (show decide (V.str "tell" = V.str "add")=false by decide) ?_;exists _,rfl,rfl,_,rfl;refine dn (show decide (V.str "tell" = V.str "read")=false by decide) ?_;obtain⟨v,N,sv⟩:=tb.getD x;exact⟨_,rfl,d,rfl,.inl ⟨kvs,.inl hd⟩,_,rfl,_,v,fS.k (k:=Sum.inr x) hd,N,q _ _ sv (cy.refl H)⟩
theorem EL {fd:FuncData} (F:eC K "behind" "behind" uf f fd) (Z:Bl mg)  (GA:mh K mg aA) (B:Own P w K mg base "stretch_behind" 2 ["stretches", "deed"] (u9 aA)) (D:Own P w K mg base "facts_of" 1 ["stretches"] (qP aA)):dB P w K mg base d7 3 f fd ["facts", "deeds"] xK:=by
 refine F.ok (k:=2) rH (λ vs H Q E h=>?_) (λ ac A outer s H vs Q E hr h=>?_)
 ·obtain⟨fv,p,ws,ds,T,J,rfl,_⟩:=h;rfl
 ·obtain⟨fv,p,ws,ds,T,J,rfl,hf,hp,r,tok,a8,ad,q⟩:=h;refine⟨_,(cw (cU (i:=2) rH.nd (cZ (ki rfl) rfl Z.dict sd (cF (pv 0))))
   (cw (gu PassesOwn.never rfl (hH (pv 1)) (cJ (i:=3) rH.nd)
   (cB (iP (fM hr) (pv 2) (cI df (pv 3) cA) (cH B hr (cS (pv 2) (pv 3))) rfl)))
   (cB (cK (cH D hr (cF (pv 2))))))),?_⟩
  obtain⟨fp,xs,ss,rfl,a7,a4,a1,rf⟩:=hf;obtain⟨kvs,l1,l2,l3,tb⟩:=FV.tb aA a4 a1 rf;have a3:∀x∈ss,x∈J:=λ x hx=>tok.sup x ((a1 x).mp hx)
  refine⟨_,rfl,fp,xs,kvs,rfl,a7,l1,l2,l3,λ d nd=>?_⟩;have aa:Tb aA (upd H d (.dK kvs)) kvs ss T:=tb.dr λ p xs e=>cy.new nd _ _ e
  refine⟨_,rfl,p,rfl,⟨_,cE.of (cy.new nd _ _ hp)⟩,kL (K:=K) (a:=p) (xs:=ws) (λ i LQ H'=>∃(c:Option V) (kvs':List (Key×V)) (ks':List Str),LQ=[some (.ref fp),some (.ref p),some (.ref d),c]/\H' d=some (.dK kvs')/\Tb aA H' kvs' ks' (hX T (ds.take i))/\(∀y∈ks',y∈J)/\cy H H') ?_ ?_ ?_ ?_⟩
  ·exact⟨none,kvs,ss,rfl,cu,aa,a3,cy.new nd⟩
  ·rintro i LQ H1 hi ⟨c,G,N,rfl,h1,Y,k1,s1⟩;exact cE.of (s1 _ _ hp)
  ·rintro i x LQ H1 hi ⟨c,G,N,rfl,h1,Y,k1,s1⟩;have ab:i<ds.length:=by
    have:=(Md.mp hi).1;rw[r.len,LU] at this;exact this
   have a0:ds[i]?=some ds[i]:=by simp[ab]
   generalize ds[i]=dd at a0;obtain⟨v,hv,rd⟩:=r.get (i:=i) (d:=eN dd) (by rw[L6,a0];rfl);rw[hi] at hv;cases hv;obtain⟨dp,rfl,a2⟩:=oF rd;have tk:hX T (ds.take (i+1))=F5 (hX T (ds.take i)) dd:=by
    unfold hX;rw[Mz,a0,Option.toList_some,NO];rfl
   refine dW ?_;refine⟨_,rfl,_,rfl,d,dp,G,N,_,dd,rfl,h1,Y,s1 _ _ a2,λ v H2 sv s2=>?_⟩;have h2:=s2 _ _ h1;have kl:G.length=N.length:=by have:=congrArg Nc Y.keys;simpa using this
   have ae:=sub_len Y.nd k1;exists _,rfl,_,rfl,dp,_,1,_,rfl,rfl,cE.of (s2 _ _ (s1 _ _ a2)),FF dd,d,_,rfl,jW.k (k:=Sum.inr (si dd)) h2 (cV ⋯);obtain⟨a9,t2,_,k2⟩:=(Y.dr λ p xs e=>s2 _ _ e).put (si dd) sv;have a5:si dd∈J:=(a8 dd (L8 a0)).name;refine⟨_,_,a9,rfl,cu,?_,(λ y hy=>((k2 y).mp hy).elim (k1 y) λ e=>e ▸ a5),(s1.trans s2).put nd⟩;rw[tk];exact t2.dr λ p xs e=>by rw[cx (dD e h2 (by intro z;cases z))];exact e
  ·rintro LQ H1 ⟨c,G,N,rfl,h1,Y,k1,s1⟩;have a6:ws.length=ds.length:=by rw[r.len,LU]
   rw[a6,Mn] at Y;refine⟨_,rfl,d,G,N,_,rfl,h1,Y,(by have:=sub_len Y.nd k1;omega),λ v H2 f2 s2=>q v H2 f2 (s1.trans s2)⟩
theorem vr {fd:FuncData} (F:eC K "known_beyond" "known_beyond" lr f fd) (Z:Bl mg)  (GA:mh K mg aA) (cr:Own P w K mg base "ways_on" 3 ["end"] lU) (ii:Own P w K mg base "known" 1 ["facts", "name"] (AW aA)) (dL:Own P w K mg base "part_of" 3 ["stretch", "word", "number", "side"] (wa K)) (im:Own P w K mg base "with_known" 2 ["facts", "name", "stretch"] (tm aA)):dB P w K mg base d7 4 f fd ["facts", "end"] (zo aA):=by
  refine F.ok (k:=3) gf (λ vs H Q E h=>?_) (λ cdv A outer s H vs Q E hr h=>?_)
  . obtain⟨fv,ea,T,e,rfl,_⟩:=h
    rfl
  . obtain⟨fv,ea,T,e,rfl,hf,he,er,q⟩:=h
    refine⟨_,(cw (cU (i:=2) gf.nd (cH cr hr (cF (pv 1))))
      (cw (dJ (cP jh (cY cM rfl Z.len dU (cF (pv 2))) cA (cX _))
      (cB (cK (cZ cT rfl Z.tuple dI (cF (fL ["way"] ["facts"] [0] rfl (hH (pv 2)) rfl ⋯ ⋯ ⋯ ⟨⟨rfl,.inl rfl,rfl⟩,True.intro⟩ (λ _ _ _ _=>(cJ (i:=0) (show ((["way"]:List Str)++(["facts"]:List Str)).Nodup by decide) (hf:=Mg rfl))) (λ _ _ _ _=>fx) (λ _ _ _ _=>(pv 1)))))))
      du)
      (cw (fI (fz (dH (iJ (cI df (pv 1) cA) (cI df (pv 1) cA) (cI df (pv 1) cA))) (fw rfl (cR (cJ (i:=3) gf.nd) (cR (cJ (i:=4) gf.nd) (cR (cJ (i:=5) gf.nd) eX))))))
      (cw (cU (i:=6) gf.nd (cH ii hr (cS (pv 0) (pv 4))))
      (cw (iS (i:=7) ["side"] ["stretch", "word", "number"] [6,3,5] rfl gf.nd rfl rfl rfl (hH (dH (cS lK lK))) rfl ⋯ ⋯ ⋯ ⟨⟨rfl,.inl rfl,rfl⟩,⟨⟨rfl,.inl rfl,rfl⟩,⟨⟨rfl,.inl rfl,rfl⟩,True.intro⟩⟩⟩ (λ _ _ _ _=>(cJ (i:=0) (show ((["side"]:List Str)++(["stretch", "word", "number"]:List Str)).Nodup by decide) (hf:=Mg rfl))) (λ _ _ _ _=>fx) (λ _ _ _ _=>(cH dL hr (wu (pv 1) (pv 2) (pv 3) (pv 0)))))
      (cB (cK (cZ cT rfl Z.tuple dI (cF (fL ["part"] ["facts", "name"] [0,4] rfl (kK (pv 7)) rfl ⋯ ⋯ ⋯ ⟨⟨rfl,.inl rfl,rfl⟩,⟨⟨rfl,.inl rfl,rfl⟩,True.intro⟩⟩ (λ _ _ _ _=>(cJ (i:=0) (show ((["part"]:List Str)++(["facts", "name"]:List Str)).Nodup by decide) (hf:=Mg rfl))) (λ _ _ _ _=>fx) (λ _ _ _ _=>(gW (jm (j9 (pv 0))) mL (cH im hr (iJ (pv 1) (pv 2) (pv 0))))))))))))))),?_⟩
    refine⟨_,rfl,ea,e,rfl,he,λ wt H1 hw s1=>?_⟩;have he1:=s1 _ _ he;have hf1:=hf.same s1;exists _,rfl,wt,_,rfl,.inr (cE.of hw),_,_,rfl,rfl,_,rfl;by_cases hl:(cC e).length<2
    . refine eU (decide_eq_true (by rw[LU];omega)) ?_
      refine⟨_,rfl,wt,rfl,⟨_,cE.of hw⟩,λ acc na=>?_⟩;refine ke (K:=K) (a:=wt) (xs:=(cC e).map λ k=>V.int (k:Nat)) (λ i zs LR H'=>∃c:Option V,LR=[c,some fv]/\zs=NW i fv/\H' acc=some (.lst zs)/\cy H1 H') ?_ ?_ ?_ ?_
      . exact⟨none,rfl,rfl,cu,cy.new na⟩
      . rintro i zs LR H2 hi ⟨c,rfl,rfl,ha,s2⟩
        exists cE.of (s2 _ _ hw),ha;rw[Nl];rw[LU] at hi;exact cV ⋯
      . rintro i x zs LR H2 hi ⟨c,rfl,rfl,ha,s2⟩
        refine dW ?_;refine iw ?_;refine eI ?_;refine⟨_,rfl,ha,_,rfl,?_,cu,s2.put na⟩;rw[<-List.replicate_succ']
      . rintro zs LR H2 ⟨c,rfl,rfl,ha,s2⟩
        rw[LU] at ha;refine⟨acc,_,rfl,.inl ⟨cN.of ha,λ t nt=>?_⟩⟩;refine q t _ _ cu ?_ ((s1.trans s2).trans (cy.new nt));rw[Im hl];exact AZ (hf1.same (s2.trans (cy.new nt))) _
    . refine dn (decide_eq_false (by rw[LU];omega)) ?_
      cases e with
      | stop=>exact absurd (by show 0<2;omega) hl
      | go p=>exact absurd (by show 1<2;omega) hl
      | eM b x n p r =>
        exists λ σ' H'=>σ' = [some fv,some (.ref ea),some (.ref wt),some (.str (wT b)),some (.str x),some (.int n),none,none]/\cy H1 H',?_
        . refine⟨_,rfl,ea,_,0,_,rfl,rfl,cE.of he1,eG,_,rfl,ea,_,1,_,rfl,rfl,cE.of he1,gQ,_,rfl,ea,_,2,_,rfl,rfl,cE.of he1,at2,Ay,λ tt htt=>?_⟩
          exact⟨tt,_,rfl,cE.of cu,rfl,_,_,rfl,_,_,rfl,_,_,rfl,rfl,rfl,cy.new htt⟩
        rintro σ' H2 ⟨rfl,s2⟩;refine⟨_,rfl,_,rfl,fv,x,T,rfl,hf1.same s2,λ sv H3 hsv s3=>?_⟩;obtain⟨sp,rfl,hsp⟩:=hsv.sq GA;have s13:=s2.trans s3;refine⟨ln2,λ st hst=>⟨st,rfl,⟨_,cE.of cu⟩,λ acc na=>?_⟩⟩;have s4:=cy.new (o:=.tup [.bl true,.bl false]) hst;have hst4:(upd H3 st (.tup [.bl true,.bl false])) st=some (.tup [.bl true,.bl false]):=cu;generalize (upd H3 st (.tup [.bl true,.bl false]))=H4 at s4 hst4 na;refine ke (K:=K) (a:=st) (xs:=[.bl true,.bl false]) (λ i zs LR H'=>∃c:Option V,LR=[c,some (.ref sp),some (.str (wT b)),some (.int n)]/\tq H' zs ([jH T b x n true,jH T b x n false].take i)/\H' acc=some (.lst zs)/\cy H4 H') ?_ ?_ ?_ ?_
        . exact⟨none,rfl,.nil,cu,cy.new na⟩
        . rintro i zs LR H5 hi ⟨c,rfl,rv,ha,s5⟩
          exists cE.of (s5 _ _ hst4),ha;have h1:=Paired.length rv;rw[Mu] at h1;exact cV (by rw[h1];exact Ma (Nat.min_le_right _ _) (by show 2<=1000;decide))
        . rintro i y zs LR H5 hi ⟨c,rfl,rv,ha,s5⟩
          obtain⟨side,rfl,hsd⟩:∃side:Bool,y=.bl side/\[jH T b x n true,jH T b x n false][i]?=some (jH T b x n side):=by
            match i,hi with
            | 0,hi=>cases hi;exact⟨true,rfl,rfl⟩
            | 1,hi=>cases hi;exact⟨false,rfl,rfl⟩
            | i+2,hi=>simp at hi
          refine dW ?_;refine iw ?_;refine eI ?_;refine⟨_,rfl,_,rfl,_,rfl,_,rfl,sp,wT b,n,side,_,_,rfl,hsp.same (s4.trans s5),λ v H6 r6 s6=>?_⟩;have ha6:=s6 _ _ ha;refine⟨ha6,_,rfl,?_,cu,(s5.trans s6).put na⟩;rw[Mz,hsd];exact jF ((rv.same s6).put ha6) (.cons (RV.put r6 ha6) .nil)
        . rintro zs LR H5 ⟨c,rfl,rv,ha,s5⟩
          have s15:=s13.trans (s4.trans s5);have rv:tq H5 zs [jH T b x n true,jH T b x n false]:=rv;have rvl:zs.length=2:=Paired.length rv;refine⟨_,rfl,acc,rfl,⟨_,cN.of ha⟩,λ ac2 na2=>?_⟩;refine mJ (K:=K) (a:=acc) (xs:=zs) (λ i us LR H'=>∃c:Option V,LR=[c,some fv,some (.str x)]/\qf H' us ((mi T (.eM b x n p r)).take i)/\H' ac2=some (.lst us)/\cy H5 H') ?_ ?_ ?_ ?_
          . exact⟨none,rfl,.nil,cu,cy.new na2⟩
          . rintro i us LR H6 hi ⟨c,rfl,bv,ha2,s6⟩
            exists cN.of (s6 _ _ ha),ha2;have h1:=Paired.length bv;rw[Mu] at h1;exact cV (by rw[h1];exact Ma (Nat.min_le_right _ _) (by show 2<=1000;decide))
          . rintro i y us LR H6 hi ⟨c,rfl,bv,ha2,s6⟩
            obtain⟨rs,hrs,hry⟩:=nO rv hi;have hb:(mi T (.eM b x n p r))[i]?=some (rs.map (je T x)):=by
              show ([jH T b x n true,jH T b x n false].map λ z:Rs=>Option.map (je T x) z)[i]?=_;rw[L6,hrs];rfl
            refine dW ?_;refine iw ?_;refine eI ?_;cases rs with
            | none =>
              cases (show y=V.eu from hry);refine⟨_,rfl,_,rfl,eI ?_⟩;refine⟨ha2,_,rfl,?_,cu,s6.put na2⟩;rw[Mz,hb];refine jF (bv.dr λ p zs e=>?_) (.cons rfl .nil);rw[cx (dD e ha2 (by intro z;cases z))];exact e
            | some s =>
              have hsv6:SV aA H6 y s:=RV.sv (hry.same s6);obtain⟨yp,rfl,hyp⟩:∃yp,y=.ref yp/\True:=by
                obtain⟨a1,b1⟩:=s;obtain⟨yp,e,_⟩:=hry;exact⟨yp,e,trivial⟩
              refine⟨_,rfl,_,rfl,fB ?_⟩;refine⟨_,rfl,_,rfl,_,rfl,fv,.ref yp,x,T,s,rfl,hf1.same (s13.trans (s4.trans (s5.trans s6))),hsv6,er,λ v H7 f7 s7=>?_⟩;have ha7:=s7 _ _ ha2;refine⟨ha7,_,rfl,?_,cu,(s6.trans s7).put na2⟩;rw[Mz,hb];have kt:∀p zs,H7 p=some (.tup zs)->(upd H7 ac2 (.lst (us++[v]))) p=some (.tup zs):=λ p zs e=>by rw[cx (dD e ha7 (by intro z;cases z))];exact e
              exact jF ((bv.same s7).dr kt) (.cons (FV.dr f7 kt) .nil)
          . rintro us LR H6 ⟨c,rfl,bv,ha2,s6⟩
            rw[rvl] at bv;refine⟨ac2,_,rfl,.inl ⟨cN.of ha2,λ t nt=>?_⟩⟩;exact q t _ _ cu (qf.same (show qf H6 us (mi T (.eM b x n p r)) from bv) (cy.new nt)) ((s1.trans (s15.trans s6)).trans (cy.new nt))
theorem GH {fd:FuncData} (F:eC K "leads" "leads" wz f fd) (Z:Bl mg) (io:Own P w K mg base "known_beyond" 4 ["facts", "end"] (zo aA)) (cr:Own P w K mg base "ways_on" 3 ["end"] lU):dB P w K mg base d7 5 f fd ["facts", "end"] (AY aA):=by
 refine F.ok (k:=4) zL (λ vs H Q E h=>?_) (λ cdv A outer s H vs Q E hr h=>?_)
 ·obtain⟨fv,ea,T,e,rfl,_⟩:=h;rfl
 ·obtain⟨fv,ea,T,e,rfl,hf,he,er,q⟩:=h;refine⟨_,(cw (cU (i:=2) zL.nd (cH io hr (cS (pv 0) (pv 1))))
   (cB (cK (cZ cT rfl Z.tuple dI (cF (fL ["way", "there"] [] [] rfl (DL rfl Z.zip (cS (cH cr hr (cF (pv 1))) (pv 2))) rfl ⋯ ⋯ ⋯ True.intro (λ _ _ _ _=>(oz (K:=K) (n:=2) rfl (fw (n:=2) rfl (cR (cJ (i:=0) (show ((["way", "there"]:List Str)++([]:List Str)).Nodup by decide) (hf:=Mg rfl)) (cR (cJ (i:=1) (show ((["way", "there"]:List Str)++([]:List Str)).Nodup by decide) (hf:=Mg rfl)) eX))))) (λ _ _ _ _=>(rT (jm (vE (pv 1))))) (λ _ _ _ _=>(dH (cS (pv 0) (pv 1)))))))))),?_⟩
  refine⟨_,rfl,_,rfl,fv,ea,T,e,rfl,hf,he,er,λ bt us H1 hb bv s1=>?_⟩;refine⟨_,rfl,ea,e,rfl,s1 _ _ he,λ wt H2 hw s2=>?_⟩;have hb2:=s2 _ _ hb;have bv2:=bv.same s2;refine⟨_,rfl,wt,bt,rfl,⟨_,cE.of hw⟩,⟨_,cE.of hb2⟩,λ acc na=>?_⟩;refine DM (K:=K) (a:=wt) (b:=bt) (xs:=(cC e).map λ k=>V.int (k:Nat)) (ys:=us) (λ i zs LR H'=>∃(c1 c2:Option V),LR=[c1,c2]/\qY H' zs ((((cC e).zip (mi T e)).take i).filterMap λ p=>p.2.map λ U=>(p.1,U))/\zs.length<=i/\H' acc=some (.lst zs)/\cy H2 H') ?_ ?_ ?_ ?_
  ·exact⟨none,none,rfl,.nil,LW _,cu,cy.new na⟩
  ·rintro i zs LR H3 hi ⟨c1,c2,rfl,pv,hz,ha,s3⟩;exists cE.of (s3 _ _ hw),cE.of (s3 _ _ hb2),ha;have h1:i<=(cC e).length:=by rw[LU] at hi;omega
   have h2:(cC e).length<=2:=by cases e<;>(show _<=2)<;>simp[cC]
   exact cV ⋯
  ·rintro i x y zs LR H3 u hx hy hu ⟨c1,c2,rfl,pv,hz,ha,s3⟩;obtain⟨k,hk,rfl⟩:∃k,(cC e)[i]?=some k/\x=V.int (k:Nat):=by
    rw[L6] at hx;cases z:(cC e)[i]? with
    | none=>rw[z] at hx;cases hx
    | some k=>rw[z] at hx;exact⟨k,rfl,(Mf.inj hx).symm⟩
   obtain⟨o,ho,hyo⟩:=nO bv2 hy;have hnext:=El (T:=T) hk ho;have su:=cy.new (o:=.tup [.int (k:Nat),y]) hu;have hu4:(upd H3 u (.tup [.int (k:Nat),y])) u=some (.tup [.int (k:Nat),y]):=cu;generalize (upd H3 u (.tup [.int (k:Nat),y]))=H4 at su hu4;exists u,_,rfl,cE.of hu4,rfl,_,_,rfl,_,_,rfl,rfl;exists _,rfl,_,rfl;cases o with
   | none =>
    cases (show y=V.eu from hyo);refine fB ?_;refine⟨_,_,rfl,?_,Mj hz,su _ _ ha,s3.trans su⟩;rw[hnext];simpa using pv.same su
   | some U =>
    obtain⟨yp,zsy,ssy,rfl,_⟩:=id hyo;refine eI ?_;refine⟨_,rfl,_,rfl,ln2,λ t nt=>?_⟩;have s5:=cy.new (o:=.tup [.int (k:Nat),.ref yp]) nt;have ht:(upd H4 t (.tup [.int (k:Nat),.ref yp])) t=some (.tup [.int (k:Nat),.ref yp]):=cu;generalize (upd H4 t (.tup [.int (k:Nat),.ref yp]))=H5 at s5 ht;have ha5:=s5 _ _ (su _ _ ha);have kt:∀p ws,H5 p=some (.tup ws)->(upd H5 acc (.lst (zs++[V.ref t]))) p=some (.tup ws):=λ p ws e=>by rw[cx (dD e ha5 (by intro z;cases z))];exact e
    refine⟨ha5,_,_,rfl,?_,(by rw[LY];show _+1<=_;omega),cu,(s3.trans (su.trans s5)).put na⟩;rw[hnext];exact jF ((pv.same (su.trans s5)).dr kt) (.cons ⟨t,.ref yp,rfl,kt _ _ ht,FV.dr (FV.same hyo (s3.trans (su.trans s5))) kt⟩ .nil)
  ·rintro zs LR H3 ⟨c1,c2,rfl,pv,hz,ha,s3⟩;have hm:min ((cC e).map λ k=>V.int (k:Nat)).length us.length=((cC e).zip (mi T e)).length:=by
    rw[List.length_zip,LU,Paired.length bv2]
   rw[hm,Mn] at pv;refine⟨acc,_,rfl,.inl ⟨cN.of ha,λ t nt=>?_⟩⟩;exact q t zs _ cu (qY.same (show qY H3 zs (gI T e) from pv) (cy.new nt)) (((s1.trans s2).trans s3).trans (cy.new nt))
theorem GI {fd:FuncData} (F:eC K "start" "start" wA f fd) (Z:Bl mg) (kw:Own P w K mg base "names_of" 3 ["plan"] xo):dB P w K mg base d7 4 f fd ["plan"] Ba:=by
 refine F.ok (k:=3) GC (λ vs H Q E h=>?_) (λ cdv A outer s H vs Q E hr h=>?_)
 ·obtain⟨plv,ps,xs,m,rfl,_⟩:=h;rfl
 ·obtain⟨plv,ps,xs,m,rfl,hp,pok,hx,hal,q⟩:=h;exists _,(cB (cK (cZ cT rfl Z.tuple dI (cF (fL ["name"] [] [] rfl (hH (cH kw hr (cF (pv 0)))) rfl ⋯ ⋯ ⋯ True.intro (λ _ _ _ _=>(cJ (i:=0) (show ((["name"]:List Str)++([]:List Str)).Nodup by decide) (hf:=Mg rfl))) (λ _ _ _ _=>fx) (λ _ _ _ _=>(dH (cS (pv 0) (dH (cS cA cA))))))))));refine⟨_,rfl,plv,ps,xs,m,rfl,hp,pok,hx,hal,λ nt ss H1 hnt hperm hsort hsl s1=>?_⟩;refine⟨nt,rfl,⟨_,cE.of hnt⟩,λ acc na=>?_⟩;refine ke (K:=K) (a:=nt) (xs:=ss.map V.str) (λ i zs LR H'=>∃c:Option V,LR=[c]/\dh H' zs ((ss.take i).map λ x=>.tuple [.str x,.tuple [.int 0,.int 0]])/\H' acc=some (.lst zs)/\cy H1 H') ?_ ?_ ?_ ?_
  ·exact⟨none,rfl,.nil,cu,cy.new na⟩
  ·rintro i zs LR H2 hi ⟨c,rfl,r,ha,s2⟩;exists cE.of (s2 _ _ hnt),ha;have h1:=r.len;rw[LU,Mu] at h1;exact cV ⋯
  ·rintro i x zs LR H2 hi ⟨c,rfl,r,ha,s2⟩;obtain⟨y,hy,rfl⟩:∃y,ss[i]?=some y/\x=V.str y:=by
    rw[L6] at hi;cases e:ss[i]? with
    | none=>rw[e] at hi;cases hi
    | some k=>rw[e] at hi;exact⟨k,rfl,(Mf.inj hi).symm⟩
   refine dW ?_;refine iw ?_;refine eI ?_;refine⟨_,rfl,ln2,λ t1 n1=>⟨ln2,λ t2 n2=>?_⟩⟩;have q1:=cy.new (o:=.tup [.int 0,.int 0]) n1;have q2:=cy.new (o:=.tup [.str y,.ref t1]) n2;have ha3:=q2 _ _ (q1 _ _ ha);have kt:∀p ws,(upd (upd H2 t1 (.tup [.int 0,.int 0])) t2 (.tup [.str y,.ref t1])) p=some (.tup ws)->(upd (upd (upd H2 t1 (.tup [.int 0,.int 0])) t2 (.tup [.str y,.ref t1])) acc (.lst (zs++[V.ref t2]))) p=some (.tup ws):=λ p ws e=>by rw[cx (dD e ha3 (by intro z;cases z))];exact e
   refine⟨ha3,_,rfl,?_,cu,((s2.trans q1).trans q2).put na⟩;rw[Mz,hy,L4];exact (((r.same q1 (j7 _)).same q2 (j7 _)).dr kt (j7 _)).app (.tup (kt _ _ cu) (.cons (.str _) (.cons (.tup (kt _ _ (q2 _ _ cu)) (.cons (.int _) (.cons (.int _) .nil))) .nil)))
  ·rintro zs LR H2 ⟨c,rfl,r,ha,s2⟩;rw[LU,Mn] at r;refine⟨acc,_,rfl,.inl ⟨cN.of ha,λ t ht=>?_⟩⟩;exact q (.ref t) ss _ (.tup cu (r.same (cy.new ht) (j7 _))) hperm hsort ((s1.trans s2).trans (cy.new ht))
theorem vt {fd:FuncData} (F:eC K "__init__" "Row.__init__" lu f fd) (Z:Bl mg) {CR:Addr} (TR:v7 K CR)  : dB P w K mg base d7 1 f fd ["self", "first"] (Bp (pG P w CR) (qT CR)):=by
 refine F.ok (k:=0) vo (λ vs H Q E h=>?_) (λ cdv A outer s H vs Q E hr h=>?_)
 ·rcases h with h | h
  ·obtain⟨r,dx,k,d0,rfl,_⟩:=h;rfl
  ·obtain⟨r,dx,k,rfl,_⟩:=h;rfl
 ·rcases h with h | h
  ·obtain⟨r,dx,k,d0,rfl,hr0,hk,rd,nl,q⟩:=h;refine⟨_,(cw (iA (pv 0) (fh (cF (pv 1))) rfl)
   (cB (iA (pv 0) (Gb (q9 hr) (kP (pv 1) cA rY) rfl rfl (Oh _ _) (by show 1<=15;decide)) rfl))),?_⟩
   refine⟨_,rfl,Ax,λ m nm=>?_⟩;have s1:=cy.new (o:=.lst [.ref k]) nm;have hm1:(upd H m (.lst [.ref k])) m=some (.lst [.ref k]):=cu;have nrm:r≠m:=cD hr0 nm;have rd1:=rd.same s1 nl;generalize (upd H m (.lst [.ref k]))=H1 at s1 hm1 rd1;have hr1:=s1 _ _ hr0;exists _,rfl,r,CR,dx,_,rfl,hr1,TR.cl,TR.members,(by show 0<1000;decide);have kt1:∀p zs,H1 p=some (.tup zs)->∀o,(upd H1 r o) p=some (.tup zs):=λ p zs e o=>by rw[cx (dD e hr1 (by intro z;cases z))];exact e
   refine λ d nd=>?_
   have ndr:r≠d:=λ z=>by rw[<-z,cu] at nd;cases nd
   have nd1:H1 d=none:=by rw[cx ndr.symm] at nd;exact nd
   have ndm:d≠m:=λ z=>by rw[z,hm1] at nd1;cases nd1
   have kt2:∀p zs,H1 p=some (.tup zs)->∀o o',(upd (upd H1 r o) d o') p=some (.tup zs):=λ p zs e o o'=>by rw[cx (cD e nd1)];exact kt1 p zs e o
   exists _,rfl,cu,k,.int 0,d0,rfl,hk,rd1.dr (λ p zs e=>kt2 p zs e _ _) nl;exists _,rfl,r,CR,dx,_,rfl,(by rw[cx ndr,cx ndr,cu]),TR.cl,TR.places,(by rw[mF];show 1<1000;decide);refine q m d _ ⟨⟨dx,by rw[cu,mF,xx]⟩,?_,?_,λ p hp=>?_⟩ (λ c o e n=>?_) nm (s1.free nd1)
   ·rw[cx nrm.symm,cx ndm.symm,cx ndm.symm,cx nrm.symm];exact hm1
   ·rw[cx ndr.symm,cu];rfl
   ·rw[LX.mp hp];refine⟨hk,rd1.dr (λ p zs e=>?_) nl⟩;have hpr:p≠r:=dD e hr1 (by intro z;cases z);have hpd:p≠d:=cD e nd1;rw[cx hpr,cx hpd,cx hpd,cx hpr];exact e
   ·rw[cx n,cx (cD (s1 _ _ e) nd1),cx (cD (s1 _ _ e) nd1),cx n];exact s1 _ _ e
  ·obtain⟨r,dx,k,rfl,hr0,q⟩:=h;refine⟨_,(cw (iA (pv 0) (fh (cF (pv 1))) rfl)
   (cB (iA (pv 0) (vK (kP (pv 1) cA rY) rfl rfl (Oh _ _) (by show 1<=15;decide)) rfl))),?_⟩
   refine⟨_,rfl,Ax,λ m nm=>?_⟩;have s1:=cy.new (o:=.lst [.int (k:Nat)]) nm;have hm1:(upd H m (.lst [.int (k:Nat)])) m=some (.lst [.int (k:Nat)]):=cu;have nrm:r≠m:=cD hr0 nm;generalize (upd H m (.lst [.int (k:Nat)]))=H1 at s1 hm1;exists _,rfl,r,CR,dx,_,rfl,s1 _ _ hr0,TR.cl,TR.members,(by show 0<1000;decide);refine λ d nd=>?_
   have ndr:r≠d:=λ z=>by rw[<-z,cu] at nd;cases nd
   have nd1:H1 d=none:=by rw[cx ndr.symm] at nd;exact nd
   have ndm:d≠m:=λ z=>by rw[z,hm1] at nd1;cases nd1
   exists _,rfl,cu,[(Sum.inl (k:Int),.int 0)],rfl,(by show 1<=15;decide);exists _,rfl,r,CR,dx,_,rfl,(by rw[cx ndr,cx ndr,cu]),TR.cl,TR.places,(by rw[mF];show 1<1000;decide);refine q m d _ ⟨⟨dx,by rw[cu,mF,xx]⟩,?_,?_⟩ (λ c o e n=>?_) nm (s1.free nd1)
   ·rw[cx nrm.symm,cx ndm.symm,cx ndm.symm,cx nrm.symm];exact hm1
   ·exists _,by rw[cx ndr.symm,cu],?_
    ·exact LW 1
    ·intro j;show fF [((Sum.inl (k:Int):Key),V.int 0)] (Sum.inl (j:Int))=_;by_cases e:j=k
     ·subst e;rw[gy rfl,if_pos (LX.mpr rfl)];simp
     ·rw[gB (λ z:(Sum.inl (k:Int):Key)=Sum.inl (j:Int)=>e (by have:=Sum.inl.inj z;omega)),if_neg (λ z=>e (LX.mp z))];rfl
   ·rw[cx n,cx (cD (s1 _ _ e) nd1),cx (cD (s1 _ _ e) nd1),cx n];exact s1 _ _ e
theorem vw {fd:FuncData} (F:eC K "place_of" "Row.place_of" lB f fd) (Z:Bl mg) {CR:Addr} (B:v7 K CR)  : dB P w K mg base d7 1 f fd ["self", "thing"] (Bp (pH P w CR) (qU CR)):=by
  refine F.ok (k:=0) vp (λ vs H Q E h=>?_) (λ ab A outer s H vs Q E hr h=>?_)
  . rcases h with h | h
    . obtain⟨r,m,d,k,G,ms,rfl,_⟩:=h
      rfl
    . obtain⟨r,m,d,k,ms,rfl,_⟩:=h
      rfl
  . rcases h with h | h
    . obtain⟨r,m,d,k,G,ms,rfl,A,a8,hk,rd,nl,a9,q⟩:=h
      refine⟨_,(cw (dJ (cP (ve (q9 hr)) (pv 1) (dZ (pv 0) rfl) (by with_unfolding_all rfl))
      (cw (fz (cY cM rfl Z.len dU (cF (dZ (pv 0) rfl))) (oq (dZ (pv 0) rfl) (pv 1) (zi (q9 hr))))
      (cB (eJ (gr PySem.F.plainAttrs_list PySem.F.slot_list_append PySem.F.type_list_append fo (dZ (pv 0) rfl) (cF (pv 1))))))
      du)
      (cB (cK (Ih (q9 hr) (dZ (pv 0) rfl) (pv 1) (λ _ _=>rfl))))),?_⟩
      obtain⟨J,D⟩:=A.ob;obtain⟨n1,n2,n3⟩:=A.xf;have a3:(ms.map λ p=>V.ref p.2).length=ms.length:=LU ..;have hv:=pE G 0 ms;exists _,rfl,_,rfl,r,CR,J,_,_,rfl,D,B.cl,B.places,iC,k,d,G,gn 0 ms,rfl,rfl,⟨A.lV,A.om,hk,rd⟩,_,rfl;by_cases hm:G∈ms.map (·.1)
      . rw[if_pos hm] at hv
        refine dn (by rw[hv];rfl) ?_;have e:pF ms G k=ms:=by unfold pF;rw[if_pos hm]
        rw[e] at q;exists _,rfl,r,CR,J,_,_,rfl,D,B.cl,B.places,iC,_,rfl,k,d,G,gn 0 ms,_,rfl,rfl,⟨A.lV,A.om,hk,rd⟩,hv;rw[Nat.zero_add];exact q H A jf.refl
      . rw[if_neg hm] at hv
        refine eU (by rw[hv];rfl) ?_;exists _,rfl,r,CR,J,_,_,rfl,D,B.cl,B.members,gH,m,_,rfl,.inl (cN.of A.mem),_,rfl,r,CR,J,_,_,rfl,D,B.cl,B.places,iC,_,rfl,k,d,G,gn 0 ms,rfl,rfl,⟨A.lV,A.om,hk,rd⟩,cV (by rw[tW];omega);have a4:putD (gn 0 ms) G k (.int ((ms.map λ p=>V.ref p.2).length:Nat))=gn 0 (ms++[(G,k)]):=by
          unfold putD;rw[hv,zr,a3,Nat.zero_add];rfl
        rw[a4]
        try change (_:Hp->Prop) (upd H d (gG P w d (gn 0 (ms++[(G,k)]))))
        have N:(upd H d (gG P w d (gn 0 (ms++[(G,k)])))) r=some (.ins CR J (pC (.ref m) (.ref d))):=by rw[cx n2];exact D
        have a0:(upd H d (gG P w d (gn 0 (ms++[(G,k)])))) m=some (.lst (ms.map λ p=>V.ref p.2)):=by rw[cx n3.symm];exact A.mem
        exists _,rfl,r,CR,J,_,_,rfl,N,B.cl,B.members,gH,.inl ⟨rfl,_,cN.of a0⟩,_,rfl,m,_,_,rfl,rfl,a0,cV ⋯;have e:pF ms G k=ms++[(G,k)]:=by unfold pF;rw[if_neg hm]
        rw[e] at q;have kt:∀p zs,H p=some (.tup zs)->∀o o',(upd (upd H d o) m o') p=some (.tup zs):=λ p zs h o o'=>by
          rw[cx (dD h A.mem (by intro z;cases z)),cx (dD h A.lV (by intro z;cases z))];exact h
        have keys:∀(H':Hp),(∀p zs,H p=some (.tup zs)->H' p=some (.tup zs))->∀p∈ms++[(G,k)],kj p.1/\cW H' (.ref p.2) p.1:=λ H' a6 p hp=>by
          rcases Mh.mp hp with hp | hp
          . exact⟨(A.keys p hp).1,(A.keys p hp).2.dr a6 (a9 p hp)⟩
          . rw[LX.mp hp];exact⟨hk,rd.dr a6 nl⟩
        have A2:km P w CR (upd (upd H d (gG P w d (gn 0 (ms++[(G,k)])))) m (.lst ((ms.map λ p=>V.ref p.2)++[.ref k]))) r m d (ms++[(G,k)]) :=
          ⟨⟨J,by rw[cx n1];exact N⟩,by rw[cu,L4];rfl,by rw[cx n3,cu],keys _ λ p zs h=>kt p zs h _ _⟩
        have a5:=pE G 0 (ms++[(G,k)]);rw[if_pos (by rw[L4];exact Mm _ (LX.mpr rfl)),Nat.zero_add] at a5;obtain⟨aa,Y⟩:=A2.ob;exists _,rfl,r,CR,aa,_,_,rfl,Y,B.cl,B.places,iC,_,rfl,k,d,G,_,_,rfl,rfl,⟨A2.lV,A2.om,hk,(A2.keys (G,k) (Mm _ (LX.mpr rfl))).2⟩,a5;exact q _ A2 λ c o h c1 c2=>by rw[cx c1,cx c2];exact h
    . obtain⟨r,m,d,k,ms,rfl,A,a8,q⟩:=h
      refine⟨_,(cw (dJ (jm (Dp (fM hr) (pv 1) (dZ (pv 0) rfl)))
      (cw (iP (fM hr) (dZ (pv 0) rfl) (pv 1) (cY cM rfl Z.len dU (cF (dZ (pv 0) rfl))) rfl)
      (cB (eJ (gr PySem.F.plainAttrs_list PySem.F.slot_list_append PySem.F.type_list_append fo (dZ (pv 0) rfl) (cF (pv 1))))))
      du)
      (cB (cK (vJ (fM hr) (dZ (pv 0) rfl) (pv 1) (λ _ _=>rfl))))),?_⟩
      obtain⟨J,D⟩:=A.ob;obtain⟨kvs,hd,ac,a2⟩:=A.lV;obtain⟨n1,n2,n3⟩:=A.xf;have a3:(vN ms).length=ms.length:=LU ..;exists _,rfl,_,rfl,r,CR,J,_,_,rfl,D,B.cl,B.places,iC,d,_,rfl,fS.k (k:=Sum.inl (k:Int)) hd,_,rfl;rw[a2 k];by_cases hk:k∈ms
      . rw[if_pos hk]
        refine fB ?_;have g:=fS.k (k:=Sum.inl (k:Int)) hd;rw[a2 k,if_pos hk] at g;have e:LS.putIn ms k=ms:=by unfold LS.putIn;rw[if_pos hk]
        rw[e] at q;exact⟨_,rfl,r,CR,J,_,_,rfl,D,B.cl,B.places,iC,_,rfl,d,_,rfl,g,q H A jf.refl⟩
      . rw[if_neg hk]
        refine eI ?_;exists _,rfl,r,CR,J,_,_,rfl,D,B.cl,B.members,gH,m,_,rfl,.inl (cN.of A.mem),_,rfl,r,CR,J,_,_,rfl,D,B.cl,B.places,iC,_,rfl,d,_,rfl,jW.k (k:=Sum.inl (k:Int)) hd (cV ⋯);have N:(upd H d (.dK (putK kvs (Sum.inl (k:Int)) (.int ((vN ms).length:Nat))))) r=some (.ins CR J (pC (.ref m) (.ref d))):=by rw[cx n2];exact D
        have a0:(upd H d (.dK (putK kvs (Sum.inl (k:Int)) (.int ((vN ms).length:Nat))))) m=some (.lst (vN ms)):=by rw[cx n3.symm];exact A.mem
        exists _,rfl,r,CR,J,_,_,rfl,N,B.cl,B.members,gH,.inl ⟨rfl,_,cN.of a0⟩,_,rfl,m,_,_,rfl,rfl,a0,cV ⋯;have e:LS.putIn ms k=ms++[k]:=by unfold LS.putIn;rw[if_neg hk]
        rw[e] at q;have Y:(upd (upd H d (.dK (putK kvs (Sum.inl (k:Int)) (.int ((vN ms).length:Nat))))) m (.lst (vN ms++[.int (k:Nat)]))) r=some (.ins CR J (pC (.ref m) (.ref d))):=by rw[cx n1];exact N
        have a7:(upd (upd H d (.dK (putK kvs (Sum.inl (k:Int)) (.int ((vN ms).length:Nat))))) m (.lst (vN ms++[.int (k:Nat)]))) d=some (.dK (putK kvs (Sum.inl (k:Int)) (.int ((vN ms).length:Nat)))):=by rw[cx n3,cu]
        have a1:∀j:Nat,fF (putK kvs (Sum.inl (k:Int)) (.int ((vN ms).length:Nat))) (Sum.inl (j:Int):Key)=if j∈ms++[k] then some (.int ((ms++[k]).idxOf j:Nat)) else none:=λ j=>by
          rw[o5];by_cases ej:j=k
          . subst ej
            rw[if_pos rfl,if_pos (by simp),Ii hk,a3]
          . rw[if_neg (λ z=>ej (by have:=Sum.inl.inj z;omega)),a2 j]
            by_cases hj:j∈ms
            . rw[if_pos hj,if_pos (by simp[hj]),Ij hj]
            . rw[if_neg hj,if_neg (by simp[hj,ej])]
        have g:=fS.k (k:=Sum.inl (k:Int)) a7;rw[a1 k,if_pos (by simp)] at g;refine⟨_,rfl,r,CR,J,_,_,rfl,Y,B.cl,B.places,iC,_,rfl,d,_,rfl,g,q _ ⟨⟨J,Y⟩,by rw[cu];show _=some (HO.lst ((ms++[k]).map _));rw[L4];rfl,_,a7,?_,a1⟩ λ c o h c1 c2=>?_⟩
        . have:=fY kvs (Sum.inl (k:Int):Key) (V.int ((vN ms).length:Nat))
          rw[LY];show _<=_+1;omega
        . rw[cx c1,cx c2];exact h
theorem CN {fd:FuncData} (F:eC K "reached" "reached" rK f fd) (Z:Bl mg) (J:Own P w K mg base "ways_on" 3 ["end"] lU):dB P w K mg base d7 4 f fd ["plan"] xA:=by
  refine eC.LK F (k:=3) kr (λ vs H Q E h=>?_) (λ aD A outer s H vs Q E ay hr h=>?_)
  . obtain⟨aC,ps,rfl,_⟩:=h
    rfl
  . obtain⟨aC,ps,rfl,hp,av,aw,hn,q⟩:=h
    refine⟨_,(cw (cU (i:=1) kr.nd (Iq ay cA))
      (cw (cU (i:=2) kr.nd (fh (cF cA)))
      (cw (mM PassesOwn.never (E8 (pv 2) (λ _=>rfl))
      (cw (cU (i:=3) kr.nd (Jz PySem.F.plainAttrs_list PySem.F.slot_list_pop PySem.F.type_list_pop JA (pv 2)))
      (cB (gu PassesOwn.never rfl (hH (cH J hr (cF (cI df (cI df (pv 0) (pv 3)) cA)))) (cJ (i:=4) kr.nd)
      (cB (dJ (cP Ed (pv 4) (pv 1) (by with_unfolding_all rfl))
      (cw (eJ (Ee PySem.F.slot_set_add PySem.F.type_set_add AQ (pv 1) (cF (pv 4))))
      (cB (eJ (gr PySem.F.plainAttrs_list PySem.F.slot_list_append PySem.F.type_list_append fo (pv 2) (cF (pv 4))))))
      du))))))
      (cB (cK (cZ cT rfl Z.tuple dI (cF (cY (p9 rfl) rfl Z.sorted nI (cF (pv 1)))))))))),?_⟩
    try dsimp only[mw,qm]
    refine yo ?_;intro D0 R3 R2 R1;obtain⟨pp,vs,rfl,e1,r1⟩:=cW.d9 hp;have as:=r1.len;rw[LU] at as;refine λ fs af=>?_
    exists cu,Sum.inl (0:Int),rfl
    try change (_:Hp->Prop) (upd (upd H fs (fJ P w fs [])) fs (fJ P w fs [Sum.inl (0:Int)]))
    rw[Hi];have s1:=cy.new (o:=fJ P w fs [Sum.inl (0:Int)]) af;have a5:(upd H fs (fJ P w fs [Sum.inl (0:Int)])) fs=some (fJ P w fs (kI [0])):=cu;generalize (upd H fs (fJ P w fs [Sum.inl (0:Int)]))=H1 at s1 a5;refine⟨Ax,λ G a6=>?_⟩;have s2:=cy.new (o:=.lst [.int 0]) a6;have ah:=s2 _ _ a5;have am:(upd H1 G (.lst [.int 0])) G=some (.lst (vN [0])):=cu;have ab:fs≠G:=cD a5 a6;have ar:H G=none:=s1.free a6;have ae:=s1.trans s2;generalize (upd H1 G (.lst [.int 0]))=H2 at s2 ah am ae;exists λ m LQ H'=>∃(ks ws:List Nat) (u1 u2:Option V),LQ=[some (.ref pp),some (.ref fs),some (.ref G),u1,u2]/\H' fs=some (fJ P w fs (kI ks))/\H' G=some (.lst (vN ws))/\Ct ps ks ws/\m=2*(ps.length-ks.length)+ws.length/\ws.length<=ks.length/\cy H H',⟨_,[0],[0],_,_,rfl,ah,am,⟨by simp,λ k hk=>by rw[LX.mp hk];exact aw,λ k hk=>by rw[LX.mp hk];exact .zero,by simp,λ k hk=>hk,λ k hk=>.inl hk⟩,rfl,LW _,ae⟩;rintro m LQ H3 ⟨ks,ws,u1,u2,rfl,an,a7,Y,hm,aG,s3⟩;have aF:=gO Y.nd Y.lt;exists _,rfl,!(vN ws).isEmpty,.inl ⟨_,cN.of a7,rfl⟩
    rcases (show ws=[]\/∃B at_,ws=B++[at_] from (List.eq_nil_or_concat ws).imp id λ ⟨a,b,h⟩=>⟨a,b,by rw[h,List.concat_eq_append]⟩) with rfl | ⟨B,at_,rfl⟩
    . refine dn rfl ?_
      refine⟨_,rfl,fs,ks.map (λ k:Nat=>(k:Int)),rfl,(by rw[an,Bc];rfl),(by rw[LU];omega),λ l ss a9 _ nl=>?_⟩;obtain⟨ms,rfl,a8⟩:=rh a9;refine⟨l,_,rfl,.inl ⟨cN.of cu,?_⟩⟩;rw[<-Ej];intro t nt;refine q t ms _ cu (λ k=>(a8.mem_iff).trans (Y.all k)) (λ k hk=>Y.lt k (a8.mem_iff.mp hk)) (by rw[a8.length_eq];omega) ((s3.trans (cy.new nl)).trans (cy.new nt))
    . have au:(B++[at_]).length=B.length+1:=by rw[LY];rfl
      have ad:vN (B++[at_])=vN B++[V.int (at_:Nat)]:=by show (B++[at_]).map _=_;rw[L4];rfl
      refine eU (by rw[ad];cases vN B<;>rfl) ?_;have ak:at_∈ks:=Y.sub at_ (Mm _ (LX.mpr rfl));have az:=Y.lt at_ ak;have a0:ps[at_]?=some ps[at_]:=by simp[az]
      generalize ps[at_]=pce at a0;obtain⟨ds,e⟩:=pce;obtain⟨p',aH,pc,da,ea,aE,ep,ai,aI,ax,e2,e3,r3,e4⟩:=gX hp a0;cases ep;rw[e1] at ai;cases ai;exists λ ag H'=>∃(D N:List Nat) (u1 u2:Option V),ag=[some (.ref pp),some (.ref fs),some (.ref G),u1,u2]/\H' fs=some (fJ P w fs (kI D))/\H' G=some (.lst (vN N))/\Ct ps D N/\2*(ps.length-D.length)+N.length<m/\N.length<=D.length/\cy H H',λ ag H' ⟨D,N,u1,u2,h1,h2,h3,h4,h5,h6,h7⟩=>⟨_,h5,D,N,u1,u2,h1,h2,h3,h4,rfl,h6,h7⟩;exists _,rfl,.inl ⟨rfl,_,cN.of a7⟩,G,_,.int (at_:Nat),rfl,rfl,a7,(by rw[ad];simp);have aB:(vN (B++[at_])).dropLast=vN B:=by rw[ad,List.dropLast_concat]
      rw[aB];have ac:(upd H3 G (.lst (vN B))) G=some (.lst (vN B)):=cu;have aa:(upd H3 G (.lst (vN B))) fs=some (fJ P w fs (kI ks)):=by rw[cx ab];exact an
      have s4:cy H (upd H3 G (.lst (vN B))):=s3.put ar;generalize (upd H3 G (.lst (vN B)))=H4 at ac aa s4;refine⟨_,rfl,_,rfl,pp,_,_,_,rfl,rfl,cE.of (s4 _ _ e1),dN ax,pc,_,1,_,rfl,rfl,cE.of (s4 _ _ e2),gQ,ea,e,rfl,s4 _ _ e4,λ wt H5 a2 s5=>?_⟩;refine⟨wt,rfl,⟨_,cE.of a2⟩,kL (K:=K) (a:=wt) (xs:=vN (cC e)) (λ i LQ H'=>∃(D add:List Nat) (u2:Option V),LQ=[some (.ref pp),some (.ref fs),some (.ref G),some (.int (at_:Nat)),u2]/\H' fs=some (fJ P w fs (kI D))/\H' G=some (.lst (vN (B++add)))/\D=ks++add/\D.Nodup/\(∀k∈D,k<ps.length)/\(∀k∈add,rg ps k)/\(∀k∈(cC e).take i,k∈D)/\(∀c o,H5 c=some o->c≠fs->c≠G->H' c=some o)) ?_ ?_ ?_ ?_⟩
      . exact⟨ks,[],_,rfl,s5 _ _ aa,by rw[Nb];exact s5 _ _ ac,by rw[Nb],Y.nd,Y.lt,(λ _ h=>nomatch h),(λ _ h=>by simp at h),λ c o h _ _=>h⟩
      . rintro i LQ H6 hi ⟨D,add,u2,rfl,h1,h2,rfl,h4,h5,h6,h7,h8⟩
        exact cE.of (h8 _ _ a2 (dD a2 (s5 _ _ aa) (by intro z;cases z)) (dD a2 (s5 _ _ ac) (by intro z;cases z)))
      . rintro i y LQ H6 hi ⟨D,add,u2,rfl,h1,h2,rfl,h4,h5,h6,h7,h8⟩
        obtain⟨k0,al,rfl⟩:∃k,(cC e)[i]?=some k/\y=V.int (k:Nat):=by
          rw[L6] at hi;cases z:(cC e)[i]? with
          | none=>rw[z] at hi;cases hi
          | some k=>rw[z] at hi;exact⟨k,rfl,(Mf.inj hi).symm⟩
        have a4:=L8 al;have aj:=kW av a0 k0 a4;have ao:(cC e).take (i+1)=(cC e).take i++[k0]:=by rw[Mz,al];rfl
        refine dW ?_;refine⟨_,rfl,_,rfl,fs,_,Sum.inl (k0:Int),rfl,h1,rfl,λ b hb=>⟨_,rfl,?_⟩⟩;rw[zu] at hb;by_cases hm0:k0∈ks++add
        . refine dn (by rw[hb.mpr hm0];rfl) ?_
          refine⟨ks++add,add,_,rfl,h1,h2,rfl,h4,h5,h6,λ k hk=>?_,h8⟩;rw[ao] at hk
          rcases Mh.mp hk with hk | hk
          . exact h7 k hk
          . rw[LX.mp hk];exact hm0
        . refine eU (by rw[Ow.mpr λ z=>hm0 (hb.mp z)];rfl) ?_
          have a1:=gO h4 h5;exists _,rfl,⟨fs,_,rfl,h1⟩,_,rfl,fs,_,Sum.inl (k0:Int),rfl,rfl,h1,(by rw[LU];exact Nm (show (ks++add).length+1<=1002 by omega) ⋯);rw[En,show LS.putIn (ks++add) k0=ks++(add++[k0]) by unfold LS.putIn;rw[if_neg hm0,MK]]
          try change (_:Hp->Prop) (upd H6 fs (fJ P w fs (kI (ks++(add++[k0])))))
          have ap:(upd H6 fs (fJ P w fs (kI (ks++(add++[k0]))))) G=some (.lst (vN (B++add))):=by rw[cx ab.symm];exact h2
          have aJ:(B++add).length<=200:=by
            rw[LY] at a1 ⊢;omega
          exists _,rfl,.inl ⟨rfl,_,cN.of ap⟩,_,rfl,G,_,_,rfl,rfl,ap,cV (by rw[LU];omega);refine⟨_,add++[k0],_,rfl,by rw[cx ab,cu],?_,rfl,?_,?_,?_,?_,λ c o h c1 c2=>by rw[cx c2,cx c1];exact h8 c o h c1 c2⟩
          . rw[cu]
            show _=some (HO.lst ((B++(add++[k0])).map _));rw[<-MK,L4];rfl
          . rw[<-MK,Nq]
            refine⟨h4,by simp,λ x hx y hy z=>?_⟩;rw[LX.mp hy] at z;exact hm0 (z ▸ hx)
          . intro k hk
            rw[<-MK] at hk
            rcases Mh.mp hk with hk | hk
            . exact h5 k hk
            . rw[LX.mp hk];exact aj
          . intro k hk
            rcases Mh.mp hk with hk | hk
            . exact h6 k hk
            . rw[LX.mp hk];exact .step (Y.J0 at_ ak) a0 a4
          . intro k hk
            rw[ao] at hk;rw[<-MK]
            rcases Mh.mp hk with hk | hk
            . exact MF _ (h7 k hk)
            . exact Mm _ hk
      . rintro LQ H6 ⟨D,add,u2,rfl,h1,h2,rfl,h4,h5,h6,h7,h8⟩
        rw[show (vN (cC e)).length=(cC e).length from LU ..,Mn] at h7;have a1:=gO h4 h5;refine⟨ks++add,B++add,_,_,rfl,h1,h2,⟨h4,h5,λ k hk=>?_,MF _ Y.zero,λ k hk=>?_,λ k hk=>?_⟩,?_,?_,λ c o h=>?_⟩
        . rcases Mh.mp hk with hk | hk
          . exact Y.J0 k hk
          . exact h6 k hk
        . rcases Mh.mp hk with hk | hk
          . exact MF _ (Y.sub k (MF _ hk))
          . exact Mm _ hk
        . rcases Mh.mp hk with hk | hk
          . by_cases hka:k=at_
            . subst hka
              refine .inr λ aq e' a3 j hj=>?_
              rw[a0] at a3;cases a3;exact h7 j hj
            . rcases Y.done k hk with hw | hd
              . rcases Mh.mp hw with hw | hw
                . exact .inl (MF _ hw)
                . exact absurd (LX.mp hw) hka
              . exact .inr λ aq e' a3 j hj=>MF _ (hd aq e' a3 j hj)
          . exact .inl (Mm _ hk)
        . rw[LY] at a1 ⊢
          rw[LY] at ⊢;rw[au] at hm;omega
        . rw[LY,LY]
          omega
        . exact h8 c o (s5 _ _ (s4 _ _ h)) (cD h af) (cD h ar)
theorem GJ {fd:FuncData} (F:eC K "heads" "heads" wB f fd) (Z:Bl mg) (G:Own P w K mg base "reached" 4 ["plan"] xA) (D:Own P w K mg base "ways_on" 3 ["end"] lU):dB P w K mg base d7 5 f fd ["plan"] Bd:=by
 refine F.ok (k:=4) pN (λ vs H Q E h=>?_) (λ ap A outer s H vs Q E hr h=>?_)
 ·obtain⟨an,ps,rfl,_⟩:=h;rfl
 ·obtain⟨an,ps,rfl,hp,ab,ak,hn,q⟩:=h;refine⟨_,(cw (cU (i:=1) pN.nd (BH Eb rfl Z.set Ea))
   (cw (gu PassesOwn.never rfl (hH (cH G hr (cF (pv 0)))) (cJ (i:=2) pN.nd)
   (cB (gu PassesOwn.never rfl (hH (cH D hr (cF (cI df (cI df (pv 0) (pv 2)) cA)))) (cJ (i:=3) pN.nd)
   (cB (dJ (cP Bz (pv 3) (pv 2) (cX _))
   (cB (eJ (Ee PySem.F.slot_set_add PySem.F.type_set_add AQ (pv 1) (cF (pv 3)))))
   du)))))
   (cB (cK (cZ cT rfl Z.tuple dI (cF (cY (p9 rfl) rfl Z.sorted nI (cF (pv 1))))))))),?_⟩
  try dsimp only[mw,qm]
  refine He ?_;intro D0 R2 R1;obtain⟨pp,vs,rfl,e1,r1⟩:=cW.d9 hp;have aj:=r1.len;rw[LU] at aj;refine⟨rfl,λ fs a7=>?_⟩
  try change (_:Hp->Prop) (upd H fs (fJ P w fs []))
  have s1:=cy.new (o:=fJ P w fs []) a7;have a8:(upd H fs (fJ P w fs [])) fs=some (fJ P w fs (kI [])):=cu;generalize (upd H fs (fJ P w fs []))=H1 at s1 a8;refine⟨_,rfl,_,ps,rfl,hp.same s1 (d6 ps),ab,ak,hn,λ t ks H2 ht af ao as s2=>?_⟩;have a1:=s2 _ _ a8;have a0:=s1.trans s2;refine⟨t,rfl,⟨_,cE.of ht⟩,kL (K:=K) (a:=t) (xs:=vN ks) (λ i LQ H'=>∃(N:List Nat) (u1 Y:Option V),LQ=[some (.ref pp),some (.ref fs),u1,Y]/\H' fs=some (fJ P w fs (kI N))/\N.Nodup/\(∀k∈N,k<ps.length)/\(∀k,k∈N↔∃j∈ks.take i,∃ds e,ps[j]?=some (ds,e)/\k∈cC e/\k<=j)/\(∀c o,H2 c=some o->c≠fs->H' c=some o)) ?_ ?_ ?_ ?_⟩
  ·exact⟨[],_,_,rfl,a1,Nr,(λ _ h=>nomatch h),λ k=>⟨λ h=>(nomatch h),λ ⟨j,hj,_⟩=>(by simp at hj)⟩,λ c o h _=>h⟩
  ·rintro i LQ H3 hi ⟨N,u1,Y,rfl,h1,h2,h3,h4,h5⟩;exact cE.of (h5 _ _ ht (dD ht a1 (by intro z;cases z)))
  ·rintro i y LQ H3 hi ⟨N,u1,Y,rfl,h1,h2,h3,h4,h5⟩;obtain⟨at_,ai,rfl⟩:∃k,ks[i]?=some k/\y=V.int (k:Nat):=by
    rw[L6] at hi;cases z:ks[i]? with
    | none=>rw[z] at hi;cases hi
    | some k=>rw[z] at hi;exact⟨k,rfl,(Mf.inj hi).symm⟩
   have ag:=ao at_ (L8 ai);have J:ps[at_]?=some ps[at_]:=by simp[ag]
   generalize ps[at_]=pce at J;obtain⟨ds,e⟩:=pce;obtain⟨p',ar,pc,da,ea,aq,ep,aa,au,al,e2,e3,r3,e4⟩:=gX hp J;cases ep;rw[e1] at aa;cases aa;have k3:∀p zs,H p=some (.tup zs)->H3 p=some (.tup zs):=λ p zs h=>h5 _ _ (a0 _ _ h) (dD (a0 _ _ h) a1 (by intro z;cases z))
   refine dW ?_;refine⟨_,rfl,_,rfl,pp,_,_,_,rfl,rfl,cE.of (k3 _ _ e1),dN al,pc,_,1,_,rfl,rfl,cE.of (k3 _ _ e2),gQ,ea,e,rfl,k3 _ _ e4,λ wt H5 a3 s5=>?_⟩;refine⟨wt,rfl,⟨_,cE.of a3⟩,kL (K:=K) (a:=wt) (xs:=vN (cC e)) (λ j LQ H'=>∃(B:List Nat) (Y:Option V),LQ=[some (.ref pp),some (.ref fs),some (.int (at_:Nat)),Y]/\H' fs=some (fJ P w fs (kI B))/\B.Nodup/\(∀k∈B,k<ps.length)/\(∀k,k∈B↔k∈N\/(k∈(cC e).take j/\k<=at_))/\(∀c o,H5 c=some o->c≠fs->H' c=some o)) ?_ ?_ ?_ ?_⟩
   ·exact⟨N,_,rfl,s5 _ _ h1,h2,h3,λ k=>⟨.inl,λ h=>h.elim id λ ⟨z,_⟩=>by simp at z⟩,λ c o h _=>h⟩
   ·rintro j LQ H6 hj ⟨B,Y,rfl,g1,g2,g3,g4,g5⟩;exact cE.of (g5 _ _ a3 (dD a3 (s5 _ _ h1) (by intro z;cases z)))
   ·rintro j y LQ H6 hj ⟨B,Y,rfl,g1,g2,g3,g4,g5⟩;obtain⟨k0,ae,rfl⟩:∃k,(cC e)[j]?=some k/\y=V.int (k:Nat):=by
     rw[L6] at hj;cases z:(cC e)[j]? with
     | none=>rw[z] at hj;cases hj
     | some k=>rw[z] at hj;exact⟨k,rfl,(Mf.inj hj).symm⟩
    have a6:=L8 ae;have ad:=kW ab J k0 a6;have ah:(cC e).take (j+1)=(cC e).take j++[k0]:=by rw[Mz,ae];rfl
    refine dW ?_;exists _,rfl,_,rfl,_,_,rfl,rfl,_,rfl;refine fR (λ hc=>?_) (λ hc=>?_)
    ·have a2:k0<=at_:=by have:=of_decide_eq_true hc;omega
     have ac:=gO g2 g3;exists _,rfl,⟨fs,_,rfl,g1⟩,_,rfl,fs,_,Sum.inl (k0:Int),rfl,rfl,g1,(by rw[LU];exact Nm (show B.length+1<=1002 by omega) ⋯);rw[En]
     try change (_:Hp->Prop) (upd H6 fs (fJ P w fs (kI (LS.putIn B k0))))
     refine⟨LS.putIn B k0,_,rfl,cu,zj g2,λ k hk=>?_,λ k=>?_,λ c o h c1=>by rw[cx c1];exact g5 c o h c1⟩
     ·rcases LS.jq.mp hk with hk | hk
      ·exact g3 k hk
      ·rw[hk];exact ad
     ·rw[LS.jq,g4,ah]
      constructor
      ·rintro ((h | ⟨h,h'⟩) | rfl)
       ·exact .inl h
       ·exact .inr ⟨MF _ h,h'⟩
       ·exact .inr ⟨Mm _ (LX.mpr rfl),a2⟩
      ·rintro (h | ⟨h,h'⟩)
       ·exact .inl (.inl h)
       ·rcases Mh.mp h with h | h
        ·exact .inl (.inr ⟨h,h'⟩)
        ·exact .inr (LX.mp h)
    ·have a2:¬k0<=at_:=λ z=>hc (decide_eq_true ⋯)
     refine⟨B,_,rfl,g1,g2,g3,λ k=>?_,g5⟩;rw[g4,ah]
     constructor
     ·rintro (h | ⟨h,h'⟩)
      ·exact .inl h
      ·exact .inr ⟨MF _ h,h'⟩
     ·rintro (h | ⟨h,h'⟩)
      ·exact .inl h
      ·rcases Mh.mp h with h | h
       ·exact .inr ⟨h,h'⟩
       ·rw[LX.mp h] at h';exact absurd h' a2
   ·rintro LQ H6 ⟨B,Y,rfl,g1,g2,g3,g4,g5⟩;rw[show (vN (cC e)).length=(cC e).length from LU ..,Mn] at g4;refine⟨B,_,_,rfl,g1,g2,g3,λ k=>?_,λ c o h c1=>g5 c o (s5 _ _ (h5 c o h c1)) c1⟩;rw[g4,h4,Mz,ai]
    constructor
    ·rintro (⟨j,hj,r⟩ | ⟨h,h'⟩)
     ·exact⟨j,MF _ hj,r⟩
     ·exact⟨at_,Mm _ (LX.mpr rfl),ds,e,J,h,h'⟩
    ·rintro⟨j,hj,am,e',a5,h,h'⟩
     rcases Mh.mp hj with hj | hj
     ·exact .inl ⟨j,hj,am,e',a5,h,h'⟩
     ·have hj:j=at_:=LX.mp hj;subst hj;rw[J] at a5;cases a5;exact .inr ⟨h,h'⟩
  ·rintro LQ H3 ⟨N,u1,Y,rfl,h1,h2,h3,h4,h5⟩;rw[show (vN ks).length=ks.length from LU ..,Mn] at h4;have ac:=gO h2 h3;refine⟨_,rfl,fs,N.map (λ k:Nat=>(k:Int)),rfl,(by rw[h1,Bc];rfl),(by rw[LU];omega),λ l ss a4 _ nl=>?_⟩;obtain⟨ms,rfl,a9⟩:=rh a4;refine⟨l,_,rfl,.inl ⟨cN.of cu,?_⟩⟩;rw[<-Ej];intro t' nt;have s3:cy H H3:=λ c o h=>h5 c o (a0 c o h) (cD h a7)
   refine q t' ms _ cu (λ k=>(a9.mem_iff).trans ((h4 k).trans ?_)) (by rw[a9.length_eq];omega) ((s3.trans (cy.new nl)).trans (cy.new nt))
   constructor
   ·rintro⟨j,hj,ds,e,r1,r2,r3⟩;exact⟨j,ds,e,(af j).mp hj,r1,r2,r3⟩
   ·rintro⟨j,ds,e,hj,r1,r2,r3⟩;exact⟨j,(af j).mpr hj,ds,e,r1,r2,r3⟩
theorem Ad {fd:FuncData} (F:eC K "copy_for" "copy_for" pO f fd) (Z:Bl mg)  : dB P w K mg base d7 1 f fd ["lead", "tops", "places", "most"] (xC P w):=by
  refine F.ok (k:=0) tI (λ vs H Q E h=>?_) (λ a4 A outer s H vs Q E hr h=>?_)
  . obtain⟨la,tp,d,most,k,T,dl,Y,fv,ms,cs,tops,rfl,_⟩:=h
    rfl
  . obtain⟨la,tp,d,most,k,T,dl,Y,fv,ms,cs,tops,rfl,a2,rl,cd,lay,a1,a0,hd,om,cc,q⟩:=h
    refine⟨_,(cw (cU (i:=4) tI.nd (cI df (pv 0) cA))
      (cw (dJ (cP w6 (pv 4) (pv 1) (by with_unfolding_all rfl))
      (cB (cK (dH (cS (pv 4) (dH fg)))))
      du)
      (cw (dJ (PW.pt (Bt (cP (Ig (q9 hr)) (pv 0) (pv 2) (by with_unfolding_all rfl)) (yA (cP jh (cY Cq rfl Z.len dU (cF (pv 2))) (pv 3) (cX _)))))
      (cB (cK (pv 0)))
      du)
      (cB (cK (dH (cS (pv 4) (dH fg)))))))),?_⟩
    exists _,rfl,la,_,0,_,rfl,rfl,cE.of a2,eG;have out:ef tops most cs (k,T)=(k,T0)->∀B D,H B=none->(upd H B (.tup [])) D=none->Q (.ref D) (upd (upd H B (.tup [])) D (.tup [.int (k:Nat),.ref B])):=λ e B D n1 n2=>by
      rw[e] at q;have q2:=cy.new (o:=.tup [.int (k:Nat),.ref B]) n2;exact q D (.tuple [.int (k:Nat),.tuple []]) _ (.tup cu (.cons (.int _) (.cons (.tup (q2 _ _ cu) .nil) .nil))) ⟨_,FD.zero,rfl⟩ ((cy.new n1).trans q2)
    exists _,rfl,_,rfl,tp,_,rfl,.inr (cE.of a1),rfl,AV _,_,rfl;rw[show (if false=true then !w5 (.int (k:Nat)) (vN Y) else w5 (.int (k:Nat)) (vN Y))=decide (k∈Y) from v9 k Y];by_cases hk:k∈Y
    . refine eU (decide_eq_true hk) ?_
      exact⟨_,rfl,(by show 0<=sizeLine;decide),λ B n1=>⟨ln2,λ D n2=>out (by unfold ef;rw[if_pos ((a0 k).mp hk)]) B D n1 n2⟩⟩
    . refine dn (decide_eq_false hk) ?_
      have J:¬tops k:=λ z=>hk ((a0 k).mpr z)
      obtain⟨G,_⟩:=cd.mem cc;have a3:(ms.map (·.1)).length=cs.length:=Paired.length cc;have a5:ms.length=cs.length:=by rw[<-a3,LU]
      have hv:=pE dl 0 ms;exists _,rfl,_,rfl,la,d,dl,gn 0 ms,rfl,rfl,⟨hd,om,cd.key lay,rl⟩,_,rfl;by_cases hin:(k,T)∈cs
      . rw[if_pos (G.mpr hin)] at hv
        refine eU (by rw[hv];rfl) (eI ?_);exact⟨_,rfl,q la dl H rl (by unfold ef;rw[if_neg J,if_pos (.inl hin)];exact cd) (cy.refl H)⟩
      . rw[if_neg (λ z=>hin (G.mp z))] at hv
        refine dn (by rw[hv];rfl) ?_;exists _,rfl,d,gn 0 ms,rfl,hd,_,rfl,_,_,rfl,rfl,_,rfl;rw[tW];refine fR (λ hc=>?_) (λ hc=>?_)
        . have N:cs.length<most:=by have:=of_decide_eq_true hc;omega
          exact⟨_,rfl,q la dl H rl (by unfold ef;rw[if_neg J,if_pos (.inr N)];exact cd) (cy.refl H)⟩
        . have N:¬cs.length<most:=λ z=>hc (decide_eq_true ⋯)
          exact⟨_,rfl,(by show 0<=sizeLine;decide),λ B n1=>⟨ln2,λ D n2=>out (by unfold ef;rw[if_neg J,if_neg (λ z=>z.elim hin N)]) B D n1 n2⟩⟩
theorem EM {fd:FuncData} (F:eC K "end_to" "end_to" ug f fd) (Z:Bl mg) (B:Own P w K mg base "without_ways" 4 ["end"] nL):dB P w K mg base d7 5 f fd ["end", "ways"] Bf:=by
 refine F.ok (k:=4) EK (λ vs H Q E h=>?_) (λ a2 A outer s H vs Q E hr h=>?_)
 ·obtain⟨ea,l,e,ns,rfl,_⟩:=h;rfl
 ·obtain⟨ea,l,e,ns,rfl,he,J,D,a3,q⟩:=h;refine⟨_,(cw (dJ (cP eF (cY cM rfl Z.len dU (cF (pv 1))) cA (cX _))
   (cB (cK (dH (cS dA (cI eY (pv 1) cA)))))
   du)
   (cB (cK (dt oJ (cH B hr (cF (pv 0))) (cZ cT rfl Z.tuple dI (cF (pv 1))))))),?_⟩
  exists _,rfl,l,_,rfl,.inl (cN.of J),rfl,_,rfl;have a0:(vN ns).length=ns.length:=LU ..;by_cases h1:ns.length=1
  ·obtain⟨a,rfl⟩:∃a,ns=[a]:=List.length_eq_one_iff.mp h1;refine eU (decide_eq_true rfl) ?_;exact⟨_,rfl,l,_,0,_,rfl,rfl,cN.of J,eG,ln2,λ t nt=>q t _ cu (cy.new nt)⟩
  ·refine dn (decide_eq_false λ z=>h1 (by have:=V.int.inj z;omega)) ?_;have D:=D.resolve_left h1;refine⟨_,rfl,ea,e,rfl,he,λ t H1 ht Y=>⟨_,rfl,l,_,rfl,.inl ⟨cN.of (Y _ _ J),λ t2 N=>?_⟩⟩⟩;have q2:=cy.new (o:=.tup (vN ns)) N;have a1:(fK e).length<=3:=by cases e<;>simp[fK]
   refine⟨t,t2,_,_,rfl,rfl,q2 _ _ ht,cu,Mr (cV ⋯),λ t3 H3 G s3=>?_⟩;refine q t3 H3 ?_ ((Y.trans q2).trans s3);have e1:pI e ns=gZ e ns:=by
    match ns,h1 with
    | [],_=>rfl
    | [a],h=>exact absurd rfl h
    | _::_::_,_=>rfl
   rw[e1,mY D];exact G
theorem Ae {fd:FuncData} (F:eC K "led_past" "led_past" pP f fd) (Z:Bl mg) {B:Tok} (J:mg "MOST_TO_LEAD" = some (.int 60 B)) {CR:Addr} (TR:v7 K CR) (ah:Own P w K mg base "heads" 5 ["plan"] Bd) (af:Own P w K mg base "start" 4 ["plan"] Ba) (D:vL P w K mg base CR "Row" 1 ["self", "first"] (Bp (pG P w CR) (qT CR))) (G:jZ P w K mg base CR "place_of" 1 ["self", "thing"] (Bp (pH P w CR) (qU CR))) (a9:Own P w K mg base "behind" 3 ["facts", "deeds"] xK) (an:Own P w K mg base "leads" 5 ["facts", "end"] (AY aA)) (a1:Own P w K mg base "copy_for" 1 ["lead", "tops", "places", "most"] (xC P w)) (ab:Own P w K mg base "end_to" 5 ["end", "ways"] Bf):dB P w K mg base d7 7 f fd ["plan", "most"] (vm P w CR):=by
  refine F.ok (k:=6) fZ (λ vs H Q E h=>?_) (λ c8 A outer s H vs Q E hr h=>?_)
  . obtain⟨bS,ps,xs,most,rfl,_⟩:=h
    rfl
  . obtain⟨bS,ps,xs,most,rfl,hp,a3,ar,bW,aD,hn,bC,bZ,q⟩:=h
    refine⟨_,(cw (dJ (cP yg (cY cM rfl Z.len dU (cF (pv 0))) (j4 (v:=.int 60) rfl J ⟨_,rfl⟩) (cX _))
      (cB EU)
      du)
      (cw (cU (i:=2) fZ.nd (cH ah hr (cF (pv 0))))
      (cw (fI (cU (i:=3) fZ.nd (rZ D (hr.mono ⋯) rfl (cF (dH (cS cA (gW (cP w6 cA (pv 2) (by with_unfolding_all rfl)) (dH fg) (cH af hr (cF (pv 0))))))))))
      (cw (cU (i:=4) fZ.nd (fh fg))
      (cw (mM PassesOwn.never (cP jh (cY cM rfl Z.len dU (cF (pv 4))) (cY cM rfl Z.len dU (cF (dZ (pv 3) rfl))) (cX _))
      (cw (fz (cI eY (dZ (pv 3) rfl) (cY cM rfl Z.len dU (cF (pv 4)))) (fw rfl (cR (cJ (i:=5) fZ.nd) (cR (cJ (i:=6) fZ.nd) eX))))
      (cw (fz (cI df (pv 0) (pv 5)) (fw rfl (cR (cJ (i:=7) fZ.nd) (cR (cJ (i:=8) fZ.nd) eX))))
      (cw (cU (i:=9) fZ.nd (cH an hr (cS (cH a9 hr (cS (pv 6) (pv 7))) (pv 8))))
      (cw (iS (i:=10) ["lead"] ["copies", "tops", "most"] [3,2,1] rfl fZ.nd rfl rfl rfl (hH (pv 9)) rfl ⋯ ⋯ ⋯ ⟨⟨rfl,.inl rfl,rfl⟩,⟨⟨rfl,.inl rfl,rfl⟩,⟨⟨rfl,.inl rfl,rfl⟩,True.intro⟩⟩⟩ (λ _ _ _ _=>(cJ (i:=0) (show ((["lead"]:List Str)++(["copies", "tops", "most"]:List Str)).Nodup by decide) (hf:=Mg rfl))) (λ _ _ _ _=>fx) (λ _ _ _ _=>(i9 G (pv 1) (hr.mono ⋯) (cF (cH a1 hr (wu (pv 0) (pv 2) (Iy (K:=K) rfl (pv 1) rfl) (pv 3)))))))
      (cB (eJ (gr PySem.F.plainAttrs_list PySem.F.slot_list_append PySem.F.type_list_append fo (pv 4) (cF (dH (cS (pv 7) (cH ab hr (cS (pv 8) (pv 10))))))))))))))
      (cB (cK (dH (cS (cZ cT rfl Z.tuple dI (cF (pv 4))) (cZ cT rfl Z.tuple dI (cF (dZ (pv 3) rfl)))))))))))),?_⟩
    try dsimp only[mw,qm]
    refine KC ?_;intro D0 R5 R4 R3 R2 R1;obtain⟨pp,vs,rfl,e1,r1⟩:=cW.d9 hp;have ap:=r1.len;rw[LU] at ap;have bL:=a3.qG;exists _,rfl,pp,_,rfl,.inr (cE.of e1),_,_,rfl,rfl,_,rfl;refine dn (decide_eq_false ⋯) ?_;refine⟨_,rfl,_,ps,rfl,hp,bL,aD,hn,λ tp hs H1 bl aO c3 s1=>?_⟩;have bv:=hp.same s1 (d6 ps);have bT:(eO ps).length<=4000:=by
      have h1:=Io a3;have h2:ps.length*(2*12+1)<=60*25:=Nat.mul_le_mul hn (LW 25);omega
    exists λ az H'=>∃(r m d ka:Addr) (d0:PyData),az=[some (.ref pp),some (.int (most:Nat)),some (.ref tp),some (.ref r),none,none,none,none,none,none,none]/\km P w CR H' r m d [(d0,ka)]/\CD (m3 ps) d0/\H m=none/\H d=none/\H r=none/\cy H1 H',?_
    . have au:zp (m3 ps).2:=by
        unfold m3;split
        . exact gh.zero.lay ar
        . exact (tX a3).lay ar
      exists _,rfl,tp,_,rfl,.inr (cE.of bl),rfl,AV _,_,rfl;rw[show (if false=true then !w5 (.int 0) (vN hs) else w5 (.int 0) (vN hs))=decide (0∈hs) from v9 0 hs];by_cases h0':0∈hs
      . have h0:=(aO 0).mp h0'
        refine eU (decide_eq_true h0') ?_;refine⟨(by show 0<=sizeLine;decide),λ t1 n1=>⟨ln2,λ ka aG=>λ r dx nx ae bG=>?_⟩⟩;have cd:=(show CD (m3 ps) (.tuple [.int ((0:Nat):Int),.tuple []]) from by unfold m3;rw[if_pos h0];exact⟨_,FD.zero,rfl⟩);have nl:=cd.oU;have q2:=cy.new (o:=.tup [.int 0,.ref t1]) aG;have s3:=(cy.new (o:=.tup []) n1).trans q2;have al:cW (upd (upd H1 t1 (.tup [])) ka (.tup [.int 0,.ref t1])) (.ref ka) (.tuple [.int ((0:Nat):Int),.tuple []]):=.tup cu (.cons (.int _) (.cons (.tup (q2 _ _ cu) .nil) .nil));generalize (upd (upd H1 t1 (.tup [])) ka (.tup [.int 0,.ref t1]))=H3 at q2 s3 al nx ae;have s0:cy H3 (upd (upd H3 dx (.own r)) r (.ins CR dx [])):=λ b o e=>by
          rw[cx (cD e nx),cx (cD e ae)];exact e
        refine .inl ⟨r,dx,ka,_,rfl,cu,cd.key au,al.same s0 nl,nl,λ m d H4 A4 k4 nm nd=>⟨rfl,?_⟩⟩;exact⟨r,m,d,ka,_,rfl,A4,cd,s1.free (s3.free (s0.free nm)),s1.free (s3.free (s0.free nd)),s1.free (s3.free nx),λ c o e=>k4 c o (s0 c o (s3 c o e)) (cD (s3 c o e) nx)⟩
      . have h0:¬gc ps 0:=λ z=>h0' ((aO 0).mpr z)
        refine dn (decide_eq_false h0') ?_;refine⟨_,rfl,_,ps,xs,12,rfl,bv,a3,⋯,bT,λ v ss H2 rv aE aN bI=>⟨ln2,λ ka aG=>λ r dx nx ae bG=>?_⟩⟩;have cd:=(show CD (m3 ps) (.tuple [.int ((0:Nat):Int),qZ ss]) from by unfold m3;rw[if_neg h0];exact⟨_,Ge aE aN,rfl⟩);have nl:=cd.oU;have q2:=cy.new (o:=.tup [.int 0,v]) aG;have s3:=bI.trans q2;have al:cW (upd H2 ka (.tup [.int 0,v])) (.ref ka) (.tuple [.int ((0:Nat):Int),qZ ss]):=.tup cu (.cons (.int _) (.cons (rv.same q2 (j7 ss)) .nil));generalize (upd H2 ka (.tup [.int 0,v]))=H3 at q2 s3 al nx ae;have s0:cy H3 (upd (upd H3 dx (.own r)) r (.ins CR dx [])):=λ b o e=>by
          rw[cx (cD e nx),cx (cD e ae)];exact e
        refine .inl ⟨r,dx,ka,_,rfl,cu,cd.key au,al.same s0 nl,nl,λ m d H4 A4 k4 nm nd=>⟨rfl,?_⟩⟩;exact⟨r,m,d,ka,_,rfl,A4,cd,s1.free (s3.free (s0.free nm)),s1.free (s3.free (s0.free nd)),s1.free (s3.free nx),λ c o e=>k4 c o (s0 c o (s3 c o e)) (cD (s3 c o e) nx)⟩
    rintro az H2 ⟨r,m,d,ka,d0,rfl,A2,aS,nm,nd,nr,s2⟩
    try (refine lh ?_;intro sg)
    have aQ:=s1.trans s2;have ay:=s2 _ _ bl;have aH:tu [(d0,ka)] [m3 ps]:=.cons aS .nil;refine⟨(by show 0<=sizeLine;decide),λ pz a8=>?_⟩;have aT:H pz=none:=aQ.free a8;have q3:=cy.new (o:=.lst []) a8;have s3:=aQ.trans q3;have A3:=A2.mv aH.oU (λ c o h _=>q3 c o h) (λ p zs h=>q3 _ _ h);have ad:=q3 _ _ ay;have aM:(upd H2 pz (.lst [])) pz=some (.lst []):=cu;have b2:pz≠m:=(cD A2.mem a8).symm;have be:pz≠d:=(cD A2.lV a8).symm;have bK:pz≠r:=by obtain⟨dx,h⟩:=A2.ob;exact (cD h a8).symm
    generalize (upd H2 pz (.lst []))=H3 at q3 s3 A3 aM ad;have bt:(m3 ps).1<ps.length/\gh xs (m3 ps).2:=by
      unfold m3;split
      . exact⟨aD,gh.zero⟩
      . exact⟨aD,tX a3⟩
    exists λ fu LQ H'=>∃(ms:List (PyData×Addr)) (cs:List Cp) (outs:List Piece) (zs:List V) (u1 u2 u3 u4 u5 u6:Option V),LQ=[some (.ref pp),some (.int (most:Nat)),some (.ref tp),some (.ref r),some (.ref pz),u1,u2,u3,u4,u5,u6]/\km P w CR H' r m d ms/\tu ms cs/\mZ ps.length most cs/\(∀c∈cs,c.1<ps.length/\gh xs c.2)/\H' pz=some (.lst zs)/\dh H' zs (outs.map d8)/\jG (gc ps) most ps fu cs outs=kX ps most/\fu+outs.length=most+ps.length/\outs.length<=cs.length/\H' tp=some (.tup (vN hs))/\cy H H',⟨most+ps.length,[(d0,ka)],[m3 ps],[],[],_,_,_,_,_,_,rfl,A3,aH,⟨by simp,Ma (M9 _ _) bC⟩,(λ c hc=>by rw[LX.mp hc];exact bt),aM,.nil,rfl,rfl,Me _,ad,s3⟩;clear A2 A3 aM s3 q3 ad aH aS a8 ay s2;rintro fu LQ H4 ⟨ms,cs,outs,zs,u1,u2,u3,u4,u5,u6,rfl,A4,a2,xF,ak,ao,aB,N,bY,ca,aw,s4⟩;obtain⟨aF,ag⟩:=A4.ob;have bx:zs.length=outs.length:=by have:=aB.len;rw[LU] at this;exact this
    have c5:ms.length=cs.length:=by have:=Paired.length a2;rw[LU] at this;exact this
    have bX:(ms.map λ p=>V.ref p.2).length=ms.length:=LU ..;have c7:=xF.len λ c hc=>(ak c hc).1
    exists _,rfl,pz,_,rfl,.inl (cN.of ao),_,rfl,r,CR,aF,_,_,rfl,ag,TR.cl,TR.members,gH,m,_,rfl,.inl (cN.of A4.mem),_,_,rfl,rfl,_,rfl;refine fR (λ hc=>?_) (λ hc=>?_)
    . have bV:outs.length<ms.length:=by have:=of_decide_eq_true hc;omega
      obtain⟨fu,rfl⟩:∃f',fu=f' + 1:=⟨fu-1,by omega⟩;have a6:ms[outs.length]?=some ms[outs.length]:=by simp[bV]
      generalize ms[outs.length]=pm at a6;obtain⟨c,aW,cd⟩:=nO a2 (i:=outs.length) (x:=pm.1) (by rw[L6,a6];rfl);have bE:=L8 aW;obtain⟨bQ,bd⟩:=ak c bE;have aj:ps[c.1]?=some ps[c.1]:=by simp[bQ]
      generalize ps[c.1]=pce at aj;rw[vg aW aj] at N;obtain⟨ds,e⟩:=pce;obtain⟨p',cb,pc,da,ea,ws,ep,aU,cc,bN,e2,e3,r3,e4⟩:=gX hp aj;cases ep;rw[e1] at aU;cases aU;have bi:=a3.jM _ (L8 aj);have bM:=a3.ends _ (L8 aj);obtain⟨fd,bw,bA⟩:=id cd;have bm:=(A4.keys pm (L8 a6)).2;rw[bA] at bm;obtain⟨pa,c9,bU,aX,ai⟩:=cW.d9 bm;cases bU;obtain⟨y1,t1,rfl,q1,ai⟩:=ai.cons_inv;obtain⟨y2,t2,rfl,q2,ai⟩:=ai.cons_inv;have z:=ai.nil_inv;subst z;rw[q1.int_inv] at aX;have bD:FV H4 y2 c.2:=bw.fv q2;exists _,λ az H' h=>⟨fu,MG fu,h⟩;exists _,rfl,r,CR,aF,_,_,rfl,ag,TR.cl,TR.members,gH,_,rfl,pz,_,rfl,.inl (cN.of ao),m,_,_,_,rfl,rfl,cN.of A4.mem,dN (j:=zs.length) (by rw[bx,L6,a6];rfl),pm.2,_,rfl,cE.of aX,rfl,_,_,rfl,_,_,rfl,rfl;exists _,rfl,_,rfl,pp,_,_,_,rfl,rfl,cE.of (s4 _ _ e1),dN bN,pc,_,rfl,cE.of (s4 _ _ e2),rfl,_,_,rfl,_,_,rfl,rfl;have aC:=bd.Cu bi.2;refine⟨_,rfl,_,rfl,y2,da,ws,ds,c.2,xs,rfl,bD,s4 _ _ e3,r3.same s4 (dq ds),bd,bi.2,⋯,λ gv H5 g5 s5=>⟨_,rfl,gv,ea,hX c.2 ds,e,rfl,g5,s5 _ _ (s4 _ _ e4),(λ ss hs nd=>Ma (aC.er ss hs nd) ⋯),λ at_ b6 H6 bo pv s6=>?_⟩⟩;have am:=Bg aC bM;obtain⟨bh,aR⟩:=zw (e:=e) aC;have aa:=s5.trans s6;have A6:=A4.mv a2.oU (λ c o h _=>aa c o h) (λ p zs h=>aa _ _ h);have bR:=aa _ _ ao;have b1:=aa _ _ aw;have ap:b6.length=(gI (hX c.2 ds) e).length:=Paired.length pv;generalize ce:gI (hX c.2 ds) e=ls at N am bh aR pv ap;refine⟨_,rfl,at_,rfl,⟨_,cE.of bo⟩,λ acc na=>?_⟩;have br:acc≠m:=(cD A6.mem na).symm;have bj:acc≠d:=(cD A6.lV na).symm;have bH:acc≠r:=by obtain⟨dx,h⟩:=A6.ob;exact (cD h na).symm
      have kb:∀{H':Hp},jf m d H6 H'->∀p zs,H6 p=some (.tup zs)->H' p=some (.tup zs):=λ b p zs h=>b p _ h (dD h A6.mem (by intro z;cases z)) (dD h A6.lV (by intro z;cases z))
      refine ke (K:=K) (a:=at_) (xs:=b6) (λ i ys LR H'=>∃(cv:Option V) (a0:List (PyData×Addr)),LR=[cv,some (.ref r),some (.ref tp),some (.int (most:Nat))]/\km P w CR H' r m d a0/\tu a0 (fj (gc ps) most cs (ls.take i)).1/\ys=vN (fj (gc ps) most cs (ls.take i)).2/\H' acc=some (.lst ys)/\jf m d H6 H') ?_ ?_ ?_ ?_
      . have qn:=cy.new (o:=.lst []) na
        exact⟨none,ms,rfl,A6.mv a2.oU (λ c o h _=>qn c o h) (λ p zs h=>qn _ _ h),a2,rfl,cu,jf.of_same qn⟩
      . rintro i ys LR H7 hi ⟨cv,a0,rfl,A7,Y,rfl,ha,b7⟩
        refine⟨cE.of (kb b7 _ _ bo),ha,cV ?_⟩;obtain⟨_,_,b8,_⟩:=lW (tops:=gc ps) (ls:=ls.take i) (ns:=[]) xF ak λ c hc=>am c (Of hc)
        rw[LU];unfold fj;rw[b8,Mu];show 0+_<=_;omega
      . rintro i y ys LR H7 hi ⟨cv,a0,rfl,A7,Y,rfl,ha,b7⟩
        obtain⟨pr,bc,qa,u,rfl,hq,bP⟩:=nO pv hi;obtain⟨k,U⟩:=pr;obtain⟨c6,ax⟩:=am _ (L8 bc);obtain⟨a4,a5,_,_⟩:=lW (tops:=gc ps) (ls:=ls.take i) (ns:=[]) xF ak λ c hc=>am c (Of hc)
        have aY:=mZ.len a4 λ c hc=>(a5 c hc).1
        have bn:a0.length=(fj (gc ps) most cs (ls.take i)).1.length:=by have:=Paired.length Y;rw[LU] at this;exact this
        have aZ:=z5 (gc ps) most (cs:=cs) bc;have bp:=bP.dr (kb b7);obtain⟨b3,aV,ru⟩:=bp.fd;have b4:=kb b7 _ _ hq;have bO:CD (k,U) (.tuple [.int (k:Nat),b3]):=⟨b3,aV,rfl⟩;obtain⟨bf,as⟩:=A7.ob;have b0:=kb b7 _ _ b1;refine dW ?_;refine iw ?_;refine eI ?_;refine⟨_,rfl,r,bf,_,rfl,as,qS,_,rfl,_,rfl,_,rfl,r,CR,bf,_,_,rfl,as,TR.cl,TR.places,iC,_,rfl,qa,tp,d,most,k,U,_,hs,u,a0,_,gc ps,rfl,b4,.tup b4 (.cons (.int _) (.cons ru .nil)),bO,ax.lay ar,b0,aO,A7.lV,A7.om,Y,λ a d' H8 bB aq s8=>?_⟩;have A8:=A7.mv Y.oU (λ c o h _=>s8 c o h) (λ p zs h=>s8 _ _ h);have aL:gh xs (ef (gc ps) most (fj (gc ps) most cs (ls.take i)).1 (k,U)).2:=by
          unfold ef;split
          . exact gh.zero
          . split
            . exact ax
            . exact gh.zero
        refine .inl ⟨r,m,d,a,d',a0,rfl,A8,(by rw[bn];unfold fj;omega),aq.key (aL.lay ar),bB,aq.oU,Y.oU,λ H9 A9 b9=>?_⟩;have bg:=b9 _ _ (s8 _ _ ha) br bj;have aJ:=tu.put (a:=a) Y aq;have bz:=(aq.mem aJ).2;rw[bz];refine⟨bg,_,pF a0 d' a,rfl,?_,?_,?_,cu,λ c' o h c1 c2=>?_⟩
        . refine A9.mv aJ.oU (λ x o h z=>?_) (λ p zs h=>by rw[cx (dD h bg (by intro z;cases z))];exact h)
          rw[cx ?_]
          . exact h
          . rcases z with rfl | rfl | rfl
            . exact bH.symm
            . exact br.symm
            . exact bj.symm
        . rw[aZ];exact aJ
        . rw[aZ]
          show _=((fj (gc ps) most cs (ls.take i)).2++[_]).map _;rw[L4];rfl
        . rw[cx (cD h na)]
          exact b9 c' o (s8 _ _ (b7 c' o h c1 c2)) c1 c2
      rintro ys LR H7 ⟨cv,a0,rfl,A7,Y,rfl,ha,b7⟩;rw[ap,Mn] at Y ha;obtain⟨a4,a5,aP,more,aI⟩:=lW (tops:=gc ps) (ls:=ls) (ns:=[]) xF ak am;have aY:=mZ.len a4 λ c hc=>(a5 c hc).1
      have s7:cy H H7:=λ c o h=>b7 c o (aa c o (s4 c o h)) (cD h nm) (cD h nd)
      have b5:H7 pz=some (.lst zs):=b7 _ _ bR b2 be;have a7:(fj (gc ps) most cs ls).2.length=ls.length:=by unfold fj;rw[aP];show 0+_=_;omega
      refine⟨_,rfl,.inl ⟨rfl,_,cN.of b5⟩,_,rfl,_,rfl,_,rfl,ea,acc,e,(fj (gc ps) most cs ls).2,rfl,s7 _ _ e4,ha,(by rw[a7];exact bh),(by rw[a7];exact aR),λ t3 H8 bu s8=>⟨ln2,λ t4 bF=>?_⟩⟩;have q4:=cy.new (o:=.tup [.ref da,.ref t3]) bF;have ac:=s8.trans q4;have ba:=q4 _ _ bu;have bb:(upd H8 t4 (.tup [.ref da,.ref t3])) t4=some (.tup [.ref da,.ref t3]):=cu;generalize (upd H8 t4 (.tup [.ref da,.ref t3]))=H9 at q4 ac ba bb;have bq:=ac _ _ b5;exists pz,_,_,rfl,rfl,bq,cV ⋯;have kt:∀p xs,H9 p=some (.tup xs)->(upd H9 pz (.lst (zs++[.ref t4]))) p=some (.tup xs):=λ p xs h=>by rw[cx (dD h bq (by intro z;cases z))];exact h
      have s9:=s7.trans ac;have av:∀p xs,H4 p=some (.tup xs)->(upd H9 pz (.lst (zs++[.ref t4]))) p=some (.tup xs):=λ p xs h=>kt _ _ (ac _ _ (kb b7 _ _ (aa _ _ h)))
      refine⟨a0,(fj (gc ps) most cs ls).1,outs++[(ds,pI e (fj (gc ps) most cs ls).2)],_,_,_,_,_,_,_,rfl,A7.mv Y.oU (λ x o h z=>?_) (λ p zs h=>kt _ _ (ac _ _ h)),Y,a4,a5,cu,?_,N,(by rw[LY];show fu+(_+1)=_;omega),?_,av _ _ aw,s9.put aT⟩
      . rw[cx ?_]
        . exact ac _ _ h
        . rcases z with rfl | rfl | rfl
          . exact bK.symm
          . exact b2.symm
          . exact be.symm
      . rw[L4]
        have bJ:cW H9 (.ref t4) (d8 (ds,pI e (fj (gc ps) most cs ls).2)):=.tup bb (.cons (.tup (s9 _ _ e3) (r3.same s9 (dq ds))) (.cons (qW ba) .nil));exact dh.app (aB.dr av (cO outs)) (bJ.dr kt (gM _))
      . have:(fj (gc ps) most cs ls).1.length=cs.length+more.length:=by unfold fj;rw[aI,LY]
        rw[this,LY];show _+1<=_;omega
    . have c4:¬outs.length<ms.length:=λ z=>hc (decide_eq_true ⋯)
      rw[xE (Na ⋯)] at N;rw[<-N] at q;refine⟨_,rfl,pz,_,rfl,.inl ⟨cN.of ao,λ t1 n1=>?_⟩⟩;have q1:=cy.new (o:=.tup zs) n1;refine⟨_,rfl,r,CR,aF,_,_,rfl,q1 _ _ ag,TR.cl,TR.members,gH,m,_,rfl,.inl ⟨cN.of (q1 _ _ A4.mem),λ t2 n2=>⟨ln2,λ t3 n3=>?_⟩⟩⟩;have q2:=cy.new (o:=.tup (ms.map λ p=>V.ref p.2)) n2;have q3:=cy.new (o:=.tup [.ref t1,.ref t2]) n3;have aK:=(q1.trans q2).trans q3;refine q (.ref t3) (ms.map (·.1)) _ a2 (.tup cu (.cons (.tup (q3 _ _ (q2 _ _ cu)) (aB.same aK (cO outs))) (.cons (.tup (q3 _ _ cu) (Bh λ p hp=>(A4.keys p hp).2.same aK (a2.oU p hp))) .nil))) (s4.trans aK)
theorem wI {fd:FuncData} (F:eC K "with_steads" "with_steads" mq f fd) (Z:Bl mg) {CR:Addr} (TR:v7 K CR) (D:vL P w K mg base CR "Row" 1 ["self", "first"] (Bp (pG P w CR) (qT CR))) (G:jZ P w K mg base CR "place_of" 1 ["self", "thing"] (Bp (pH P w CR) (qU CR))) (a0:Own P w K mg base "ways_on" 3 ["end"] lU) (B:Own P w K mg base "without_ways" 4 ["end"] nL):dB P w K mg base d7 5 f fd ["plan", "steads"] xO:=by
  refine F.ok (k:=4) ic (λ vs H Q E h=>?_) (λ bb A outer s H vs Q E hr h=>?_)
  . obtain⟨aQ,l,ps,N,rfl,_⟩:=h
    rfl
  . obtain⟨aQ,l,ps,N,rfl,hp,aV,hl,b9,az,hn,aN,q⟩:=h
    refine⟨_,(cw (cU (i:=2) ic.nd (rZ D (hr.mono ⋯) rfl (cF (cI (Ex (K:=K) rfl) (pv 1) cA))))
      (cw (cU (i:=3) ic.nd (fh fg))
      (cw (mM PassesOwn.never (cP jh (cY cM rfl Z.len dU (cF (pv 3))) (cY cM rfl Z.len dU (cF (dZ (pv 2) rfl))) (cX _))
      (cw (fz (cI df (pv 0) (cI eY (dZ (pv 2) rfl) (cY cM rfl Z.len dU (cF (pv 3))))) (fw rfl (cR (cJ (i:=4) ic.nd) (cR (cJ (i:=5) ic.nd) eX))))
      (cw (iS (i:=6) ["way"] ["row", "steads"] [2,1] rfl ic.nd rfl rfl rfl (hH (cH a0 hr (cF (pv 5)))) rfl ⋯ ⋯ ⋯ ⟨⟨rfl,.inl rfl,rfl⟩,⟨⟨rfl,.inl rfl,rfl⟩,True.intro⟩⟩ (λ _ _ _ _=>(cJ (i:=0) (show ((["way"]:List Str)++(["row", "steads"]:List Str)).Nodup by decide) (hf:=Mg rfl))) (λ _ _ _ _=>fx) (λ _ _ _ _=>(i9 G (pv 1) (hr.mono ⋯) (cF (cI (Ex (K:=K) rfl) (pv 2) (pv 0))))))
      (cB (eJ (gr PySem.F.plainAttrs_list PySem.F.slot_list_append PySem.F.type_list_append fo (pv 3) (cF (dH (cS (pv 4) (dt oJ (cH B hr (cF (pv 5))) (cZ cT rfl Z.tuple dI (cF (pv 6)))))))))))))
      (cB (cK (dH (cS (cZ cT rfl Z.tuple dI (cF (pv 3))) (cZ cT rfl Z.tuple dI (cF (dZ (pv 2) rfl)))))))))),?_⟩
    try dsimp only[mw,qm]
    refine yo ?_;intro D0 R3 R2 R1;obtain⟨pp,vs,rfl,e1,r1⟩:=cW.d9 hp;have aL:=r1.len;rw[LU] at aL;have aw:∀{j:Nat},j<ps.length->iL (vN N) (j:Int)=some (V.int (cL N j:Nat)):=λ {j} hj=>dN (by
      rw[L6,MB (by omega:j<N.length)];show _=some (V.int ((N.getD j 0:Nat):Int));rw[MR,MB (by omega:j<N.length)];rfl)
    have a1:∀{j:Nat},j<ps.length->cL N j<ps.length:=λ {j} hj=>by
      unfold cL;rw[MR,MB (by omega:j<N.length)];exact aN _ (MU _)
    refine⟨_,rfl,l,_,0,_,rfl,rfl,cE.of hl,aw az,λ r dx nx aI b2=>.inr ⟨r,dx,cL N 0,rfl,cu,λ m d H1 A1 k1 nm nd=>⟨rfl,?_⟩⟩⟩;have s0:cy H (upd (upd H dx (.own r)) r (.ins CR dx [])):=λ b o e=>by
      rw[cx (cD e nx),cx (cD e aI)];exact e
    have s1:cy H H1:=λ c o e=>k1 c o (s0 c o e) (cD e nx)
    have aC:H m=none:=s0.free nm;have ah:H d=none:=s0.free nd;clear k1 nm nd s0;refine⟨(by show 0<=sizeLine;decide),λ pz Y=>?_⟩;have ay:H pz=none:=s1.free Y;have s2:=s1.trans (cy.new (o:=.lst []) Y);have A2:=A1.same (cy.new (o:=.lst []) Y);have al:pz≠m:=(cD A1.mem Y).symm;have an:pz≠d:=by obtain⟨kvs,h,_⟩:=A1.lV;exact (cD h Y).symm
    have aM:pz≠r:=by obtain⟨dx,h⟩:=A1.ob;exact (cD h Y).symm
    have ao:(upd H1 pz (.lst [])) pz=some (.lst []):=cu;generalize (upd H1 pz (.lst []))=H2 at s2 A2 ao;clear A1 s1 Y;exists λ fu LQ H'=>∃(ms:List Nat) (outs:List Piece) (zs:List V) (u1 u2 u3:Option V),LQ=[some (.ref pp),some (.ref l),some (.ref r),some (.ref pz),u1,u2,u3]/\mx CR H' r m d ms/\H' pz=some (.lst zs)/\dh H' zs (outs.map d8)/\eQ ps (cL N) fu ms outs=eQ ps (cL N) ps.length [cL N 0] []/\fu+outs.length=ps.length/\ms.Nodup/\(∀x∈ms,x<ps.length)/\outs.length<=ms.length/\cy H H',⟨ps.length,[cL N 0],[],[],_,_,_,rfl,A2,ao,.nil,rfl,rfl,by simp,(λ x hx=>by rw[LX.mp hx];exact a1 az),Me _,s2⟩;rintro fu LQ H3 ⟨ms,outs,zs,u1,u2,u3,rfl,A3,a6,ae,J,aX,af,mb,bc,s3⟩;obtain⟨ab,a2⟩:=A3.ob;have aH:zs.length=outs.length:=by have:=ae.len;rw[LU] at this;exact this
    have b0:(vN ms).length=ms.length:=LU ..;have b1:=gO af mb;exists _,rfl,pz,_,rfl,.inl (cN.of a6),_,rfl,r,CR,ab,_,_,rfl,a2,TR.cl,TR.members,gH,m,_,rfl,.inl (cN.of A3.mem),_,_,rfl,rfl,_,rfl;refine fR (λ hc=>?_) (λ hc=>?_)
    . have aW:outs.length<ms.length:=by have:=of_decide_eq_true hc;omega
      obtain⟨fu,rfl⟩:∃f',fu=f' + 1:=⟨fu-1,by omega⟩;have a8:ms[outs.length]?=some ms[outs.length]:=by simp[aW]
      have aq:ms[outs.length]<ps.length:=mb _ (MU _);generalize ms[outs.length]=kk at a8 aq;have a5:ps[kk]?=some ps[kk]:=by simp[aq]
      generalize ps[kk]=pce at a5;rw[iD a8 a5] at J;obtain⟨ds,e⟩:=pce;obtain⟨p',b4,pc,da,ea,ws,ep,ai,b7,a4,e2,e3,r3,e4⟩:=gX hp a5;cases ep;rw[e1] at ai;cases ai;exists _,λ aY H' h=>⟨fu,MG fu,h⟩;exists _,rfl,_,rfl,r,CR,ab,_,_,rfl,a2,TR.cl,TR.members,gH,_,rfl,pz,_,rfl,.inl (cN.of a6),m,_,_,_,rfl,rfl,cN.of A3.mem,dN (j:=zs.length) (by rw[aH,L6,a8];rfl),pp,_,_,_,rfl,rfl,cE.of (s3 _ _ e1),dN a4,pc,_,rfl,cE.of (s3 _ _ e2),rfl,_,_,rfl,_,_,rfl,rfl;refine⟨_,rfl,ea,e,rfl,s3 _ _ e4,λ wt H4 hw s4=>⟨wt,rfl,⟨_,cE.of hw⟩,λ acc na=>?_⟩⟩;have A4:=A3.same s4;have aB:=s4 _ _ a6;have ax:acc≠m:=(cD A4.mem na).symm;have ar:acc≠d:=by obtain⟨kvs,h,_⟩:=A4.lV;exact (cD h na).symm
      have ba:acc≠pz:=(cD aB na).symm;have aJ:acc≠r:=by obtain⟨dx,h⟩:=A4.ob;exact (cD h na).symm
      have au:=s3.trans s4;have aa:∀{j k:Nat},(cC e)[j]?=some k->k<ps.length:=λ {j k} hj=>by
        have h1:=aV _ (L8 a5);have h2:=L8 hj;cases e with
        | stop=>cases h2
        | go p=>rw[LX.mp h2];exact h1
        | eM b x n p p2 =>
          rcases LZ.mp h2 with z | z
          . rw[z];exact h1.1
          . rw[LX.mp z];exact h1.2
      have b3:(cC e).length<=2:=by cases e<;>(show _<=2)<;>simp[cC]
      generalize a7:(cC e).map (cL N)=ks at J;have a3:ks.length=(cC e).length:=by rw[<-a7,LU]
      refine ke (K:=K) (a:=wt) (xs:=(cC e).map λ k=>V.int (k:Nat)) (λ i ys LR H'=>∃c:Option V,LR=[c,some (.ref r),some (.ref l)]/\mx CR H' r m d (putAll ms (ks.take i))/\ys=vN ((ks.take i).map (putAll ms ks).idxOf)/\H' acc=some (.lst ys)/\jf m d H4 H') ?_ ?_ ?_ ?_
      . exact⟨none,rfl,A4.same (cy.new na),rfl,cu,jf.of_same (cy.new na)⟩
      . rintro i ys LR H5 hi ⟨c,rfl,A5,rfl,ha,b5⟩
        exists cE.of (A4.tup b5 hw),ha;rw[LU,LU,Mu];rw[LU] at hi;exact cV ⋯
      . rintro i y ys LR H5 hi ⟨c,rfl,A5,rfl,ha,b5⟩
        obtain⟨k0,as,rfl⟩:∃k,(cC e)[i]?=some k/\y=V.int (k:Nat):=by
          rw[L6] at hi;cases z:(cC e)[i]? with
          | none=>rw[z] at hi;cases hi
          | some k=>rw[z] at hi;exact⟨k,rfl,(Mf.inj hi).symm⟩
        have ap:=aa as;have ad:ks[i]?=some (cL N k0):=by rw[<-a7,L6,as];rfl
        have aU:H5 l=some (.tup (vN N)):=b5 _ _ (au _ _ hl) (cD hl aC) (cD hl ah);obtain⟨aP,aE⟩:=A5.ob;have aF:(putAll ms (ks.take i)).length<=1000:=by
          refine Ma (gO (j6 af) (ju mb λ x hx=>?_)) hn;have a4:=Of hx;rw[<-a7] at a4;obtain⟨j,hj,rfl⟩:=Mb.mp a4;obtain⟨jj,a9⟩:=Ni hj;exact a1 (aa a9)
        refine dW ?_;refine iw ?_;refine eI ?_;refine⟨_,rfl,r,aP,_,rfl,aE,qS,_,rfl,_,rfl,l,_,_,_,rfl,rfl,cE.of aU,aw ap,.inr ⟨r,m,d,cL N k0,_,rfl,A5,aF,λ H6 A6 b6=>?_⟩⟩;have aR:H6 acc=some (.lst (vN ((ks.take i).map (putAll ms ks).idxOf))):=b6 _ _ ha ax ar;rw[Eh ad];refine⟨aR,_,rfl,?_,?_,cu,λ c' o h c1 c2=>?_⟩
        . rw[Mz,ad]
          show mx CR _ r m d (putAll ms (ks.take i++[cL N k0]));rw[L2.putAll_snoc];refine A6.keep λ x u h z=>?_
          rw[cx ?_]
          . exact h
          . rcases z with rfl | rfl | rfl
            . exact aJ.symm
            . exact ax.symm
            . exact ar.symm
        . rw[Mz,ad]
          show _=((ks.take i++[cL N k0]).map _).map _;rw[L4,L4];rfl
        . rw[cx (cD h na)]
          exact (b5.trans b6) c' o h c1 c2
      rintro ys LR H5 ⟨c,rfl,A5,rfl,ha,b5⟩;have aK:ks.take ((cC e).map λ k=>V.int (k:Nat)).length=ks:=by rw[LU,<-a3,Mn]
      rw[aK] at A5 ha;have b8:(fK e).length<=3:=by cases e<;>simp[fK]
      have aj:H5 pz=some (.lst zs):=b5 _ _ aB al an;have aS:∀p xs,H4 p=some (.tup xs)->H5 p=some (.tup xs):=λ p xs h=>A4.tup b5 h
      have s5:cy H H5:=λ c o h=>b5 c o (au c o h) (cD h aC) (cD h ah)
      refine⟨_,rfl,.inl ⟨rfl,_,cN.of aj⟩,_,rfl,_,rfl,ea,e,rfl,s5 _ _ e4,λ t H6 ht s6=>⟨_,rfl,acc,_,rfl,.inl ⟨cN.of (s6 _ _ ha),λ t2 av=>?_⟩⟩⟩;have s7:=s6.trans (cy.new (o:=.tup (vN (ks.map (putAll ms ks).idxOf))) av);have aO:=cy.new (o:=.tup (vN (ks.map (putAll ms ks).idxOf))) av _ _ ht;refine⟨t,t2,_,_,rfl,rfl,aO,cu,(by rw[LU,LU,a3];exact Mr (cV ⋯)),λ t3 H8 ag s8=>⟨ln2,λ t4 ak=>?_⟩⟩;rw[<-mY (by rw[LU,a3])] at ag;have s9:=(s7.trans s8).trans (cy.new (o:=.tup [.ref da,.ref t3]) ak);have aD:=cy.new (o:=.tup [.ref da,.ref t3]) ak _ _ ag;have am:(upd H8 t4 (.tup [.ref da,.ref t3])) t4=some (.tup [.ref da,.ref t3]):=cu;generalize (upd H8 t4 (.tup [.ref da,.ref t3]))=H9 at s9 aD am;have aG:=s9 _ _ aj;exists pz,_,_,rfl,rfl,aG,cV ⋯;have kt:∀p xs,H9 p=some (.tup xs)->(upd H9 pz (.lst (zs++[.ref t4]))) p=some (.tup xs):=λ p xs h=>by rw[cx (dD h aG (by intro z;cases z))];exact h
      have ac:=s5.trans s9;refine⟨_,outs++[fe (ds,e) ks (putAll ms ks)],_,_,_,_,rfl,(A5.same s9).keep λ x u h z=>?_,cu,?_,J,(by rw[LY];show fu+(_+1)=_;omega),j6 af,ju mb λ x hx=>?_,?_,ac.put ay⟩
      . rw[cx ?_]
        . exact h
        . rcases z with rfl | rfl | rfl
          . exact aM.symm
          . exact al.symm
          . exact an.symm
      . rw[L4]
        refine dh.app ((((ae.same s4 (cO outs)).dr aS (cO outs)).same s9 (cO outs)).dr kt (cO outs)) ?_;have aT:cW H9 (.ref t4) (d8 (fe (ds,e) ks (putAll ms ks))):=.tup am (.cons (.tup (ac _ _ e3) (r3.same ac (dq ds))) (.cons (qW aD) .nil));exact aT.dr kt (gM _)
      . rw[<-a7] at hx
        obtain⟨j,hj,rfl⟩:=Mb.mp hx;obtain⟨jj,a9⟩:=Ni hj;exact a1 (aa a9)
      . obtain⟨more,em⟩:=iW ks ms
        rw[em,LY,LY];show _+1<=_;omega
    . have aZ:¬outs.length<ms.length:=λ z=>hc (decide_eq_true ⋯)
      rw[jt (Na ⋯)] at J;rw[<-J] at q;refine⟨_,rfl,pz,_,rfl,.inl ⟨cN.of a6,λ t1 n1=>?_⟩⟩;have q1:=cy.new (o:=.tup zs) n1;refine⟨_,rfl,r,CR,ab,_,_,rfl,q1 _ _ a2,TR.cl,TR.members,gH,m,_,rfl,.inl ⟨cN.of (q1 _ _ A3.mem),λ t2 n2=>⟨ln2,λ t3 n3=>?_⟩⟩⟩;have q2:=cy.new (o:=.tup (vN ms)) n2;have q3:=cy.new (o:=.tup [.ref t1,.ref t2]) n3;refine q (.ref t3) _ (.tup cu (.cons (.tup (q3 _ _ (q2 _ _ cu)) (ae.same ((q1.trans q2).trans q3) (cO outs))) (.cons (.tup (q3 _ _ cu) (iX ms)) .nil))) (s3.trans ((q1.trans q2).trans q3))
theorem CO {fd:FuncData} (F:eC K "surface" "surface" rL f fd) (Z:Bl mg) (B:Own P w K mg base "without_ways" 4 ["end"] nL):dB P w K mg base d7 5 f fd ["piece"] xM:=by
 refine F.ok (k:=4) pQ (λ vs H Q E h=>?_) (λ a1 A outer s H vs Q E hr h=>?_)
 ·obtain⟨pc,da,ea,ws,ds,e,rfl,_⟩:=h;rfl
 ·obtain⟨pc,da,ea,ws,ds,e,rfl,a0,N,J,G,q⟩:=h;refine⟨_,(cw (fz (pv 0) (fw rfl (cR (cJ (i:=1) pQ.nd) (cR (cJ (i:=2) pQ.nd) eX))))
   (cB (cK (dH (cS (pv 1) (cH B hr (cF (pv 2)))))))),?_⟩
  exists _,rfl,pc,_,rfl,cE.of a0,rfl,_,_,rfl,_,_,rfl,rfl;refine⟨_,rfl,_,rfl,ea,e,rfl,G,λ t H1 ht Y=>⟨ln2,λ p hp=>?_⟩⟩;have D:=cy.new (o:=.tup [.ref da,.ref t]) hp;exact q (.ref p) _ (.tup cu (.cons (.tup (D _ _ (Y _ _ N)) ((J.same Y (dq ds)).same D (dq ds))) (.cons (.tup (D _ _ ht) (II e)) .nil))) (Y.trans D)
theorem vy {fd:FuncData} (F:eC K "least_places" "least_places" lC f fd) (Z:Bl mg)  : dB P w K mg base d7 1 f fd ["keys"] wm:=by
  refine F.ok (k:=0) ji (λ vs H Q E h=>?_) (λ a9 A outer s H vs Q E hr h=>?_)
  . obtain⟨l,xs,ds,rfl,_⟩:=h
    rfl
  . obtain⟨l,xs,ds,rfl,hl,a0,hk,hn,q⟩:=h
    refine⟨_,(cw (cU (i:=1) ji.nd Gm)
      (cw (gu PassesOwn.never rfl (wb rfl Z.enumerate (cF (pv 0))) (fw rfl (cR (cJ (i:=2) ji.nd) (cR (cJ (i:=3) ji.nd) eX)))
      (cB (dJ (cP (ve (q9 hr)) (pv 3) (pv 1) (by with_unfolding_all rfl))
      (cB (fz (pv 2) (oq (pv 1) (pv 3) (zi (q9 hr)))))
      du)))
      (cB (cK (fL ["key"] ["places"] [1] rfl (kK (pv 0)) rfl ⋯ ⋯ ⋯ ⟨⟨rfl,.inl rfl,rfl⟩,True.intro⟩ (λ _ _ _ _=>(cJ (i:=0) (show ((["key"]:List Str)++(["places"]:List Str)).Nodup by decide) (hf:=Mg rfl))) (λ _ _ _ _=>fx) (λ _ _ _ _=>(Gn (P:=P) (w:=w) rfl rfl (q9 hr) (pv 1) (pv 0) (λ _ _=>rfl)))))))),?_⟩
    have a4:xs.length=ds.length:=a0.len;refine λ d nd=>?_
    have a7:=cy.new (o:=gG P w d []) nd _ _ hl;refine⟨_,rfl,l,rfl,.inr ⟨⟨_,cN.of a7⟩,Gd (Sq:=cN K) (a:=l) (xs:=xs) (λ i LQ H'=>∃(u1 u2:Option V) (kvs:List (PyData×Addr×V)),LQ=[some (.ref l),some (.ref d),u1,u2]/\H' d=some (gG P w d kvs)/\vc H' kvs/\kvs.length<=i/\(∀x,gm kvs x=if x∈ds.take i then some (.int (ds.idxOf x:Nat)) else none)/\cy H H') ?_ ?_ ?_ ?_⟩⟩
    . exact⟨_,_,[],rfl,cu,(λ p hp=>nomatch hp),LW _,(λ x=>by simp[gm]),cy.new nd⟩
    . rintro i LQ H1 hi ⟨u1,u2,kvs,rfl,h1,h2,h3,h4,Y⟩
      exact cN.of (Y _ _ hl)
    . rintro i x LQ H1 t hx ht ⟨u1,u2,kvs,rfl,h1,h2,h3,h4,Y⟩
      have hi:i<ds.length:=by have:=(Md.mp hx).1;omega
      have D:ds[i]?=some ds[i]:=by simp[hi]
      have B:=hk _ (MU hi);generalize ds[i]=dd at D B;obtain⟨x',N,rx⟩:=a0.get D;rw[hx] at N;cases N;obtain⟨ys,ey⟩:=B.tup;obtain⟨kp,zs,ek,a6,rz⟩:=cW.d9 (ey ▸ rx);subst ek;have st:=cy.new (o:=.tup [.int (i:Nat),.ref kp]) ht;exists t,_,rfl,cE.of cu,rfl,_,_,rfl,_,_,rfl,rfl;have d2:=st _ _ h1;have k2:=h2.dr λ p zs e=>st _ _ e
      have G:cW (upd H1 t (.tup [.int (i:Nat),.ref kp])) (.ref kp) dd:=(rx.same Y (iZ B.key)).same st (iZ B.key);have J:=Y.trans st;generalize (upd H1 t (.tup [.int (i:Nat),.ref kp]))=H2 at d2 k2 G J ⊢;exists _,rfl,_,rfl,kp,d,dd,kvs,rfl,rfl,⟨d2,k2,B,G⟩,_,rfl;have hv:=h4 dd;by_cases hm:dd∈ds.take i
      . rw[if_pos hm] at hv
        refine dn (by rw[hv];rfl) ?_;refine⟨_,_,kvs,rfl,d2,k2,by omega,λ x=>?_,J⟩;rw[h4 x,take1 D];by_cases e:x∈ds.take i
        . rw[if_pos e,if_pos (MF _ e)]
        . rw[if_neg e,if_neg λ z=>(Mh.mp z).elim e λ z=>e (by rw[LX.mp z];exact hm)]
      . rw[if_neg hm] at hv
        refine eU (by rw[hv];rfl) ?_;exists _,rfl,_,rfl,_,rfl,kp,d,dd,kvs,rfl,rfl,⟨d2,k2,B,G⟩,cV ⋯;rw[Gq hv];have kt:∀p zs,H2 p=some (.tup zs)->(upd H2 d (gG P w d (kvs++[(dd,kp,.int (i:Nat))]))) p=some (.tup zs):=λ p zs e=>by rw[cx (dD e d2 (by intro z;cases z))];exact e
        refine⟨_,_,_,rfl,cu,λ p hp=>?_,(by rw[LY];show _+1<=_;omega),λ x=>?_,J.put nd⟩
        . rcases Mh.mp hp with hp | hp
          . exact (k2.dr kt) p hp
          . rw[LX.mp hp]
            exact⟨B,G.dr kt (iZ B.key)⟩
        . rw[Gp _ _ _ _ _ hv,h4 x,take1 D]
          by_cases e:x=dd
          . subst e
            rw[if_pos rfl,if_pos (Mm _ (LX.mpr rfl))];have a5:ds.idxOf x=i:=by
              have h1:=(rp D);rw[mG D] at h1;obtain⟨a1,a2,a3⟩:=h1;by_cases e2:ds.idxOf x=i
              . exact e2
              . exfalso
                refine hm ?_;refine L8 (i:=ds.idxOf x) ?_;rw[List.getElem?_take_of_lt ⋯];exact a2
            rw[a5]
          . rw[if_neg e]
            by_cases e2:x∈ds.take i
            . rw[if_pos e2,if_pos (MF _ e2)]
            . rw[if_neg e2,if_neg λ z=>(Mh.mp z).elim e2 λ z=>e (LX.mp z)]
    . rintro LQ H1 ⟨u1,u2,kvs,rfl,h1,h2,h3,h4,Y⟩
      rw[a4,Mn] at h4;refine⟨_,rfl,l,rfl,⟨_,cN.of (Y _ _ hl)⟩,λ acc na=>?_⟩;refine mJ (K:=K) (a:=l) (xs:=xs) (λ i ys LR H'=>∃c:Option V,LR=[c,some (.ref d)]/\ys=vN ((ds.take i).map ds.idxOf)/\H' acc=some (.lst ys)/\cy H1 H') ?_ ?_ ?_ ?_
      . exact⟨none,rfl,rfl,cu,cy.new na⟩
      . rintro i ys LR H2 hi ⟨c,rfl,rfl,ha,J⟩
        exists cN.of (J _ _ (Y _ _ hl)),ha;rw[LU,LU,Mu];exact cV ⋯
      . rintro i x ys LR H2 hx ⟨c,rfl,rfl,ha,J⟩
        have hi:i<ds.length:=by have:=(Md.mp hx).1;omega
        have D:ds[i]?=some ds[i]:=by simp[hi]
        have B:=hk _ (MU hi);generalize ds[i]=dd at D B;obtain⟨x',N,rx⟩:=a0.get D;rw[hx] at N;cases N;obtain⟨a8,ey⟩:=B.tup;obtain⟨kp,zs,ek,a6,rz⟩:=cW.d9 (ey ▸ rx);subst ek;have hv:=h4 dd;rw[if_pos (L8 D)] at hv;have G:cW H2 (.ref kp) dd:=(rx.same Y (iZ B.key)).same J (iZ B.key)
        first | (change ∃v,_/\_) | ((try refine dW ?_);refine iw ?_;refine eI ?_)
        exists _,rfl,_,rfl,kp,d,dd,kvs,_,rfl,rfl,⟨J _ _ h1,h2.dr (λ p zs e=>J _ _ e),B,G⟩,hv;refine⟨ha,_,rfl,?_,cu,J.put na⟩;rw[take1 D,L4];show _=List.map _ (_++_);rw[L4];rfl
      . rintro ys LR H2 ⟨c,rfl,rfl,ha,J⟩
        rw[a4,Mn] at ha;exact q acc H2 ha (Y.free na) (Y.trans J)
theorem CP {fd:FuncData} (F:eC K "ways_of" "ways_of" rM f fd) (Z:Bl mg) (cr:Own P w K mg base "ways_on" 3 ["end"] lU):dB P w K mg base d7 4 f fd ["plan"] zC:=by
 refine F.ok (k:=3) CH (λ vs H Q E h=>?_) (λ cdv A outer s H vs Q E hr h=>?_)
 ·obtain⟨plv,ps,rfl,_⟩:=h;rfl
 ·obtain⟨plv,ps,rfl,hp,hn,q⟩:=h;exists _,(cB (cK (fL ["deeds", "end"] [] [] rfl (hH (pv 0)) rfl ⋯ ⋯ ⋯ True.intro (λ _ _ _ _=>(oz (K:=K) (n:=2) rfl (fw (n:=2) rfl (cR (cJ (i:=0) (show ((["deeds", "end"]:List Str)++([]:List Str)).Nodup by decide) (hf:=Mg rfl)) (cR (cJ (i:=1) (show ((["deeds", "end"]:List Str)++([]:List Str)).Nodup by decide) (hf:=Mg rfl)) eX))))) (λ _ _ _ _=>fx) (λ _ _ _ _=>(cH cr hr (cF (pv 1)))))));obtain⟨pp,vs,rfl,e1,rvs⟩:=cW.d9 hp;have hvl:vs.length=ps.length:=by rw[rvs.len,LU]
  refine⟨_,rfl,pp,rfl,⟨_,cE.of e1⟩,λ acc na=>?_⟩;refine ke (K:=K) (a:=pp) (xs:=vs) (λ i ys LR H'=>∃(c1 c2:Option V),LR=[c1,c2]/\H' acc=some (.lst ys)/\dh H' ys ((ps.take i).map Cw)/\cy H H') ?_ ?_ ?_ ?_
  ·exact⟨none,none,rfl,cu,.nil,cy.new na⟩
  ·rintro i ys LR H1 hi ⟨c1,c2,rfl,ha,rd,s1⟩;have:=rd.len;rw[LU,Mu] at this;exact⟨cE.of (s1 _ _ e1),ha,cV ⋯⟩
  ·rintro i x ys LR H1 hx ⟨c1,c2,rfl,ha,rd,s1⟩;have hlt:i<ps.length:=by have:=(Md.mp hx).1;omega
   have hpi:ps[i]?=some ps[i]:=by simp[hlt]
   generalize ps[i]=pce at hpi;obtain⟨ds,e⟩:=pce;obtain⟨p',xs',pc,da,ea,ws,ep,e1',el',hx',e2,e3,r3,e4⟩:=gX hp hpi;cases ep;rw[e1] at e1';cases e1';rw[hx] at hx';cases hx';exists pc,_,rfl,cE.of (s1 _ _ e2),rfl,_,_,rfl,_,_,rfl,rfl
   first | (change ∃v,_/\_) | ((try refine dW ?_);refine iw ?_;refine eI ?_)
   refine⟨_,rfl,ea,e,rfl,s1 _ _ e4,λ t H2 ht s2=>?_⟩;have ha2:=s2 _ _ ha;refine⟨ha2,_,_,rfl,cu,?_,(s1.trans s2).put na⟩;rw[take1 hpi,L4];have kt:∀p zs,H2 p=some (.tup zs)->(upd H2 acc (.lst (ys++[.ref t]))) p=some (.tup zs):=λ p zs e=>by rw[cx (dD e ha2 (by intro z;cases z))];exact e
   exact dh.app ((rd.same s2 (m6 _)).dr kt (m6 _)) (.tup (kt _ _ ht) (iX _))
  ·rintro ys LR H1 ⟨c1,c2,rfl,ha,rd,s1⟩;rw[hvl,Mn] at rd;exact q acc ys H1 ha rd na s1
theorem sN {fd:FuncData} (F:eC K "surface_groups" "surface_groups" j1 f fd) (Z:Bl mg) (dR:Own P w K mg base "least_places" 1 ["keys"] wm) (kS:Own P w K mg base "surface" 5 ["piece"] xM):dB P w K mg base d7 6 f fd ["plan"] xN:=by
 refine F.ok (k:=5) sJ (λ vs H Q E h=>?_) (λ cdv A outer s H vs Q E hr h=>?_)
 ·obtain⟨plv,ps,rfl,_⟩:=h;rfl
 ·obtain⟨plv,ps,rfl,hp,lay,hn,q⟩:=h;exists _,(cB (cK (cH dR hr (cF (fL ["piece"] [] [] rfl (hH (pv 0)) rfl ⋯ ⋯ ⋯ True.intro (λ _ _ _ _=>(cJ (i:=0) (show ((["piece"]:List Str)++([]:List Str)).Nodup by decide) (hf:=Mg rfl))) (λ _ _ _ _=>fx) (λ _ _ _ _=>(cH kS hr (cF (pv 0)))))))));obtain⟨pp,vs,rfl,e1,rvs⟩:=cW.d9 hp;have hvl:vs.length=ps.length:=by rw[rvs.len,LU]
  refine⟨_,rfl,pp,rfl,⟨_,cE.of e1⟩,λ acc na=>?_⟩;refine ke (K:=K) (a:=pp) (xs:=vs) (λ i ys LR H'=>∃(c1:Option V),LR=[c1]/\H' acc=some (.lst ys)/\dh H' ys ((ps.take i).map iE)/\cy H H') ?_ ?_ ?_ ?_
  ·exact⟨none,rfl,cu,.nil,cy.new na⟩
  ·rintro i ys LR H1 hi ⟨c1,rfl,ha,rd,s1⟩;have:=rd.len;rw[LU,Mu] at this;exact⟨cE.of (s1 _ _ e1),ha,cV ⋯⟩
  ·rintro i x ys LR H1 hx ⟨c1,rfl,ha,rd,s1⟩;have hlt:i<ps.length:=by have:=(Md.mp hx).1;omega
   have hpi:ps[i]?=some ps[i]:=by simp[hlt]
   generalize ps[i]=pce at hpi;obtain⟨ds,e⟩:=pce;obtain⟨p',xs',pc,da,ea,ws,ep,e1',el',hx',e2,e3,r3,e4⟩:=gX hp hpi;cases ep;rw[e1] at e1';cases e1';rw[hx] at hx';cases hx';refine dW ?_
   first | (change ∃v,_/\_) | ((try refine dW ?_);refine iw ?_;refine eI ?_)
   refine⟨_,rfl,pc,da,ea,ws,ds,e,rfl,s1 _ _ e2,s1 _ _ e3,r3.same s1 (dq ds),s1 _ _ e4,λ v H2 rv s2=>?_⟩;have ha2:=s2 _ _ ha;refine⟨ha2,_,rfl,cu,?_,(s1.trans s2).put na⟩;rw[take1 hpi,L4];have kt:∀p zs,H2 p=some (.tup zs)->(upd H2 acc (.lst (ys++[v]))) p=some (.tup zs):=λ p zs e=>by rw[cx (dD e ha2 (by intro z;cases z))];exact e
   exact dh.app ((rd.same s2 (qg _)).dr kt (qg _)) (rv.dr kt (tE _))
  ·rintro ys LR H1 ⟨c1,rfl,ha,rd,s1⟩;rw[hvl,Mn] at rd;refine⟨acc,ys,ps.map iE,rfl,ha,rd,(λ d hd=>by obtain⟨p,hp,rfl⟩:=Mb.mp hd;exact Gu lay hp),(by rw[LU];exact hn),λ l H2 hl nl s2=>?_⟩;exact q l H2 hl (s1.free nl) (s1.trans s2)
theorem GK {fd:FuncData} (F:eC K "alike" "alike" wC f fd) (Z:Bl mg) (N:Own P w K mg base "ways_of" 4 ["plan"] zC) (D:Own P w K mg base "surface_groups" 6 ["plan"] xN) (G:Own P w K mg base "least_places" 1 ["keys"] wm):dB P w K mg base d7 7 f fd ["plan"] wo:=by
  refine F.ok (k:=6) lF (λ vs H Q E h=>?_) (λ aB A outer s H vs Q E hr h=>?_)
  . obtain⟨aw,ps,rfl,_⟩:=h
    rfl
  . obtain⟨aw,ps,rfl,hp,an,lay,aD,hn,q⟩:=h
    refine⟨_,(cw (cU (i:=1) lF.nd (cH N hr (cF (pv 0))))
      (cw (cU (i:=2) lF.nd (fh fg))
      (cw (cU (i:=3) lF.nd (cH D hr (cF (pv 0))))
      (cw (mM PassesOwn.never (cP (qE hr.units) (pv 3) (pv 2) (cX _))
      (cw (cU (i:=2) lF.nd (pv 3))
      (cB (cU (i:=3) lF.nd (cH G hr (cF (fL ["at", "row"] ["before"] [2] rfl (wb rfl Z.enumerate (cF (pv 1))) rfl ⋯ ⋯ ⋯ ⟨⟨rfl,.inl rfl,rfl⟩,True.intro⟩ (λ _ _ _ _=>(oz (K:=K) (n:=2) rfl (fw (n:=2) rfl (cR (cJ (i:=0) (show ((["at", "row"]:List Str)++(["before"]:List Str)).Nodup by decide) (hf:=Mg rfl)) (cR (cJ (i:=1) (show ((["at", "row"]:List Str)++(["before"]:List Str)).Nodup by decide) (hf:=Mg rfl)) eX))))) (λ _ _ _ _=>fx) (λ _ _ _ _=>(dH (cS (cI (tV (K:=K) rfl) (pv 2) (pv 0)) (cZ (we (K:=K) rfl) rfl Z.tuple dI (cF (fL ["way"] ["before"] [2] rfl ((IH (K:=K) rfl) (pv 1)) rfl ⋯ ⋯ ⋯ ⟨⟨rfl,.inl rfl,rfl⟩,True.intro⟩ (λ _ _ _ _=>(cJ (i:=0) (show ((["way"]:List Str)++(["before"]:List Str)).Nodup by decide) (hf:=Mg rfl))) (λ _ _ _ _=>fx) (λ _ _ _ _=>(cI (tV (K:=K) rfl) (pv 1) (pv 0))))))))))))))))
      (cB (cK (cZ cT rfl Z.tuple dI (cF (pv 3))))))))),?_⟩
    try dsimp only[mw,qm]
    refine Hf ?_;intro D0 R4 R3 R2 R1;obtain⟨pp,vs,rfl,e1,ay⟩:=cW.d9 hp;refine⟨_,rfl,_,ps,rfl,hp,hn,λ wl us H1 hw af nw s1=>?_⟩;refine⟨(by show 0<=sizeLine;decide),λ bl nb=>?_⟩;have s2:=cy.new (o:=.lst []) nb;have a4:(upd H1 bl (.lst [])) bl=some (.lst (vN [])):=cu;generalize (upd H1 bl (.lst []))=H2 at s2 a4;refine⟨_,rfl,_,ps,rfl,hp.same (s1.trans s2) (d6 ps),lay,hn,λ gl H3 hg ng s3=>?_⟩;have ai:=s3 _ _ a4;have ab:=s2.trans s3;have ar:us.length=ps.length:=by rw[af.len,LU]
    exists λ m LQ H'=>∃(bl gl:Addr) (B:List Nat) (k:Nat),LQ=[some (.ref pp),some (.ref wl),some (.ref bl),some (.ref gl)]/\H' bl=some (.lst (vN B))/\H' gl=some (.lst (vN (d5 ps k)))/\(B=d5 ps k->i6 ps (d5 ps k))/\m=(if B=d5 ps k then 0 else ps.length*ps.length+1-(d5 ps k).sum)/\cy H1 H',⟨_,bl,gl,[],0,rfl,ai,hg,(λ z=>?_),rfl,ab⟩
    . have:=j8 ps 0
      rw[<-z] at this;exact absurd this (by show (0:Nat)≠_;omega)
    clear ai hg a4 s3 s2 ab ng nb;rintro m LQ H4 ⟨bl,gl,B,k,rfl,hb,hg,ax,rfl,s4⟩;exists _,rfl,_,rfl,.list ((d5 ps k).map fm),.list (B.map fm),.lst hg (iX _),.lst hb (iX _),lY _,lY _,?_,_,rfl
    . have h1:=jE (m:=0) ((d5 ps k).map fm) λ d hd=>by obtain⟨x,_,rfl⟩:=Mb.mp hd;exact LW 0
      have:(PyData.list ((d5 ps k).map fm)).depth=PyData.depthAll ((d5 ps k).map fm)+1:=rfl;omega
    rw[Gw];by_cases hB:B=d5 ps k
    . refine dn (by rw[decide_eq_true hB.symm];rfl) ?_
      refine⟨_,rfl,gl,_,rfl,.inl ⟨cN.of hg,λ t nt=>?_⟩⟩;exact q t _ _ (ax hB) cu ((s1.trans s4).trans (cy.new nt))
    . refine eU (by rw[decide_eq_false λ z=>hB z.symm];rfl) ?_
      rw[if_neg hB];exists _,λ az H' h=>h;exists _,rfl;have ad:=s4 _ _ hw;have as:=af.same s4 (m6 ps);refine⟨_,rfl,wl,rfl,.inr ⟨⟨_,cN.of ad⟩,λ acc na=>?_⟩⟩;have a8:∀{j:Nat},j<ps.length->iL (vN (d5 ps k)) (j:Int)=some (V.int (cL (d5 ps k) j:Nat)):=λ {j} Y=>dN (by
        have aa:j<(d5 ps k).length:=by rw[j8];exact Y
        rw[L6,MB aa];show _=some (V.int (((d5 ps k).getD j 0:Nat):Int));rw[MR,MB aa];rfl)
      have av:(kn ps (d5 ps k)).length=ps.length:=by unfold kn;rw[Ox]
      refine Iv (Sq:=cN K) (a:=wl) (xs:=us) (λ i zs LR H'=>∃(c1 c2:Option V),LR=[c1,c2,some (.ref gl)]/\H' acc=some (.lst zs)/\dh H' zs ((kn ps (d5 ps k)).take i)/\cy H4 H') ?_ ?_ ?_ ?_
      . exact⟨none,none,rfl,cu,.nil,cy.new na⟩
      . rintro i zs LR H5 hi ⟨c1,c2,rfl,ha,rd,s5⟩
        have:=rd.len;rw[Mu] at this;exact⟨cN.of (s5 _ _ ad),ha,cV ⋯⟩
      . rintro i x zs LR H5 t hx ht ⟨c1,c2,rfl,ha,rd,s5⟩
        have hi:i<ps.length:=by have:=(Md.mp hx).1;omega
        have a2:ps[i]?=some ps[i]:=by simp[hi]
        generalize ps[i]=J at a2;obtain⟨x',ac,rx⟩:=as.get (i:=i) (d:=Cw J) (by rw[L6,a2];rfl);rw[hx] at ac;cases ac;obtain⟨wt,ys,rfl,a3,ry⟩:=cW.d9 rx;rw[nX ry] at a3;have s6:=cy.new (o:=.tup [.int (i:Nat),.ref wt]) ht;exists t,_,rfl,cE.of cu,rfl,_,_,rfl,_,_,rfl,rfl;generalize (upd H5 t (.tup [.int (i:Nat),.ref wt]))=H6 at s6 ⊢;have a1:=s5.trans s6;have al:=s6 _ _ ha;have am:=rd.same s6 (mj _ _ _)
        first | (change ∃v,_/\_) | ((try refine dW ?_);refine iw ?_;refine eI ?_)
        exists _,rfl,_,rfl,gl,_,_,_,rfl,rfl,cN.of (a1 _ _ hg),a8 hi;refine⟨_,rfl,wt,rfl,⟨_,cE.of (a1 _ _ a3)⟩,λ ak ah=>?_⟩;have ap:∀{j c:Nat},(cC J.2)[j]?=some c->c<ps.length:=λ {j c} Y=>wj an (L8 a2) (L8 Y)
        refine ke (K:=K) (a:=wt) (xs:=vN (cC J.2)) (λ j zs LR H'=>∃(c:Option V),LR=[c,some (.ref gl)]/\zs=vN (((cC J.2).take j).map (cL (d5 ps k)))/\H' ak=some (.lst zs)/\cy H6 H') ?_ ?_ ?_ ?_
        . exact⟨none,rfl,rfl,cu,cy.new ah⟩
        . rintro j ae LR H7 Y ⟨c,rfl,rfl,a0,s7⟩
          exists cE.of (s7 _ _ (a1 _ _ a3)),a0;have aC:=pJ J.2;rw[LU,LU,Mu];exact cV ⋯
        . rintro j y ae LR H7 Y ⟨c,rfl,rfl,a0,s7⟩
          obtain⟨c0,a7,rfl⟩:∃k,(cC J.2)[j]?=some k/\y=V.int (k:Nat):=by
            rw[L6] at Y;cases z:(cC J.2)[j]? with
            | none=>rw[z] at Y;cases Y
            | some k=>rw[z] at Y;exact⟨k,rfl,(Mf.inj Y).symm⟩
          refine dW ?_
          first | (change ∃v,_/\_) | ((try refine dW ?_);refine iw ?_;refine eI ?_)
          exists _,rfl,_,rfl,gl,_,_,_,rfl,rfl,cN.of (s7 _ _ (a1 _ _ hg)),a8 (ap a7);refine⟨a0,_,rfl,?_,cu,s7.put ah⟩;rw[take1 a7,L4];show _=List.map _ (_++_);rw[L4];rfl
        . rintro ae LR H7 ⟨c,rfl,rfl,a0,s7⟩
          rw[LU,Mn] at a0;refine⟨ak,_,rfl,.inl ⟨cN.of a0,λ t2 au=>⟨ln2,λ t3 ag=>?_⟩⟩⟩;have s8:=cy.new (o:=.tup (vN ((cC J.2).map (cL (d5 ps k))))) au;have aj:(upd H7 t2 (.tup (vN ((cC J.2).map (cL (d5 ps k)))))) t2=_:=cu;generalize (upd H7 t2 (.tup (vN ((cC J.2).map (cL (d5 ps k))))))=H8 at s8 aj ag;have s9:=cy.new (o:=.tup [.int (cL (d5 ps k) i:Nat),.ref t2]) ag;have a6:(upd H8 t3 (.tup [.int (cL (d5 ps k) i:Nat),.ref t2])) t3=_:=cu;generalize (upd H8 t3 (.tup [.int (cL (d5 ps k) i:Nat),.ref t2]))=H9 at s9 a6 ⊢;have a5:=(s7.trans s8).trans s9;have a9:=a5 _ _ al;refine⟨a9,_,_,rfl,cu,?_,(a1.trans a5).put na⟩;rw[take1 (nQ a2)];have kt:∀p us,H9 p=some (.tup us)->(upd H9 acc (.lst (zs++[.ref t3]))) p=some (.tup us):=λ p us e=>by rw[cx (dD e a9 (by intro z;cases z))];exact e
          refine dh.app ((am.same a5 (mj _ _ _)).dr kt (mj _ _ _)) ?_;exact .tup (kt _ _ a6) (.cons (.int _) (.cons (.tup (kt _ _ (s9 _ _ aj)) (iX _)) .nil))
      . rintro zs LR H5 ⟨c1,c2,rfl,ha,rd,s5⟩
        rw[ar,<-av,Mn] at rd;refine⟨acc,zs,_,rfl,ha,rd,(λ d hd=>?_),⋯,λ l H6 hl nl s6=>?_⟩
        . obtain⟨j,Y⟩:=Ni hd
          have ao:j<ps.length:=by have:=(Md.mp Y).1;omega
          have aq:ps[j]?=some ps[j]:=by simp[ao]
          rw[nQ aq] at Y;cases Y;exact Gv _ _ _
        . refine⟨_,?_,gl,l,d5 ps k,k+1,rfl,s6 _ _ (s5 _ _ hg),hl,(λ z=>?_),rfl,(s4.trans s5).trans s6⟩
          . by_cases z:d5 ps k=d5 ps (k+1)
            . rw[if_pos z]
              have:=Bk ps k;omega
            . rw[if_neg z]
              have:=Bk ps (k+1);have:=Gk λ y=>z y.symm
              omega
          . exact⟨k,z.symm,z.symm⟩
theorem EN {fd:FuncData} (F:eC K "joined" "joined" uh f fd) (Z:Bl mg) (gt:Own P w K mg base "alike" 7 ["plan"] wo) (ld:Own P w K mg base "with_steads" 5 ["plan", "steads"] xO):dB P w K mg base d7 8 f fd ["plan"] zD:=by
  refine F.ok (k:=7) ma (λ vs H Q E h=>?_) (λ cdv A outer s H vs Q E hr h=>?_)
  . obtain⟨plv,ps,rfl,_⟩:=h
    rfl
  . obtain⟨plv,ps,rfl,hp,hin,lay,hn0,hn,q⟩:=h
    refine⟨_,(cw (cU (i:=1) ma.nd (cH gt hr (cF (pv 0))))
      (cw (fz (cH ld hr (cS (pv 0) (pv 1))) (fw rfl (cR (cJ (i:=2) ma.nd) (cR (cJ (i:=3) ma.nd) eX))))
      (cw (cU (i:=4) ma.nd (Gg ["place", "stead"] [] [] rfl (wb rfl Z.enumerate (cF (pv 3))) rfl ⋯ ⋯ ⋯ True.intro (λ _ _ _ _=>(oz (K:=K) (n:=2) rfl (fw (n:=2) rfl (cR (cJ (i:=0) (show ((["place", "stead"]:List Str)++([]:List Str)).Nodup by decide) (hf:=Mg rfl)) (cR (cJ (i:=1) (show ((["place", "stead"]:List Str)++([]:List Str)).Nodup by decide) (hf:=Mg rfl)) eX))))) (λ _ _ _ _=>fx) (λ _ _ _ _=>(pv 1)) (λ _ _ _ _=>(pv 0))))
      (cB (cK (dH (cS (pv 2) (cZ cT rfl Z.tuple dI (cF (fL ["stead"] ["places"] [4] rfl (hH (pv 1)) rfl ⋯ ⋯ ⋯ ⟨⟨rfl,.inl rfl,rfl⟩,True.intro⟩ (λ _ _ _ _=>(cJ (i:=0) (show ((["stead"]:List Str)++(["places"]:List Str)).Nodup by decide) (hf:=Mg rfl))) (λ _ _ _ _=>fx) (λ _ _ _ _=>(Fq (fM hr) (pv 1) (pv 0) ⟨rfl,rfl,rfl,rfl⟩)))))))))))),?_⟩
    obtain⟨pp,vs,rfl,e1,rvs⟩:=cW.d9 hp;refine⟨_,rfl,_,ps,rfl,hp,hin,lay,hn0,hn,λ t G H1 hG ht s1=>?_⟩;have hGb:∀k∈G,k<ps.length:=λ k hk=>by
      obtain⟨a,ha,rfl⟩:=wg hk;exact hG.lt (by rw[<-hG.len];exact ha)
    have hGl:=hG.len;have hst:∀{j:Nat},j<ps.length->cL G j<ps.length:=λ hj=>hG.lt hj
    refine⟨_,rfl,_,rfl,_,t,ps,G,rfl,hp.same s1 (d6 ps),hin,ht,hGl,hn0,hn,hGb,λ v H2 rv s2=>?_⟩;have hq:=q;unfold sx at hq;have mnd:(eQ ps (cL G) ps.length [cL G 0] []).1.Nodup:=zE _ (by simp);have mbl:∀x∈(eQ ps (cL G) ps.length [cL G 0] []).1,x<ps.length:=zF (λ p hp w hw=>hst (wj hin hp hw)) _ (λ x hx=>by rw[LX.mp hx];exact hst hn0);generalize hL:eQ ps (cL G) ps.length [cL G 0] []=L at rv mnd mbl;obtain⟨ms,outs⟩:=L;have hml:ms.length<=ps.length:=gO mnd mbl;obtain⟨tp,xs,rfl,htp,rx⟩:=cW.d9 rv;cases rx with
    | @cons x1 _ _ _ rx1 rx2 =>
    cases rx2 with
    | @cons x2 _ _ _ rx2 rx3 =>
    cases rx3;obtain⟨ot,ys,rfl,hot,ro⟩:=cW.d9 rx2;rw[nX ro] at hot;exists tp,_,rfl,cE.of htp,rfl,_,_,rfl,_,_,rfl,rfl;refine⟨_,rfl,ot,rfl,.inl ⟨⟨_,cE.of hot⟩,λ acc na=>?_⟩⟩;refine IJ (Sq:=cE K) (a:=ot) (xs:=vN ms) (λ i kv LR H'=>∃(c1 c2:Option V),LR=[c1,c2]/\H' acc=some (.dK kv)/\kv.length<=i/\(∀k:Nat,fF kv (Sum.inl (k:Int):Key)=if k∈ms.take i then some (.int (ms.idxOf k:Nat)) else none)/\cy H2 H') ?_ ?_ ?_ ?_
    . exact⟨none,none,rfl,cu,LW _,(λ k=>by simp[fF]),cy.new na⟩
    . rintro i kv LR H3 hi ⟨c1,c2,rfl,ha,hk,hv,s3⟩
      rw[LU] at hi;exact⟨cE.of (s3 _ _ hot),ha,cV ⋯⟩
    . rintro i x kv LR H3 t' hx ht' ⟨c1,c2,rfl,ha,hk,hv,s3⟩
      obtain⟨k0,hk0,rfl⟩:∃k,ms[i]?=some k/\x=V.int (k:Nat):=by
        rw[L6] at hx;cases z:ms[i]? with
        | none=>rw[z] at hx;cases hx
        | some k=>rw[z] at hx;exact⟨k,rfl,(Mf.inj hx).symm⟩
      have s4:=cy.new (o:=.tup [.int (i:Nat),.int (k0:Nat)]) ht';exists t',_,rfl,cE.of cu,rfl,_,_,rfl,_,_,rfl,rfl;generalize (upd H3 t' (.tup [.int (i:Nat),.int (k0:Nat)]))=H4 at s4 ⊢;have ha4:=s4 _ _ ha
      first | (change ∃v,_/\_) | ((try refine dW ?_);refine iw ?_;refine eI ?_)
      refine⟨_,rfl,_,rfl,Sum.inl (k0:Int),rfl,ha4,_,_,rfl,cu,?_,λ k=>?_,(s3.trans s4).put na⟩
      . have:=Ey kv (Sum.inl (k0:Int)) (V.int (i:Nat))
        omega
      . rw[o5,take1 hk0,hv k]
        by_cases e:k=k0
        . subst e
          rw[if_pos rfl,if_pos (Mm _ (LX.mpr rfl)),lZ mnd hk0]
        . rw[if_neg (λ z=>e (by injection z with z;omega))]
          by_cases e2:k∈ms.take i
          . rw[if_pos e2,if_pos (MF _ e2)]
          . rw[if_neg e2,if_neg λ z=>(Mh.mp z).elim e2 λ z=>e (LX.mp z)]
    . rintro kv LR H3 ⟨c1,c2,rfl,ha,hk,hv,s3⟩
      rw[LU,Mn] at hv;have ht3:=s3 _ _ (s2 _ _ ht);refine⟨_,rfl,_,rfl,t,rfl,⟨_,cE.of ht3⟩,λ ac2 na2=>?_⟩;refine ke (K:=K) (a:=t) (xs:=vN G) (λ i ys LR H'=>∃(c:Option V),LR=[c,some (.ref acc)]/\H' ac2=some (.lst ys)/\dh H' ys ((G.take i).map λ g=>if g∈ms then fm (ms.idxOf g) else PyData.none)/\cy H3 H') ?_ ?_ ?_ ?_
      . exact⟨none,rfl,cu,.nil,cy.new na2⟩
      . rintro i ys LR H4 hi ⟨c,rfl,ha4,rd,s4⟩
        have:=rd.len;rw[LU,Mu] at this;exact⟨cE.of (s4 _ _ ht3),ha4,cV ⋯⟩
      . rintro i x ys LR H4 hx ⟨c,rfl,ha4,rd,s4⟩
        obtain⟨g0,hg0,rfl⟩:∃k,G[i]?=some k/\x=V.int (k:Nat):=by
          rw[L6] at hx;cases z:G[i]? with
          | none=>rw[z] at hx;cases hx
          | some k=>rw[z] at hx;exact⟨k,rfl,(Mf.inj hx).symm⟩
        refine dW ?_
        first | (change ∃v,_/\_) | ((try refine dW ?_);refine iw ?_;refine eI ?_)
        have hd4:=s4 _ _ ha;exists _,rfl,acc,rfl,.inl ⟨kv,.inl hd4⟩,_,rfl,_,fS.k (k:=Sum.inl (g0:Int)) hd4;rw[hv g0];refine⟨ha4,_,rfl,cu,?_,s4.put na2⟩;rw[take1 hg0,L4];have rd':=rd.put (o:=.lst (ys++[(if g0∈ms then some (V.int (ms.idxOf g0:Nat)) else none).getD .eu])) ha4 (iR _ _);refine dh.app rd' ?_;by_cases e:g0∈ms
        . simp only[if_pos e];exact .int _
        . simp only[if_neg e];exact .eu
      . rintro ys LR H4 ⟨c,rfl,ha4,rd,s4⟩
        rw[LU,Mn] at rd;refine⟨ac2,_,rfl,.inl ⟨cN.of ha4,λ t2 nt2=>⟨ln2,λ t3 nt3=>?_⟩⟩⟩;have s5:=cy.new (o:=.tup ys) nt2;have ht2:(upd H4 t2 (.tup ys)) t2=_:=cu;generalize (upd H4 t2 (.tup ys))=H5 at s5 ht2 nt3;have s6:=cy.new (o:=.tup [x1,.ref t2]) nt3;have s26:=((s3.trans s4).trans s5).trans s6;refine hq (.ref t3) G _ hG ?_ ((s1.trans s2).trans s26);rw[hL];refine .tup cu (.cons ?_ (.cons (.tup (s6 _ _ ht2) (rd.same (s5.trans s6) (iR _ _))) .nil));exact rx1.same s26 (cO _)
theorem zP {fd:FuncData} (F:eC K "answer_of" "answer_of" nZ f fd) (Z:Bl mg) (B:Own P w K mg base "part_of" 3 ["stretch", "word", "number", "side"] (wa K)):dB P w K mg base d7 4 f fd ["stretch", "word", "number"] G0:=by
 refine F.ok (k:=3) zM (λ vs H Q E h=>?_) (λ a1 A outer s H vs Q E hr h=>?_)
 ·obtain⟨p,w,n,lo,hi,rfl,_⟩:=h;rfl
 ·obtain⟨p,w,n,lo,hi,rfl,hp,q⟩:=h;refine⟨_,(cw (dJ (jm (j9 (cH B hr (wu (pv 0) (pv 1) (pv 2) lK))))
   (cB (cK dA))
   du)
   (cw (dJ (jm (j9 (cH B hr (wu (pv 0) (pv 1) (pv 2) lK))))
   (cB (cK dA))
   du)
   (cB (cK dA)))),?_⟩
  refine⟨_,rfl,_,rfl,_,rfl,p,w,n,false,lo,hi,rfl,cE.of hp,λ v H1 r G=>⟨_,rfl,?_⟩⟩;cases e:gF w lo hi n false with
  | none =>
   rw[e] at r;cases (show v=V.eu from r);exact eI (by have D:=q H1 G;rw[e] at D;exact D)
  | some ab =>
   rw[e] at r;obtain⟨a,b⟩:=ab;obtain⟨l,rfl,hl⟩:=r;refine fB ?_;refine⟨_,rfl,_,rfl,_,rfl,p,w,n,true,lo,hi,rfl,cE.of (G _ _ hp),λ v2 N J Y=>⟨_,rfl,?_⟩⟩;cases e2:gF w lo hi n true with
   | none =>
    rw[e2] at J;cases (show v2=V.eu from J);exact eI (by have D:=q N (G.trans Y);rw[e,e2] at D;exact D)
   | some cd =>
    rw[e2] at J;obtain⟨c,d⟩:=cd;obtain⟨l2,rfl,a0⟩:=J;exact fB (by have D:=q N (G.trans Y);rw[e,e2] at D;exact D)
theorem wJ {fd:FuncData} (F:eC K "worth" "Stand.worth" mr f fd) (Z:Bl mg)  (T:nG K C)  : dB P w K mg base d7 1 f fd ["self", "name"] (vQ C):=by
 refine F.ok (k:=0) wF (λ vs H Q E h=>?_) (λ N A outer s H vs Q E J h=>?_)
 ·obtain⟨p,pl,d,nl,sl,D,nums,S,m,x,rfl,_⟩:=h;rfl
 ·obtain⟨p,pl,d,nl,sl,D,nums,S,m,x,rfl,A,q⟩:=h;exists _,(cB (cK (ib (fM J) (dZ (pv 0) rfl) (pv 1) cA ⟨rfl,rfl,rfl,rfl⟩)));obtain⟨G,B⟩:=A.ob;obtain⟨kvs,hd,dw,Y⟩:=A.dict;exact⟨_,rfl,p,C,G,_,_,rfl,B,T.cl,T.jo,lT,d,rfl,.inl ⟨kvs,.inl hd⟩,_,rfl,_,_,fS.k (k:=Sum.inr x) hd,dw x,q⟩
theorem vz {fd:FuncData} (F:eC K "coming" "Stand.coming" lG f fd) (Z:Bl mg)  (T:nG K C)  : dB P w K mg base d7 1 f fd ["self"] (yU C):=by
 refine F.ok (k:=0) ku (λ vs H Q E h=>?_) (λ a4 A outer s H vs Q E hr h=>?_)
 ·obtain⟨p,pl,d,nl,sl,a0,nums,S,m,ps,ds,e,rfl,_⟩:=h;rfl
 ·obtain⟨p,pl,d,nl,sl,a0,nums,S,m,ps,ds,e,rfl,A,hp,hx,q⟩:=h;refine⟨_,(cw (fI (fz (cI df (dZ (pv 0) rfl) (cI eY (dZ (pv 0) rfl) (GS C6 cA))) (fw rfl (cR (cJ (i:=1) ku.nd) (cR (cJ (i:=2) ku.nd) eX)))))
   (cB (cK (gW (cP jh (dZ (pv 0) rfl) (cY cM rfl Z.len dU (cF (pv 1))) (cX _)) (cI df (pv 1) (dZ (pv 0) rfl)) (pv 2))))),?_⟩
  obtain⟨J,B⟩:=A.ob;obtain⟨pp,xs,pc,Y,ea,vs,rfl,e1,el,N,e2,e3,r3,e4⟩:=gX hp hx;have a3:vs.length=ds.length:=by rw[r3.len,LU]
  exists λ G H'=>G=[some (.ref p),some (.ref Y),some (.ref ea)]/\H=H',⟨_,rfl,p,C,J,_,_,rfl,B,T.cl,T.pieces,xc,_,rfl,p,C,J,_,_,rfl,B,T.cl,T.gN,nF,_,rfl,pl,_,_,_,rfl,rfl,cN.of A.gN,A.AD,pp,xs,_,_,rfl,rfl,cE.of e1,dN N,pc,_,rfl,cE.of e2,rfl,_,_,rfl,_,_,rfl,rfl,rfl,rfl⟩;rintro G H' ⟨rfl,rfl⟩;exists _,rfl,p,C,J,_,_,rfl,B,T.cl,T.place,iU,_,rfl,Y,_,rfl,.inr (cE.of e3),_,_,rfl,rfl,_,rfl;refine fR (λ hc=>?_) (λ hc=>?_)
  ·have a6:S.place<vs.length:=by have:=of_decide_eq_true hc;omega
   have D:ds[S.place]?=some (ds[S.place]'⋯):=by simp[show S.place<ds.length by omega]
   generalize a2:ds[S.place]'⋯=dd at D;obtain⟨v,hv,rd⟩:=r3.get (i:=S.place) (d:=eN dd) (by rw[L6,D];rfl);obtain⟨dp,rfl,a1⟩:=oF rd;exact⟨_,rfl,_,rfl,p,C,J,_,_,rfl,B,T.cl,T.place,iU,Y,_,_,_,rfl,rfl,cE.of e3,dN hv,q _ (.JM dd dp D rfl a1)⟩
  ·have a5:¬S.place<vs.length:=λ z=>hc (decide_eq_true ⋯)
   exact⟨_,rfl,q _ (.end_ ea (by simp;omega) rfl e4)⟩
theorem oW {fd:FuncData} (F:eC K "lacks_number" "Stand.lacks_number" i5 f fd) (Z:Bl mg)  (T:nG K C) (B:jZ P w K mg base C "coming" 1 ["self"] (yU C)):dB P w K mg base d7 2 f fd ["self"] (AE C):=by
 refine F.ok (k:=1) oV (λ vs H Q E h=>?_) (λ a0 A outer s H vs Q E hr h=>?_)
 ·obtain⟨p,pl,d,nl,sl,J,nums,S,m,ps,rfl,_⟩:=h;rfl
 ·obtain⟨p,pl,d,nl,sl,J,nums,S,m,ps,rfl,A,hp,Y,q⟩:=h;exists _,(cB (cK (C1 (kM eF (cI df (mU B (pv 0) (hr.mono ⋯)) cA) dA (cX _)) (qx (kM eF (dZ (pv 0) rfl) (cY cM rfl Z.len dU (cF (dZ (pv 0) rfl))) (cX _))))));obtain⟨N,D⟩:=A.ob;have hx:ps[S.dE]?=some ps[S.dE]:=by simp[Y]
  generalize a1:ps[S.dE]=pe at hx;obtain⟨ds,e⟩:=pe;unfold jC at q;rw[hx] at q;dsimp only at q;refine⟨_,rfl,p,N,_,rfl,D,Dx,p,pl,d,nl,sl,J,nums,S,m,ps,ds,e,rfl,A,hp,hx,λ v G=>?_⟩;cases G with
  | JM dd w h G hw =>
   subst G;rw[h] at q;dsimp only at q;cases dd
   case read x =>
    exists w,_,0,_,rfl,rfl,cE.of hw,eG,rfl,_,rfl;refine eU (show decide (V.str "read" = V.str "read")=true by decide) ?_;exists _,rfl,p,C,N,_,_,rfl,D,T.cl,T.taken,tQ,_,rfl,p,C,N,_,_,rfl,D,T.cl,T.vP,uO,nl,_,rfl,.inl (cN.of A.nums),rfl;have ez:decide (V.int (S.taken:Int)=V.int ((nums.map V.int).length:Nat))=(oG (.read x)&&decide (S.taken=nums.length)):=by
     rw[Ar,LU];show _=decide (S.taken=nums.length);by_cases hh:S.taken=nums.length
     ·rw[hh];simp
     ·rw[decide_eq_false hh];exact beq_false_of_ne λ z=>hh ⋯
    rw[ez];exact q
   case put x n =>
    exists w,_,0,_,rfl,rfl,cE.of hw,eG,rfl,_,rfl;exact dn (show decide (V.str "put" = V.str "read")=false by decide) q
   case copy x n =>
    exists w,_,0,_,rfl,rfl,cE.of hw,eG,rfl,_,rfl;exact dn (show decide (V.str "copy" = V.str "read")=false by decide) q
   case add x n =>
    exists w,_,0,_,rfl,rfl,cE.of hw,eG,rfl,_,rfl;exact dn (show decide (V.str "add" = V.str "read")=false by decide) q
   case tell x =>
    exists w,_,0,_,rfl,rfl,cE.of hw,eG,rfl,_,rfl;exact dn (show decide (V.str "tell" = V.str "read")=false by decide) q
  | end_ w h G hw =>
   subst G;rw[h] at q;dsimp only at q;cases e
   case stop =>
    exists w,_,0,_,rfl,rfl,cE.of hw,eG,rfl,_,rfl;exact dn (show decide (V.str "stop" = V.str "read")=false by decide) q
   case go x =>
    exists w,_,0,_,rfl,rfl,cE.of hw,eG,rfl,_,rfl;exact dn (show decide (V.str "go" = V.str "read")=false by decide) q
   case eM b x n u v =>
    exists w,_,0,_,rfl,rfl,cE.of hw,eG,rfl,_,rfl;refine dn ?_ q;cases b
    ·show decide (V.str "is" = V.str "read")=false;decide
    ·show decide (V.str "less" = V.str "read")=false;decide
theorem uq {fd:FuncData} (F:eC K "is_held" "Stand.is_held" ky f fd) (Z:Bl mg)  (T:nG K C) (B:jZ P w K mg base C "lacks_number" 2 ["self"] (AE C)):dB P w K mg base d7 3 f fd ["self"] (DF C):=by
 refine F.ok (k:=2) ui (λ vs H Q E h=>?_) (λ a0 A outer s H vs Q E Y h=>?_)
 ·obtain⟨p,pl,d,nl,sl,G,nums,S,m,ps,rfl,_⟩:=h;rfl
 ·obtain⟨p,pl,d,nl,sl,G,nums,S,m,ps,rfl,A,hp,J,q⟩:=h;exists _,(cB (cK (Bu (dZ (pv 0) rfl) (qx (mU B (pv 0) (Y.mono ⋯))))));obtain⟨N,D⟩:=A.ob;unfold ir at q;exists _,rfl,p,C,N,_,_,rfl,D,T.cl,T.over,AB,_,rfl;cases ho:decide (S.word=("stop" : Str)) with
  | true =>
   refine eU rfl ?_;rw[ho] at q;exact q
  | false =>
   refine dn rfl ?_;rw[ho] at q;exact⟨_,rfl,p,N,_,rfl,D,uP,p,pl,d,nl,sl,G,nums,S,m,ps,rfl,A,hp,J,q⟩
theorem pZ {fd:FuncData} (F:eC K "take_number" "Stand.take_number" jg f fd) (Z:Bl mg)  (T:nG K C)  : dB P w K mg base d7 1 f fd ["self"] (AF C):=by
 refine F.ok (k:=0) pR (λ vs H Q E h=>?_) (λ a0 A outer s H vs Q E hr h=>?_)
 ·obtain⟨p,pl,d,nl,sl,B,nums,S,m,n,rfl,_⟩:=h;rfl
 ·obtain⟨p,pl,d,nl,sl,B,nums,S,m,n,rfl,A,hn,q⟩:=h;refine⟨_,(cw (wR (pv 0) cA C9)
   (cB (cK (cI eY (dZ (pv 0) rfl) (dt gJ (dZ (pv 0) rfl) cA))))),?_⟩
  obtain⟨Y,G⟩:=A.ob;exists _,rfl,p,C,Y,_,_,rfl,G,T.cl,T.taken,tQ,_,_,rfl,rfl,Y,_,G,(by show 8<1000;decide);have N:dX C (upd H p (.ins C Y (fA "taken" (.int ((S.taken:Int)+1)) (iB B (.ref pl) (.int S.place) (.ref d) (.ref nl) (.int S.taken) (.ref sl) (.bl (decide (S.word = "stop"))))))) p pl d nl sl B nums { S with taken:=S.taken+1 } m :=
   A.obj (by rw[Fv];rfl) rfl rfl rfl rfl
  have q1:=q _ N fk.nH;clear q;revert N q1;generalize (upd H p (.ins C Y (fA "taken" (.int ((S.taken:Int)+1)) (iB B (.ref pl) (.int S.place) (.ref d) (.ref nl) (.int S.taken) (.ref sl) (.bl (decide (S.word = "stop")))))))=H1;intro N q1;obtain⟨J,D⟩:=N.ob;refine⟨_,rfl,p,C,J,_,_,rfl,D,T.cl,T.vP,uO,_,rfl,p,C,J,_,_,rfl,D,T.cl,T.taken,tQ,_,_,rfl,rfl,nl,_,_,_,rfl,rfl,cN.of N.nums,?_,q1⟩;have e1:(((S.taken+1:Nat):Int)-1)=(S.taken:Nat):=by omega
  show iL (nums.map V.int) (((S.taken+1:Nat):Int)-1)=some (V.int n);rw[e1];exact dN (by rw[L6,hn];rfl)
theorem ur {fd:FuncData} (F:eC K "do_deed" "Stand.do_deed" kA f fd) (Z:Bl mg)  (T:nG K C) (B:jZ P w K mg base C "worth" 1 ["self", "name"] (vQ C)) (G:jZ P w K mg base C "take_number" 1 ["self"] (AF C)):dB P w K mg base d7 2 f fd ["self", "deed"] (yV C):=by
  refine F.ok (k:=1) nc (λ vs H Q E h=>?_) (λ a9 A outer s H vs Q E hr h=>?_)
  . obtain⟨p,pl,d,nl,sl,w,a0,nums,S,m,dd,rfl,_⟩:=h
    rfl
  . obtain⟨p,pl,d,nl,sl,w,a0,nums,S,m,dd,rfl,A,hw,a4,hm,q⟩:=h
    refine⟨_,(cw (fI (C2 (i:=2) (j:=3) rfl nc.nd rfl rfl ⋯ rfl rfl (cS (cI df (pv 1) cA) (cI df (pv 1) cA)) rfl))
      (cw (dJ (cP eF (pv 2) dA (cX _))
      (cB (iP (fM hr) (dZ (pv 0) rfl) (pv 3) (cI df (pv 1) cA) rfl))
      (cB (dJ (cP eF (pv 2) dA (cX _))
      (cB (iP (fM hr) (dZ (pv 0) rfl) (pv 3) (i9 B (pv 0) (hr.mono ⋯) (cF (cI df (pv 1) cA))) rfl))
      (cB (dJ (cP eF (pv 2) dA (cX _))
      (cB (iP (fM hr) (dZ (pv 0) rfl) (pv 3) (dt fH (i9 B (pv 0) (hr.mono ⋯) (cF (pv 3))) (cI df (pv 1) cA)) rfl))
      (cB (dJ (cP eF (pv 2) dA (cX _))
      (cB (iP (fM hr) (dZ (pv 0) rfl) (pv 3) (mU G (pv 0) (hr.mono ⋯)) rfl))
      (cB (eJ (gr PySem.F.plainAttrs_list PySem.F.slot_list_append PySem.F.type_list_append fo (dZ (pv 0) rfl) (cF (i9 B (pv 0) (hr.mono ⋯) (cF (pv 3))))))))))))))
      (cB (wR (pv 0) cA C9)))),?_⟩
    obtain⟨dx,Y⟩:=A.ob;obtain⟨kvs,hd,dw,hk⟩:=A.dict;cases dd
    case put x n =>
        exists λ J H'=>J=[some (.ref p),some (.ref w),some (.str "put"),some (.str x)]/\H=H',⟨_,rfl,w,_,0,_,rfl,rfl,cE.of hw,eG,_,rfl,w,_,1,_,rfl,rfl,cE.of hw,gQ,_,_,rfl,rfl,rfl⟩;rintro J H' ⟨rfl,rfl⟩;exists _,rfl,rfl,_,rfl;refine eU (show decide (V.str "put" = V.str "put")=true by decide) ?_;exists _,rfl,w,_,2,_,rfl,rfl,cE.of hw,at2,_,rfl,p,C,dx,_,_,rfl,Y,T.cl,T.jo,lT,_,rfl,d,_,rfl,jW.k (k:=Sum.inr x) hd (fG ⋯);have A1:=A.jo (x:=x) (n:=n) hd dw hk;obtain⟨N,D⟩:=A1.ob;exists _,rfl,p,C,N,_,_,rfl,D,T.cl,T.place,iU,_,_,rfl,rfl,N,_,D,(by show 8<1000;decide);exact q _ (A1.obj (by rw[kQ];rfl) rfl rfl rfl rfl) (fk.mD.trans fk.nH)
    case copy x y =>
        exists λ J H'=>J=[some (.ref p),some (.ref w),some (.str "copy"),some (.str x)]/\H=H',⟨_,rfl,w,_,0,_,rfl,rfl,cE.of hw,eG,_,rfl,w,_,1,_,rfl,rfl,cE.of hw,gQ,_,_,rfl,rfl,rfl⟩;rintro J H' ⟨rfl,rfl⟩;exists _,rfl,rfl,_,rfl;refine dn (show decide (V.str "copy" = V.str "put")=false by decide) ?_;exists _,rfl,rfl,_,rfl;refine eU (show decide (V.str "copy" = V.str "copy")=true by decide) ?_;exists _,rfl,p,dx,_,rfl,Y,o9,_,rfl,w,_,2,_,rfl,rfl,cE.of hw,at2,p,pl,d,nl,sl,a0,nums,S,m,y,rfl,A,_,rfl,p,C,dx,_,_,rfl,Y,T.cl,T.jo,lT,_,rfl,d,_,rfl,jW.k (k:=Sum.inr x) hd (fG ⋯);have A1:=A.jo (x:=x) (n:=S.w y) hd dw hk;obtain⟨N,D⟩:=A1.ob;exists _,rfl,p,C,N,_,_,rfl,D,T.cl,T.place,iU,_,_,rfl,rfl,N,_,D,(by show 8<1000;decide);exact q _ (A1.obj (by rw[kQ];rfl) rfl rfl rfl rfl) (fk.mD.trans fk.nH)
    case add x n =>
        exists λ J H'=>J=[some (.ref p),some (.ref w),some (.str "add"),some (.str x)]/\H=H',⟨_,rfl,w,_,0,_,rfl,rfl,cE.of hw,eG,_,rfl,w,_,1,_,rfl,rfl,cE.of hw,gQ,_,_,rfl,rfl,rfl⟩;rintro J H' ⟨rfl,rfl⟩;exists _,rfl,rfl,_,rfl;refine dn (show decide (V.str "add" = V.str "put")=false by decide) ?_;exists _,rfl,rfl,_,rfl;refine dn (show decide (V.str "add" = V.str "copy")=false by decide) ?_;exists _,rfl,rfl,_,rfl;refine eU (show decide (V.str "add" = V.str "add")=true by decide) ?_;exists _,rfl,p,dx,_,rfl,Y,o9,_,rfl,p,pl,d,nl,sl,a0,nums,S,m,x,rfl,A,_,rfl,w,_,2,_,rfl,rfl,cE.of hw,at2,_,_,rfl,rfl,_,rfl,p,C,dx,_,_,rfl,Y,T.cl,T.jo,lT,_,rfl,d,_,rfl,jW.k (k:=Sum.inr x) hd (fG ⋯);have A1:=A.jo (x:=x) (n:=S.w x+n) hd dw hk;obtain⟨N,D⟩:=A1.ob;exists _,rfl,p,C,N,_,_,rfl,D,T.cl,T.place,iU,_,_,rfl,rfl,N,_,D,(by show 8<1000;decide);exact q _ (A1.obj (by rw[kQ];rfl) rfl rfl rfl rfl) (fk.mD.trans fk.nH)
    case read x =>
        exists λ J H'=>J=[some (.ref p),some (.ref w),some (.str "read"),some (.str x)]/\H=H',⟨_,rfl,w,_,0,_,rfl,rfl,cE.of hw,eG,_,rfl,w,_,1,_,rfl,rfl,cE.of hw,gQ,_,_,rfl,rfl,rfl⟩;rintro J H' ⟨rfl,rfl⟩;have a7:=a4 rfl;have hn:nums[S.taken]?=some nums[S.taken]:=by simp[a7]
        generalize nums[S.taken]=n at hn;have es:jN nums S (.read x)={ S with w:=jX S.w x n,taken:=S.taken+1,place:=S.place+1 }:=by
          unfold jN;rw[hn]
        rw[es] at q;exists _,rfl,rfl,_,rfl;refine dn (show decide (V.str "read" = V.str "put")=false by decide) ?_;exists _,rfl,rfl,_,rfl;refine dn (show decide (V.str "read" = V.str "copy")=false by decide) ?_;exists _,rfl,rfl,_,rfl;refine dn (show decide (V.str "read" = V.str "add")=false by decide) ?_;exists _,rfl,rfl,_,rfl;refine eU (show decide (V.str "read" = V.str "read")=true by decide) ?_;refine⟨_,rfl,p,dx,_,rfl,Y,vM,p,pl,d,nl,sl,a0,nums,S,m,n,rfl,A,hn,λ H1 A1 b1=>?_⟩;obtain⟨N,D⟩:=A1.ob;obtain⟨a8,a2,a5,a6⟩:=A1.dict;exists _,rfl,p,C,N,_,_,rfl,D,T.cl,T.jo,lT,_,rfl,d,_,rfl,jW.k (k:=Sum.inr x) a2 (fG ⋯);have A2:=A1.jo (x:=x) (n:=n) a2 a5 a6;obtain⟨a3,a1⟩:=A2.ob;exists _,rfl,p,C,a3,_,_,rfl,a1,T.cl,T.place,iU,_,_,rfl,rfl,a3,_,a1,(by show 8<1000;decide);exact q _ (A2.obj (by rw[kQ];rfl) rfl rfl rfl rfl) ((b1.trans fk.mD).trans fk.nH)
    case tell x =>
        exists λ J H'=>J=[some (.ref p),some (.ref w),some (.str "tell"),some (.str x)]/\H=H',⟨_,rfl,w,_,0,_,rfl,rfl,cE.of hw,eG,_,rfl,w,_,1,_,rfl,rfl,cE.of hw,gQ,_,_,rfl,rfl,rfl⟩;rintro J H' ⟨rfl,rfl⟩;exists _,rfl,rfl,_,rfl;refine dn (show decide (V.str "tell" = V.str "put")=false by decide) ?_;exists _,rfl,rfl,_,rfl;refine dn (show decide (V.str "tell" = V.str "copy")=false by decide) ?_;exists _,rfl,rfl,_,rfl;refine dn (show decide (V.str "tell" = V.str "add")=false by decide) ?_;exists _,rfl,rfl,_,rfl;refine dn (show decide (V.str "tell" = V.str "read")=false by decide) ?_;exists _,rfl,p,C,dx,_,_,rfl,Y,T.cl,T.ik,qI,.inl ⟨rfl,_,cN.of A.ik⟩,_,rfl,p,dx,_,rfl,Y,o9,_,rfl,p,pl,d,nl,sl,a0,nums,S,m,x,rfl,A,sl,_,_,rfl,rfl,A.ik,(by rw[LU];exact fG (by have:=A.er.1;omega));have A1:=A.Kv (n:=S.w x);obtain⟨N,D⟩:=A1.ob;exists _,rfl,p,C,N,_,_,rfl,D,T.cl,T.place,iU,_,_,rfl,rfl,N,_,D,(by show 8<1000;decide);exact q _ (A1.obj (by rw[kQ];rfl) rfl rfl rfl rfl) (fk.JL.trans fk.nH)
theorem uu {fd:FuncData} (F:eC K "come_to" "Stand.come_to" kB f fd) (Z:Bl mg)  (T:nG K C)  : dB P w K mg base d7 1 f fd ["self", "piece"] (DD C):=by
 refine F.ok (k:=0) uj (λ vs H Q E h=>?_) (λ a0 A outer s H vs Q E hr h=>?_)
 ·obtain⟨p,pl,d,nl,sl,J,nums,S,m,n,rfl,_⟩:=h;rfl
 ·obtain⟨p,pl,d,nl,sl,J,nums,S,m,n,rfl,A,hm,q⟩:=h;refine⟨_,(cw (eJ (gr PySem.F.plainAttrs_list PySem.F.slot_list_append PySem.F.type_list_append fo (dZ (pv 0) rfl) (cF (pv 1))))
   (cB (iA (pv 0) cA rfl))),?_⟩
  obtain⟨Y,D⟩:=A.ob;exists _,rfl,p,C,Y,_,_,rfl,D,T.cl,T.gN,nF,.inl ⟨rfl,_,cN.of A.gN⟩,_,rfl,pl,_,_,rfl,rfl,A.gN,(by rw[LU];exact fG (by have:=A.er.2;omega));have N:=A.Lq (q:=n);obtain⟨G,B⟩:=N.ob;exists _,rfl,p,C,G,_,rfl,B,T.cl,T.place,(by show 8<1000;decide);exact q _ (N.obj (by rw[kQ];rfl) rfl rfl rfl rfl) (fk.JK.trans fk.nH)
theorem vA {fd:FuncData} (F:eC K "do_end" "Stand.do_end" lH f fd) (Z:Bl mg)  (T:nG K C) (D:jZ P w K mg base C "worth" 1 ["self", "name"] (vQ C)) (B:jZ P w K mg base C "come_to" 1 ["self", "piece"] (DD C)) (G:Own P w K mg base "answer_of" 4 ["stretch", "word", "number"] G0):dB P w K mg base d7 5 f fd ["self", "end"] (AG C):=by
  refine F.ok (k:=4) gg (λ vs H Q E h=>?_) (λ a1 A outer s H vs Q E hr h=>?_)
  . obtain⟨p,pl,d,nl,sl,w,J,nums,S,m,e,rfl,_⟩:=h
    rfl
  . obtain⟨p,pl,d,nl,sl,w,J,nums,S,m,e,rfl,A,Y,hm,q⟩:=h
    refine⟨_,(cB (dJ (cP eF (cI df (pv 1) cA) dA (cX _))
      (cB (iA (pv 0) lK rfl))
      (cB (dJ (cP eF (cI df (pv 1) cA) dA (cX _))
      (cB (eJ (i9 B (pv 0) (hr.mono ⋯) (cF (cI df (pv 1) cA)))))
      (cw (fI (fz (pv 1) (fw rfl (cR (cJ (i:=2) gg.nd) (cR (cJ (i:=3) gg.nd) (cR (cJ (i:=4) gg.nd) (cR (cJ (i:=5) gg.nd) (cR (cJ (i:=6) gg.nd) eX))))))))
      (cw (cU (i:=7) gg.nd (i9 D (pv 0) (hr.mono ⋯) (cF (pv 3))))
      (cB (eJ (i9 B (pv 0) (hr.mono ⋯) (cF (gW (cP eF (cH G hr (iJ (dH (cS (pv 7) (pv 7))) (pv 2) (pv 4))) dA (cX _)) (pv 5) (pv 6)))))))))))),?_⟩
    obtain⟨dx,N⟩:=A.ob;cases e
    case stop =>
      exists _,rfl,w,_,0,_,rfl,rfl,cE.of Y,eG,rfl,_,rfl;refine eU (show decide (V.str "stop" = V.str "stop")=true by decide) ?_;exists _,rfl,p,C,dx,_,rfl,N,T.cl,T.over,(by show 8<1000;decide);refine q _ (dX.mono (m:=m) (A.obj ?_ rfl rfl rfl rfl) (MJ m)) fk.nH;rw[HM];exact congrArg (λ b=>iB J (.ref pl) (.int S.place) (.ref d) (.ref nl) (.int S.taken) (.ref sl) (V.bl b)) (show true=decide (("stop" : Str) = "stop") by decide)
    case go n =>
      exists _,rfl,w,_,0,_,rfl,rfl,cE.of Y,eG,rfl,_,rfl;refine dn (show decide (V.str "go" = V.str "stop")=false by decide) ?_;exists _,rfl,w,_,0,_,rfl,rfl,cE.of Y,eG,rfl,_,rfl;refine eU (show decide (V.str "go" = V.str "go")=true by decide) ?_;exact⟨_,rfl,p,dx,_,rfl,N,uQ,_,rfl,w,_,1,_,rfl,rfl,cE.of Y,gQ,p,pl,d,nl,sl,J,nums,S,m,n,rfl,A,hm,λ H1 A1 b1=>q _ A1 b1⟩
    case eM b x n u v =>
      exists _,rfl,w,_,0,_,rfl,rfl,cE.of Y,eG,rfl,_,rfl;refine dn (by cases b;(show decide (V.str "is" = V.str "stop")=false;decide);(show decide (V.str "less" = V.str "stop")=false;decide)) ?_;exists _,rfl,w,_,0,_,rfl,rfl,cE.of Y,eG,rfl,_,rfl;refine dn (by cases b;(show decide (V.str "is" = V.str "go")=false;decide);(show decide (V.str "less" = V.str "go")=false;decide)) ?_;exists λ a0 H'=>a0=[some (.ref p),some (.ref w),some (.str (wT b)),some (.str x),some (.int n),some (.int u),some (.int v),none]/\H=H',⟨_,rfl,w,_,rfl,cE.of Y,rfl,_,_,rfl,_,_,rfl,_,_,rfl,_,_,rfl,_,_,rfl,rfl,rfl,rfl⟩;rintro a0 H' ⟨rfl,rfl⟩;exists _,rfl,p,dx,_,rfl,N,o9,_,rfl,p,pl,d,nl,sl,J,nums,S,m,x,rfl,A;refine⟨_,rfl,p,dx,_,rfl,N,uQ,_,rfl,_,rfl,ln2,λ t ht=>⟨_,rfl,_,rfl,t,wT b,n,some (S.w x),some (S.w x),rfl,cu,λ H1 s1=>⟨rfl,_,rfl,?_⟩⟩⟩;have s2:cy H H1:=(cy.new ht).trans s1;have A1:=A.same s2;cases hc:iF b (S.w x) n with
      | true =>
        refine eU (by rw[DH,if_pos hc];decide) ?_;refine⟨_,rfl,p,pl,d,nl,sl,J,nums,S,m,u,rfl,A1,hm,λ H2 A2 b2=>q _ ?_ ((fk.of_same s2).trans b2)⟩;simp only[mC,hc,if_true];exact A2
      | false =>
        refine dn (by rw[DH,hc];decide) ?_;refine⟨_,rfl,p,pl,d,nl,sl,J,nums,S,m,v,rfl,A1,hm,λ H2 A2 b2=>q _ ?_ ((fk.of_same s2).trans b2)⟩;simp only[mC,hc,MZ,if_false];exact A2
theorem uv {fd:FuncData} (F:eC K "do_step" "Stand.do_step" kC f fd) (Z:Bl mg)  (T:nG K C) (B:jZ P w K mg base C "do_deed" 2 ["self", "deed"] (yV C)) (D:jZ P w K mg base C "do_end" 5 ["self", "end"] (AG C)):dB P w K mg base d7 6 f fd ["self"] (yW C):=by
 refine F.ok (k:=5) j2 (λ vs H Q E h=>?_) (λ a9 A outer s H vs Q E hr h=>?_)
 ·obtain⟨p,pl,d,nl,sl,a4,nums,S,m,ps,rfl,_⟩:=h;rfl
 ·obtain⟨p,pl,d,nl,sl,a4,nums,S,m,ps,rfl,A,hp,a3,a6,G,hm,q⟩:=h;refine⟨_,(cw (fI (fz (cI df (dZ (pv 0) rfl) (cI eY (dZ (pv 0) rfl) (GS C6 cA))) (fw rfl (cR (cJ (i:=1) j2.nd) (cR (cJ (i:=2) j2.nd) eX)))))
   (cB (dJ (cP jh (dZ (pv 0) rfl) (cY cM rfl Z.len dU (cF (pv 1))) (cX _))
   (cB (eJ (i9 B (pv 0) (hr.mono ⋯) (cF (cI df (pv 1) (dZ (pv 0) rfl))))))
   (cB (eJ (i9 D (pv 0) (hr.mono ⋯) (cF (pv 2)))))))),?_⟩
  obtain⟨Y,J⟩:=A.ob;have hx:ps[S.dE]?=some ps[S.dE]:=by simp[a3]
  generalize ab:ps[S.dE]=pe at hx;obtain⟨ds,e⟩:=pe;obtain⟨pp,xs,pc,da,ea,vs,rfl,e1,el,a1,e2,e3,r3,e4⟩:=gX hp hx;have a8:vs.length=ds.length:=by rw[r3.len,LU]
  exists λ a0 H'=>a0=[some (.ref p),some (.ref da),some (.ref ea)]/\H=H',⟨_,rfl,p,C,Y,_,_,rfl,J,T.cl,T.pieces,xc,_,rfl,p,C,Y,_,_,rfl,J,T.cl,T.gN,nF,_,rfl,pl,_,_,_,rfl,rfl,cN.of A.gN,A.AD,pp,xs,_,_,rfl,rfl,cE.of e1,dN a1,pc,_,rfl,cE.of e2,rfl,_,_,rfl,_,_,rfl,rfl,rfl,rfl⟩;rintro a0 H' ⟨rfl,rfl⟩;exists _,rfl,p,C,Y,_,_,rfl,J,T.cl,T.place,iU,_,rfl,da,_,rfl,.inr (cE.of e3),_,_,rfl,rfl,_,rfl;refine fR (λ hc=>?_) (λ hc=>?_)
  ·have ac:S.place<vs.length:=by have:=of_decide_eq_true hc;omega
   have N:ds[S.place]?=some (ds[S.place]'⋯):=by simp[show S.place<ds.length by omega]
   generalize a7:ds[S.place]'⋯=dd at N;obtain⟨v,hv,rd⟩:=r3.get (i:=S.place) (d:=eN dd) (by rw[L6,N];rfl);obtain⟨dp,rfl,a5⟩:=oF rd;rw[nB hx N] at q;have a2:oG dd=true->S.taken<nums.length:=λ hr=>by
    unfold jC at G;rw[hx] at G;dsimp only at G;rw[N] at G;dsimp only at G;rw[hr] at G;have:¬S.taken=nums.length:=of_decide_eq_false (by simpa using G);omega
   exact⟨_,rfl,p,Y,_,rfl,J,BW,_,rfl,_,rfl,p,C,Y,_,_,rfl,J,T.cl,T.place,iU,da,_,_,_,rfl,rfl,cE.of e3,dN hv,p,pl,d,nl,sl,dp,_,nums,S,m,dd,rfl,A,a5,a2,hm,q⟩
  ·have aa:¬S.place<vs.length:=λ z=>hc (decide_eq_true ⋯)
   rw[o8 hx (by simp;omega)] at q;exact⟨_,rfl,p,Y,_,rfl,J,Dy,_,rfl,p,pl,d,nl,sl,ea,_,nums,S,m,e,rfl,A,e4,hm,q⟩
theorem sO {fd:FuncData} (F:eC K "__init__" "Stand.__init__" j3 f fd) (Z:Bl mg)  (T:nG K C)  : dB P w K mg base d7 1 f fd ["self", "pieces", "begin", "worths", "numbers"] (vT C):=by
 refine F.ok (k:=0) sL (λ vs H Q E h=>?_) (λ ab A outer s H vs Q E hr h=>?_)
 ·obtain⟨p,dx,d0,np,a0,pc,kvs,w,nums,rfl,_⟩:=h;rfl
 ·obtain⟨p,dx,d0,np,a0,pc,kvs,w,nums,rfl,hp,a9,dw,aa,q⟩:=h;refine⟨_,(cw (fI (iA (pv 0) (pv 1) rfl))
   (cw (fI (iA (pv 0) (fh (cF (pv 2))) rfl))
   (cw (fI (iA (pv 0) cA rfl))
   (cw (fI (iA (pv 0) (cZ yT rfl Z.dict sd (cF (pv 3))) rfl))
   (cw (fI (iA (pv 0) (cZ kd rfl Z.list oy (cF (pv 4))) rfl))
   (cw (fI (iA (pv 0) cA rfl))
   (cw (fI (iA (pv 0) (fh fg) rfl))
   (cB (fI (iA (pv 0) lK rfl)))))))))),?_⟩
  have h0:=hp;have N:∀c o,H c=some o->c≠p->H c=some o:=λ _ _ e _=>e
  exists λ J H1=>J=[some (.ref p),some a0,some (.int pc),some (.ref d0),some (.ref np)]/\H1 p=some (.ins C dx [("pieces",a0)])/\(∀c o,H c=some o->c≠p->H1 c=some o),⟨_,rfl,_,rfl,p,C,dx,_,rfl,h0,T.cl,T.pieces,(by show 0<1000;decide),rfl,(by rw[cu,Dz]),λ c o e n=>by rw[cx n];exact N c o e n⟩;clear N h0;rintro J H1 ⟨rfl,h0,N⟩;exists λ J H1=>J=[some (.ref p),some a0,some (.int pc),some (.ref d0),some (.ref np)]/\∃(pl:Addr),H1 p=some (.ins C dx [("pieces",a0),("passed",V.ref pl)])/\(∀c o,H c=some o->c≠p->H1 c=some o)/\H pl=none/\pl≠p/\H1 pl=some (.lst [.int pc]),⟨_,rfl,Ax,λ pl hn=>⟨_,rfl,p,C,dx,_,rfl,(by rw[cx (cD h0 hn)];exact h0),T.cl,T.gN,(by show 1<1000;decide),rfl,pl,(by rw[cu,DA]),λ c o e n=>iG (N c o e n) n hn,(gY N h0 hn).1,(gY N h0 hn).2,(by rw[cx (gY N h0 hn).2,cu])⟩⟩;clear N h0;rintro J H1 ⟨rfl,pl,h0,N,G,B,D⟩;exists λ J H1=>J=[some (.ref p),some a0,some (.int pc),some (.ref d0),some (.ref np)]/\∃(pl:Addr),H1 p=some (.ins C dx [("pieces",a0),("passed",V.ref pl),("place",V.int 0)])/\(∀c o,H c=some o->c≠p->H1 c=some o)/\H pl=none/\pl≠p/\H1 pl=some (.lst [.int pc]),⟨_,rfl,p,C,dx,_,rfl,h0,T.cl,T.place,(by show 2<1000;decide),rfl,pl,(by rw[cu,Fw]),λ c o e n=>by rw[cx n];exact N c o e n,G,B,(by rw[cx B];exact D)⟩;clear N h0 G B D;rintro J H1 ⟨rfl,pl,h0,N,G,B,D⟩;exists λ J H1=>J=[some (.ref p),some a0,some (.int pc),some (.ref d0),some (.ref np)]/\∃(pl d:Addr),H1 p=some (.ins C dx [("pieces",a0),("passed",V.ref pl),("place",V.int 0),("worths",V.ref d)])/\(∀c o,H c=some o->c≠p->H1 c=some o)/\H pl=none/\pl≠p/\H1 pl=some (.lst [.int pc])/\H d=none/\d≠p/\H1 d=some (.dK kvs),⟨_,rfl,d0,kvs,rfl,N d0 _ a9 (dD a9 hp (by intro z;cases z)),λ d hn=>⟨_,rfl,p,C,dx,_,rfl,(by rw[cx (cD h0 hn)];exact h0),T.cl,T.jo,(by show 3<1000;decide),rfl,pl,d,(by rw[cu,DB]),λ c o e n=>iG (N c o e n) n hn,G,B,iG D B hn,(gY N h0 hn).1,(gY N h0 hn).2,(by rw[cx (gY N h0 hn).2,cu])⟩⟩;clear N h0 G B D;rintro J H1 ⟨rfl,pl,d,h0,N,G,B,D,a4,a2,a5⟩;exists λ J H1=>J=[some (.ref p),some a0,some (.int pc),some (.ref d0),some (.ref np)]/\∃(pl d nl:Addr),H1 p=some (.ins C dx [("pieces",a0),("passed",V.ref pl),("place",V.int 0),("worths",V.ref d),("numbers",V.ref nl)])/\(∀c o,H c=some o->c≠p->H1 c=some o)/\H pl=none/\pl≠p/\H1 pl=some (.lst [.int pc])/\H d=none/\d≠p/\H1 d=some (.dK kvs)/\H nl=none/\nl≠p/\H1 nl=some (.lst (nums.map V.int))/\pl≠nl,⟨_,rfl,np,_,rfl,.inr (cE.of (N np _ aa (dD aa hp (by intro z;cases z)))),λ nl hn=>⟨_,rfl,p,C,dx,_,rfl,(by rw[cx (cD h0 hn)];exact h0),T.cl,T.vP,(by show 4<1000;decide),rfl,pl,d,nl,(by rw[cu,BY]),λ c o e n=>iG (N c o e n) n hn,G,B,iG D B hn,a4,a2,iG a5 a2 hn,(gY N h0 hn).1,(gY N h0 hn).2,(by rw[cx (gY N h0 hn).2,cu]),cD D hn⟩⟩;clear N h0 G B D a4 a2 a5;rintro J H1 ⟨rfl,pl,d,nl,h0,N,G,B,D,a4,a2,a5,a3,Y,a1,x1⟩;exists λ J H1=>J=[some (.ref p),some a0,some (.int pc),some (.ref d0),some (.ref np)]/\∃(pl d nl:Addr),H1 p=some (.ins C dx [("pieces",a0),("passed",V.ref pl),("place",V.int 0),("worths",V.ref d),("numbers",V.ref nl),("taken",V.int 0)])/\(∀c o,H c=some o->c≠p->H1 c=some o)/\H pl=none/\pl≠p/\H1 pl=some (.lst [.int pc])/\H d=none/\d≠p/\H1 d=some (.dK kvs)/\H nl=none/\nl≠p/\H1 nl=some (.lst (nums.map V.int))/\pl≠nl,⟨_,rfl,p,C,dx,_,rfl,h0,T.cl,T.taken,(by show 5<1000;decide),rfl,pl,d,nl,(by rw[cu,Fx]),λ c o e n=>by rw[cx n];exact N c o e n,G,B,(by rw[cx B];exact D),a4,a2,(by rw[cx a2];exact a5),a3,Y,(by rw[cx Y];exact a1),x1⟩;clear N h0 G B D a4 a2 a5 a3 Y a1 x1;rintro J H1 ⟨rfl,pl,d,nl,h0,N,G,B,D,a4,a2,a5,a3,Y,a1,x1⟩;exists λ J H1=>J=[some (.ref p),some a0,some (.int pc),some (.ref d0),some (.ref np)]/\∃(pl d nl sl:Addr),H1 p=some (.ins C dx [("pieces",a0),("passed",V.ref pl),("place",V.int 0),("worths",V.ref d),("numbers",V.ref nl),("taken",V.int 0),("spoken",V.ref sl)])/\(∀c o,H c=some o->c≠p->H1 c=some o)/\H pl=none/\pl≠p/\H1 pl=some (.lst [.int pc])/\H d=none/\d≠p/\H1 d=some (.dK kvs)/\H nl=none/\nl≠p/\H1 nl=some (.lst (nums.map V.int))/\H sl=none/\sl≠p/\H1 sl=some (.lst [])/\pl≠nl/\pl≠sl/\nl≠sl,⟨(by show 0<=sizeLine;decide),λ sl hn=>⟨_,rfl,p,C,dx,_,rfl,(by rw[cx (cD h0 hn)];exact h0),T.cl,T.ik,(by show 6<1000;decide),rfl,pl,d,nl,sl,(by rw[cu,DC]),λ c o e n=>iG (N c o e n) n hn,G,B,iG D B hn,a4,a2,iG a5 a2 hn,a3,Y,iG a1 Y hn,(gY N h0 hn).1,(gY N h0 hn).2,(by rw[cx (gY N h0 hn).2,cu]),x1,cD D hn,cD a1 hn⟩⟩;clear N h0 G B D a4 a2 a5 a3 Y a1 x1;rintro J H1 ⟨rfl,pl,d,nl,sl,h0,N,G,B,D,a4,a2,a5,a3,Y,a1,a6,a7,a8,x1,x2,x3⟩;exists λ J H1=>J=[some (.ref p),some a0,some (.int pc),some (.ref d0),some (.ref np)]/\∃(pl d nl sl:Addr),H1 p=some (.ins C dx [("pieces",a0),("passed",V.ref pl),("place",V.int 0),("worths",V.ref d),("numbers",V.ref nl),("taken",V.int 0),("spoken",V.ref sl),("over",V.bl false)])/\(∀c o,H c=some o->c≠p->H1 c=some o)/\H pl=none/\pl≠p/\H1 pl=some (.lst [.int pc])/\H d=none/\d≠p/\H1 d=some (.dK kvs)/\H nl=none/\nl≠p/\H1 nl=some (.lst (nums.map V.int))/\H sl=none/\sl≠p/\H1 sl=some (.lst [])/\pl≠nl/\pl≠sl/\nl≠sl,⟨_,rfl,p,C,dx,_,rfl,h0,T.cl,T.over,(by show 7<1000;decide),rfl,pl,d,nl,sl,(by rw[cu,HN]),λ c o e n=>by rw[cx n];exact N c o e n,G,B,(by rw[cx B];exact D),a4,a2,(by rw[cx a2];exact a5),a3,Y,(by rw[cx Y];exact a1),a6,a7,(by rw[cx a7];exact a8),x1,x2,x3⟩;clear N h0 G B D a4 a2 a5 a3 Y a1 a6 a7 a8 x1 x2 x3;rintro J H1 ⟨rfl,pl,d,nl,sl,h0,N,G,B,D,a4,a2,a5,a3,Y,a1,a6,a7,a8,x1,x2,x3⟩;refine q pl d nl sl H1 ⟨⟨dx,?_⟩,D,⟨[],rfl⟩,⟨kvs,a5,dw,LW _⟩,a1,a8,⟨x1,x2,x3⟩,⟨Me _,Nat.le_add_left _ _⟩⟩ N G a4 a3 a6;rw[h0];exact congrArg (λ b=>some (HO.ins C dx (iB a0 (.ref pl) (.int 0) (.ref d) (.ref nl) (.int 0) (.ref sl) (V.bl b)))) (show false=decide (("on" : Str) = "stop") by decide)
theorem GL {fd:FuncData} (F:eC K "go_on" "go_on" wG f fd) (Z:Bl mg)  (T:nG K C) (B:jZ P w K mg base C "is_held" 3 ["self"] (DF C)) (D:jZ P w K mg base C "do_step" 6 ["self"] (yW C)):dB P w K mg base d7 7 f fd ["stand", "steps"] (yX C):=by
  refine F.ok (k:=6) uk (λ vs H Q E h=>?_) (λ a5 A outer s H vs Q E hr h=>?_)
  . obtain⟨p,pl,d,nl,sl,G,nums,S,m,n,ps,rfl,_⟩:=h
    rfl
  . obtain⟨p,pl,d,nl,sl,G,nums,S,m,n,ps,rfl,A,hp,a4,a2,a1,hm,q⟩:=h
    refine⟨_,(cw (cU (i:=2) uk.nd cA)
      (cw (mM PassesOwn.never (PW.pt (qw (cP jh (pv 2) (pv 1) (cX _)) (oo (IY (qv (mU B (pv 0) (hr.mono ⋯)))))))
      (cw (eJ (mU D (pv 0) (hr.mono ⋯)))
      (cB (Jc (i:=2) uk.nd rfl (Or.inl rfl) cA Jd))))
      (cB (cK (pv 2))))),?_⟩
    exists λ μ N H'=>∃i:Nat,i + μ = n/\N=[some (.ref p),some (.int n),some (.int i)]/\dX C H' p pl d nl sl G nums (gC ps nums i S) (m+i)/\kR ps nums i S=i/\cW H' G (fq ps)/\fk p pl d sl H H',⟨n,0,by omega,rfl,A,rfl,hp,fk.refl _ _ _ _ _⟩;rintro μ N H1 ⟨i,hi,rfl,J,c1,p1,b1⟩;have wi:=BZ (ps:=ps) (nums:=nums) (S:=S) a4 a2 a1 i;exists _,rfl,_,rfl,_,_,rfl,rfl,_,rfl;refine fR (λ hc=>?_) (λ hc=>?_)
    . have a7:i<n:=by have:=of_decide_eq_true hc;omega
      obtain⟨dx,a0⟩:=J.ob;exists _,rfl,p,dx,_,rfl,a0,BU,p,pl,d,nl,sl,G,nums,_,_,ps,rfl,J,p1,wi.1,_,rfl;cases hh:ir ps nums (gC ps nums i S) with
      | true =>
        refine dn rfl ?_;have g:=oH hh (n-i);rw[show i+(n-i)=n by omega] at g;have Y:=q H1 (by rw[g.1,g.2,c1];exact J) b1;rw[g.2,c1] at Y;exact⟨_,rfl,Y⟩
      | false =>
        refine eU rfl ?_;have g:=DE hh;have hl:jC ps nums (gC ps nums i S)=false:=by
          unfold ir at hh;cases hz:jC ps nums (gC ps nums i S) with
          | false=>rfl
          | true=>rw[hz] at hh;simp at hh
        exists _,λ a6 H2 z=>⟨n-(i+1),by omega,z⟩;refine⟨_,rfl,p,dx,_,rfl,a0,BX,p,pl,d,nl,sl,G,nums,_,_,ps,rfl,J,p1,wi.1,wi.2,hl,⋯,λ H2 A2 b2=>?_⟩;rw[<-g.1] at A2;exists _,rfl,_,_,rfl,rfl;refine⟨i+1,by omega,rfl,A2,?_,J.rd b2 p1 (d6 ps),b1.trans b2⟩;rw[g.2,c1]
    . have a3:i=n:=by
        have:¬(i:Int)<(n:Int):=λ z=>hc (decide_eq_true z)
        omega
      subst a3;refine dn rfl ?_;have Y:=q H1 (by rw[c1];exact J) b1;rw[c1] at Y;exact⟨_,rfl,Y⟩
theorem EO {fd:FuncData} (F:eC K "run_at" "run_at" um f fd) (Z:Bl mg)  (T:nG K C) (B:vL P w K mg base C "Stand" 1 ["self", "pieces", "begin", "worths", "numbers"] (vT C)) (J:Own P w K mg base "go_on" 7 ["stand", "steps"] (yX C)):dB P w K mg base d7 8 f fd ["plan", "piece", "worths", "numbers", "steps"] AI:=by
  refine F.ok (k:=7) nS (λ vs H Q E h=>?_) (λ ab A outer s H vs Q E hr h=>?_)
  . obtain⟨d0,np,Y,pc,n,kvs,w,nums,ps,rfl,_⟩:=h
    rfl
  . obtain⟨d0,np,Y,pc,n,kvs,w,nums,ps,rfl,hp,a3,a2,a7,dw,a5,aa,hn,q⟩:=h
    refine⟨_,(cw (cU (i:=5) nS.nd (rZ B (hr.mono ⋯) rfl (wu (pv 0) (pv 1) (pv 2) (pv 3))))
      (cw (cU (i:=6) nS.nd (cH J hr (cS (pv 5) (pv 4))))
      (cw (fI (cU (i:=7) nS.nd (gW (cP jh (pv 6) (pv 4) (cX _)) dA dA)))
      (cB (cK (dH (cS (gW (qv (dZ (pv 5) rfl)) dA (pv 7)) (cZ cT rfl Z.tuple dI (cF (dZ (pv 5) rfl)))))))))),?_⟩
    refine⟨_,rfl,_,rfl,_,rfl,_,rfl,λ p dx nx a4 a9=>?_⟩;have s0:cy H (upd (upd H dx (.own p)) p (.ins C dx [])):=λ b o e=>by
      rw[cx (cD e nx),cx (cD e a4)];exact e
    refine⟨p,dx,d0,np,Y,pc,kvs,w,nums,rfl,cu,s0 _ _ a7,dw,s0 _ _ a5,λ pl d nl sl H1 A1 k1 n1 n2 n3 n4=>⟨rfl,?_⟩⟩;have s1:cy H H1:=λ b o e=>k1 b o (s0 b o e) (cD e nx)
    have f1:∀a,(upd (upd H dx (.own p)) p (.ins C dx [])) a=none->H a=none:=λ a z=>by
      cases hz:H a with
      | none=>rfl
      | some o=>rw[s0 a o hz] at z;cases z
    refine⟨_,rfl,_,rfl,p,pl,d,nl,sl,Y,nums,eV pc w,kvs.length,n,ps,rfl,A1,hp.same s1 (d6 ps),a3,a2,Me _,⋯,λ H2 A2 b2=>?_⟩;have s2:cy H H2:=λ b o e=>b2 b o (s1 b o e) (cD e nx) (cD e (f1 _ n1)) (cD e (f1 _ n2)) (cD e (f1 _ n4))
    have gw:=vS (ps:=ps) (nums:=nums) (S:=eV pc w) a3 a2 (Me _) rfl n;have q2:∀v H',cW H' v (.tuple [.str (if (gC ps nums n (eV pc w)).word = "stop" then "stop" else if kR ps nums n (eV pc w)<n then "dry" else "on"),.tuple ((gC ps nums n (eV pc w)).told.map PyData.int)])->cy H H'->Q v H':=by
      intro v H' r s;refine q v H' ?_ s;unfold kh
      rcases gw with ⟨g1,g2,g3⟩ | ⟨g1,g2⟩ | ⟨g1,g2,g3,g4⟩
      . rw[g2,g3,if_neg (by rw[g1];decide),if_neg (Mq _)] at r
        rw[g1];exact r
      . rw[g2,if_pos g1] at r
        rw[g1];exact r
      . rw[g2,if_neg ⋯,if_pos g4] at r
        rw[g1];exact r
    clear q gw;generalize gC ps nums n (eV pc w)=G at A2 q2;generalize kR ps nums n (eV pc w)=cn at A2 q2;obtain⟨a0,D⟩:=A2.ob;exists λ a1 H'=>a1=[some Y,some (.int pc),some (.ref d0),some (.ref np),some (.int n),some (.ref p),some (.int cn),some (.str (if cn<n then "dry" else "on"))]/\H2=H',⟨_,rfl,_,rfl,_,_,rfl,rfl,_,rfl,fR (λ hc=>⟨?_,rfl⟩) (λ hc=>⟨?_,rfl⟩)⟩
    . have a8:cn<n:=by have:=of_decide_eq_true hc;omega
      rw[if_pos a8];rfl
    . have a6:¬cn<n:=λ z=>hc (decide_eq_true ⋯)
      rw[if_neg a6];rfl
    rintro a1 H' ⟨rfl,rfl⟩;exists _,rfl,p,C,a0,_,_,rfl,D,T.cl,T.over,AB,_,rfl;cases ho:decide (G.word=("stop" : Str)) with
    | true =>
      refine eU rfl ?_;refine⟨_,rfl,p,C,a0,_,_,rfl,D,T.cl,T.ik,qI,sl,_,rfl,.inl ⟨cN.of A2.ik,λ t ht=>⟨ln2,λ t2 N=>?_⟩⟩⟩;rw[if_pos (of_decide_eq_true ho)] at q2;exact q2 _ _ (.tup cu (.cons (.str _) (.cons (.tup (cy.new N _ _ cu) (sf _)) .nil))) (s2.trans ((cy.new ht).trans (cy.new N)))
    | false =>
      refine dn rfl ?_;refine⟨_,rfl,_,rfl,p,C,a0,_,_,rfl,D,T.cl,T.ik,qI,sl,_,rfl,.inl ⟨cN.of A2.ik,λ t ht=>⟨ln2,λ t2 N=>?_⟩⟩⟩;rw[if_neg (of_decide_eq_false ho)] at q2;exact q2 _ _ (.tup cu (.cons (.str _) (.cons (.tup (cy.new N _ _ cu) (sf _)) .nil))) (s2.trans ((cy.new ht).trans (cy.new N)))
theorem J9 {fd:FuncData} (F:eC K "run" "run" CI f fd) (Z:Bl mg) (B:Own P w K mg base "run_at" 8 ["plan", "piece", "worths", "numbers", "steps"] AI):dB P w K mg base d7 9 f fd ["plan", "numbers", "steps"] G1:=by
 refine F.ok (k:=8) J8 (λ vs H Q E h=>?_) (λ a0 A outer s H vs Q E Y h=>?_)
 ·obtain⟨np,D,n,nums,ps,rfl,_⟩:=h;rfl
 ·obtain⟨np,D,n,nums,ps,rfl,hp,J,N,G,hn,q⟩:=h;exists _,(cB (cK (cH B Y (eE (pv 0) (eE cA (eE tP (eE (pv 1) (eE (pv 2) fg))))))));refine⟨_,rfl,λ d hd=>⟨_,rfl,_,rfl,d,np,D,0,n,[],λ _=>0,nums,ps,rfl,hp.same (cy.new hd) (d6 ps),J,N,cu,(λ x=>rfl),cy.new hd _ _ G,Me _,hn,λ v H1 r s1=>?_⟩⟩;exact q v H1 r ((cy.new hd).trans s1)
theorem IP {fd:FuncData} (F:eC K "seen" "seen" zN f fd) (Z:Bl mg)  (T:nG K C) (B:vL P w K mg base C "Stand" 1 ["self", "pieces", "begin", "worths", "numbers"] (vT C)) (D:Own P w K mg base "go_on" 7 ["stand", "steps"] (yX C)):dB P w K mg base d7 8 f fd ["plan", "numbers", "steps"] DG:=by
  refine F.ok (k:=7) Br (λ vs H Q E h=>?_) (λ a9 A outer s H vs Q E hr h=>?_)
  . obtain⟨np,Y,n,nums,ps,rfl,_⟩:=h
    rfl
  . obtain⟨np,Y,n,nums,ps,rfl,hp,a3,a2,a6,hn,q⟩:=h
    refine⟨_,(cw (cU (i:=3) Br.nd (rZ B (hr.mono ⋯) rfl (wu (pv 0) cA tP (pv 1))))
      (cw (eJ (cH D hr (cS (pv 3) (pv 2))))
      (cB (cK (cZ cT rfl Z.tuple dI (cF (dZ (pv 3) rfl))))))),?_⟩
    refine⟨_,rfl,λ G a4=>⟨_,rfl,λ p J nx a5 aa=>?_⟩⟩;have s0:cy H (upd (upd (upd H G (.dK [])) J (.own p)) p (.ins C J [])):=λ b o e=>by
      have N:=cy.new (o:=.dK []) a4 b o e;rw[cx (cD N nx),cx (cD N a5)];exact N
    have a7:(upd (upd (upd H G (.dK [])) J (.own p)) p (.ins C J [])) G=some (.dK []):=by
      have N:(upd H G (.dK [])) G=some (.dK []):=cu;rw[cx (cD N nx),cx (cD N a5)];exact N
    have a0:H p=none:=by
      cases hz:H p with
      | none=>rfl
      | some o=>rw[cy.new (o:=.dK []) a4 p o hz] at nx;cases nx
    refine⟨p,J,G,np,Y,0,[],λ _=>0,nums,rfl,cu,a7,(λ x=>rfl),s0 _ _ a6,λ pl d nl sl H1 A1 k1 n1 n2 n3 n4=>⟨rfl,?_⟩⟩;have s1:cy H H1:=λ b o e=>k1 b o (s0 b o e) (cD e a0)
    have f1:∀a,(upd (upd (upd H G (.dK [])) J (.own p)) p (.ins C J [])) a=none->H a=none:=λ a z=>by
      cases hz:H a with
      | none=>rfl
      | some o=>rw[s0 a o hz] at z;cases z
    refine⟨_,rfl,_,rfl,p,pl,d,nl,sl,Y,nums,eV 0 (λ _=>0),0,n,ps,rfl,A1,hp.same s1 (d6 ps),a3,a2,Me _,⋯,λ H2 A2 b2=>?_⟩;have s2:cy H H2:=λ b o e=>b2 b o (s1 b o e) (cD e a0) (cD e (f1 _ n1)) (cD e (f1 _ n2)) (cD e (f1 _ n4))
    have eb:(gC ps nums n (eV 0 λ _=>0)).dM=(eH ps nums n (eV 0 λ _=>0)).dM:=by
      rcases vS (ps:=ps) (nums:=nums) (S:=eV 0 λ _=>0) a3 a2 (Me _) rfl n with ⟨g1,g2,g3⟩ | ⟨g1,g2⟩ | ⟨g1,g2,g3,g4⟩
      . rw[g2]
      . rw[g2]
      . rw[g1]
    obtain⟨a8,a1⟩:=A2.ob;refine⟨_,rfl,p,C,a8,_,_,rfl,a1,T.cl,T.gN,nF,pl,_,rfl,.inl ⟨cN.of A2.gN,λ t ht=>?_⟩⟩;refine q _ _ (.tup cu ?_) (s2.trans (cy.new ht));rw[eb];exact AJ _
theorem CQ {fd:FuncData} (F:eC K "_law_bag" "_law_bag" rN f fd) (Z:Bl mg)  : dB P w K mg base d7 1 f fd ["script", "k"] (GX K):=by
 refine F.ok (k:=0) pS (λ vs H Q E h=>?_) (λ Y A outer s H vs Q E hr h=>?_)
 ·obtain⟨a,ns,k,rfl,_⟩:=h;rfl
 ·obtain⟨a,ns,k,rfl,B,J,q⟩:=h;refine⟨_,(cw (cU (i:=2) pS.nd cA)
   (cw (dJ (cP jh (pv 1) (cY cM rfl Z.len dU (cF (pv 0))) (cX _))
   (cB (cU (i:=2) pS.nd (dt kc (cI eY (pv 0) (pv 1)) (dt HI (dt uA cA cA) (dt uA cA cA)))))
   du)
   (cw (dJ (cP jh (pv 2) (dt uA cA cA) (cX _))
   (cB (cK (fh (cS cA (dt fH cA (dt kc (dt fH (dt mN (pv 2) cA) (dt mN cA (pv 1))) cA))))))
   du)
   (cB (cK (fh (cS (pv 2) (dt fH cA (dt kc (dt fH (pv 2) (pv 1)) cA))))))))),?_⟩
  exists _,rfl,_,rfl,_,_,rfl,.inl B,_,_,rfl,rfl,_,rfl;refine fR (λ D=>?_) (λ D=>?_)
  ·have N:k<((ns.map V.int).length:Nat):=of_decide_eq_true D;obtain⟨v,G,hm⟩:=BN J N;obtain⟨z,_,rfl⟩:=Mb.mp hm;exists _,rfl,_,rfl,_,_,_,_,rfl,rfl,B,G,10,60,rfl,rfl,⟨by decide,by decide,by decide⟩,10,60,rfl,rfl,⟨by decide,by decide,by decide⟩,_,_,rfl,rfl,(by unfold IntMulOk;decide),_,_,rfl,rfl,(show (0:Int)<10 ^ (60:Int).toNat*10 ^ (60:Int).toNat by decide);exists _,rfl,10,18,rfl,rfl,⟨by decide,by decide,by decide⟩,_,_,rfl,rfl,_,rfl;refine fR (λ hd=>?_) (λ hd=>?_)
   ·refine⟨_,rfl,_,_,rfl,rfl,.inr ⟨by decide,by decide⟩,_,rfl,_,_,rfl,rfl,.inl ⟨by decide,by decide⟩,_,_,rfl,rfl,_,_,rfl,rfl,(show (0:Int)<2147483646 by decide),_,_,rfl,rfl,ln2,λ p hp=>?_⟩;exact q p _ hp ⟨_,_,cu,by omega,by omega⟩ (cy.new hp)
   ·refine⟨_,rfl,_,rfl,_,rfl,_,_,rfl,rfl,_,_,rfl,rfl,(show (0:Int)<2147483646 by decide),_,_,rfl,rfl,ln2,λ p hp=>?_⟩;exact q p _ hp ⟨_,_,cu,by omega,by omega⟩ (cy.new hp)
  ·exists _,rfl,10,18,rfl,rfl,⟨by decide,by decide,by decide⟩,_,_,rfl,rfl,_,rfl;refine fR (λ hd=>?_) (λ hd=>?_)
   ·refine⟨_,rfl,_,_,rfl,rfl,.inr ⟨by decide,by decide⟩,_,rfl,_,_,rfl,rfl,.inl ⟨by decide,by decide⟩,_,_,rfl,rfl,_,_,rfl,rfl,(show (0:Int)<2147483646 by decide),_,_,rfl,rfl,ln2,λ p hp=>?_⟩;exact q p _ hp ⟨_,_,cu,by omega,by omega⟩ (cy.new hp)
   ·refine⟨_,rfl,_,rfl,_,rfl,_,_,rfl,rfl,_,_,rfl,rfl,(show (0:Int)<2147483646 by decide),_,_,rfl,rfl,ln2,λ p hp=>?_⟩;exact q p _ hp ⟨_,_,cu,by omega,by omega⟩ (cy.new hp)
theorem Af {fd:FuncData} (F:eC K "_law_take" "_law_take" pT f fd) (Z:Bl mg)  : dB P w K mg base d7 1 f fd ["bag", "many"] iN:=by
 refine F.ok (k:=0) tJ (λ vs H Q E h=>?_) (λ D A outer s H vs Q E J h=>?_)
 ·obtain⟨b,m,rfl,_⟩:=h;rfl
 ·obtain⟨b,m,rfl,⟨x,y,hb,h0,G⟩,hm,q⟩:=h;refine⟨_,(cw (dJ (cP yg (cI eY (pv 0) cA) cA (cX _))
   (cw (cU (i:=2) tJ.nd (dt kc (cI eY (pv 0) cA) (pv 1)))
   (cw (fz (dt Fm (cI eY (pv 0) cA) (pv 1)) (oq (pv 0) cA set_list))
   (cB (cK (pv 2)))))
   du)
   (cw (fz (dt kc (dt mN (cI eY (pv 0) cA) cA) cA) (oq (pv 0) cA set_list))
   (cB (cK (dt kc (dt ow (dt kc (dt mN (cI eY (pv 0) cA) (cI eY (pv 0) cA)) cA) cA) (pv 1)))))),?_⟩
  exists _,rfl,b,_,0,_,rfl,rfl,cN.of hb,eG,_,_,rfl,rfl,_,rfl;refine fR (λ B=>?_) (λ B=>?_)
  ·exists _,rfl,b,_,0,_,rfl,rfl,cN.of hb,eG,_,rfl,_,_,rfl,rfl,hm.1;exists _,rfl,b,_,0,_,rfl,rfl,cN.of hb,eG,_,rfl,_,_,rfl,rfl,hm,_,rfl,b,_,0,0,rfl,rfl,hb,rfl;exists _,rfl;exact q _ _ (Int.emod_nonneg _ (by have:=hm.1;omega)) (Oy _ hm.1) ⟨_,_,cu,h0,G⟩ Fix.GW
  ·exists _,rfl,b,_,1,_,rfl,rfl,cN.of hb,gQ,_,_,rfl,rfl,.inr ⟨by decide,by decide⟩,_,_,rfl,rfl,(show (0:Int)<2147483647 by decide),_,rfl,b,_,1,1,rfl,rfl,hb,rfl;exists _,rfl,b,_,1,_,rfl,rfl,cN.of cu,gQ,_,rfl,b,_,1,_,rfl,rfl,cN.of cu,gQ,_,_,rfl,rfl,.inl ⟨by omega,by omega⟩,_,_,rfl,rfl,(show (0:Int)<2147483629 by decide),_,_,rfl,rfl,⟨by decide,by decide⟩,_,rfl,_,_,rfl,rfl,hm.1;exact q _ _ (Int.emod_nonneg _ (by have:=hm.1;omega)) (Oy _ hm.1) ⟨_,_,cu,by omega,by omega⟩ Fix.GW
theorem zQ {fd:FuncData} (F:eC K "_law_names" "_law_names" oa f fd) (Z:Bl mg) (B:Own P w K mg base "_law_take" 1 ["bag", "many"] iN):dB P w K mg base d7 2 f fd ["bag"] vI:=by
  refine F.ok (k:=1) gP (λ vs H Q E h=>?_) (λ al A outer s H vs Q E hr h=>?_)
  . obtain⟨b,rfl,_⟩:=h
    rfl
  . obtain⟨b,rfl,hB,q⟩:=h
    refine⟨_,(cw (cU (i:=1) gP.nd dA)
      (cw (cU (i:=2) gP.nd (dt fH cA (cH B hr (cS (pv 0) cA))))
      (cw (iS (i:=3) ["k"] ["letters", "bag"] [1,0] rfl gP.nd rfl rfl rfl (fE rfl Z.range (cF (dt fH cA (cH B hr (cS (pv 0) cA))))) rfl ⋯ ⋯ ⋯ ⟨⟨rfl,.inl rfl,rfl⟩,⟨⟨rfl,.inl rfl,rfl⟩,True.intro⟩⟩ (λ _ _ _ _=>(cJ (i:=0) (show ((["k"]:List Str)++(["letters", "bag"]:List Str)).Nodup by decide) (hf:=Mg rfl))) (λ _ _ _ _=>fx) (λ _ _ _ _=>(cI uG (pv 1) (cH B hr (cS (pv 2) cA)))))
      (cw (cU (i:=4) gP.nd (cH B hr (cS (pv 0) (cY cM rfl Z.len dU (cF (pv 3))))))
      (cw (cU (i:=5) gP.nd (fh fg))
      (cw (gu PassesOwn.never rfl (fE rfl Z.range (cF (pv 2))) (cJ (i:=6) gP.nd)
      (cw (cU (i:=7) gP.nd (cZ kd rfl Z.list oy (cF (pv 3))))
      (cw (fz (cI uG (pv 1) (cH B hr (cS (pv 0) cA))) (oq (pv 7) (pv 4) set_list))
      (cB (dJ (cP yH (gr PySem.F.plainAttrs_str PySem.F.slot_str_join PySem.F.type_str_join AA dA (cF (pv 7))) (pv 5) (by with_unfolding_all rfl))
      (cB (eJ (gr PySem.F.plainAttrs_list PySem.F.slot_list_append PySem.F.type_list_append fo (pv 5) (cF (gr PySem.F.plainAttrs_str PySem.F.slot_str_join PySem.F.type_str_join AA dA (cF (pv 7)))))))
      du)))))
      (cB (cK (pv 5))))))))),?_⟩
    refine⟨_,rfl,b,4,rfl,hB,⟨by decide,by decide⟩,λ m H1 m0 m1 B1 X1=>⟨_,_,rfl,rfl,?_⟩⟩;refine⟨_,rfl,b,8,rfl,B1,⟨by decide,by decide⟩,λ k H2 k0 k1 B2 X2=>⟨_,_,rfl,rfl,_,rfl,⋯,⋯,λ acc na=>?_⟩⟩;refine jV (lo:=0) (λ i ys LR H'=>∃(v:Option V) (cs:List Nat),LR=[v,some (.str oA),some (.ref b)]/\ys=(cs.map one).map V.str/\cs.length=i/\(∀c∈cs,97<=c/\c<=122)/\H' acc=some (.lst ys)/\e7 H' b/\Fix b H2 H') ?_ ?_ ?_ ?_
    . exact⟨none,[],rfl,rfl,rfl,(λ _ h=>nomatch h),cu,B2.new na,Fix.new na⟩
    . rintro i ys LR H' hi ⟨v,cs,rfl,rfl,hl,_,ha,_⟩
      exists ha;rw[LU,LU];exact cV ⋯
    . rintro i ys LR H' hi ⟨v,cs,rfl,rfl,hl,hc,ha,B',X'⟩
      refine dW ?_;refine iw ?_;refine eI ?_;refine⟨_,rfl,_,rfl,b,26,rfl,B',⟨by decide,by decide⟩,λ r H3 r0 r1 B3 X3=>?_⟩;obtain⟨c,a0,c0,c1⟩:=uK r0 r1;have G:acc≠b:=B2.eZ na;have ae:=X3 acc _ ha G;exists oA,r,c,rfl,rfl,rV,a0,ae,_,cs++[c],rfl,?_,?_,?_,cu,?_
      . rw[L4,L4];rfl
      . rw[LY,hl];rfl
      . intro d hd
        rcases Mh.mp hd with hd | hd
        . exact hc d hd
        . rw[LX.mp hd];exact⟨c0,c1⟩
      . obtain⟨x,y,e,z⟩:=B3
        exact⟨x,y,by rw[cx G.symm];exact e,z⟩
      . intro d o hd nd
        rw[cx (cD hd na)];exact (X'.trans X3) d o hd nd
    . rintro ys LR H3 ⟨v,cs,rfl,rfl,hl,hc,ha,B3,X3⟩
      have G:acc≠b:=B2.eZ na;have ak:1<=cs.length:=by omega
      have ad:cs.length<=8:=by omega
      have F3:Fix b H H3:=(X1.trans X2).trans X3;have el:(((cs.map one).map V.str).length:Int)=cs.length:=by simp
      refine⟨_,rfl,_,rfl,acc,_,rfl,.inl (cN.of ha),b,_,rfl,B3,⟨by omega,ij ⋯ ⋯⟩,λ at_ H4 t0 t1 B4 X4=>?_⟩;refine⟨(by show 0<=sizeLine;decide),λ nl nn=>?_⟩;have Y:nl≠b:=B4.eZ nn;have a7:H4 acc=some (.lst ((cs.map one).map V.str)):=X4 acc _ ha G;have ab:nl≠acc:=λ z=>by rw[z,a7] at nn;cases nn
      have F4:Fix b H H4:=F3.trans X4;refine⟨_,rfl,_,rfl,⋯,⋯,iz (lo:=0) (λ i LQ H'=>∃(u1 u2:Option V) (xs:List Str),LQ=[some (.ref b),some (.str oA),some (.int (1+m)),some (.ref acc),some (.int at_),some (.ref nl),u1,u2] /\
        H' nl=some (.lst (xs.map V.str))/\xs.length<=i/\(0<i->xs≠[])/\(∀x∈xs,hU x)/\H' acc=some (.lst ((cs.map one).map V.str))/\e7 H' b/\Fix b H H') ?_ ?_ ?_⟩
      . exact⟨_,_,[],rfl,cu,LW _,(λ h=>absurd h (Mq _)),(λ _ h=>nomatch h),(by rw[cx ab.symm];exact a7),B4.new nn,F4.trans (Fix.new nn)⟩
      . rintro i LQ H' hi ⟨u1,u2,xs,rfl,hn,hx,a2,de,N,B',X'⟩
        refine⟨_,rfl,acc,_,rfl,.inl (cN.of N),λ D mm=>?_⟩;have a9:D≠b:=B'.eZ mm;have aa:D≠acc:=λ z=>by rw[z,N] at mm;cases mm
        have a1:D≠nl:=λ z=>by rw[z,hn] at mm;cases mm
        refine⟨_,rfl,_,rfl,b,26,rfl,B'.new mm,⟨by decide,by decide⟩,λ r H5 r0 r1 B5 X5=>?_⟩;obtain⟨c,a0,c0,c1⟩:=uK r0 r1;have h5:H5 D=some (.lst ((cs.map one).map V.str)):=X5 D _ cu a9;have ac:H5 nl=some (.lst (xs.map V.str)):=X5 nl _ (by rw[cx a1.symm];exact hn) Y;have aj:H5 acc=some (.lst ((cs.map one).map V.str)):=X5 acc _ (by rw[cx aa.symm];exact N) G;obtain⟨j,rfl⟩:∃j:Nat,at_=j:=⟨at_.toNat,by omega⟩;have hj:j<cs.length:=by omega
        have ah:p7 ((cs.map one).map V.str).length (j:Int)=some j:=by
          unfold p7;rw[if_pos ⋯,if_pos (by rw[el];omega)];simp
        exists oA,r,c,rfl,rfl,rV,a0,_,rfl,_,rfl,D,_,(j:Int),j,rfl,rfl,h5,ah;have a3:((cs.map one).map V.str).set j (.str ⟨#[c]⟩)=((cs.set j c).map one).map V.str:=by
          rw[List.map_set,List.map_set];rfl
        rw[a3];have af:∀d∈cs.set j c,97<=d/\d<=122:=λ d hd=>by
          rcases List.mem_or_eq_of_mem_set hd with hd | hd
          . exact hc d hd
          . rw[hd];exact⟨c0,c1⟩
        have a5:(((cs.set j c).map one).map (·.length)).sum+((cs.set j c).map one).length*(Str.ofString "").length<=16777216:=by
          have e1:(Str.ofString "").length=0:=by decide
          have e2:∀l:List Nat,((l.map one).map (·.length)).sum=l.length:=by
            intro l
            induction l with
            | nil=>rfl
            | cons a l ih=>simp only[Mt,Oe,ih,Ms];show 1+l.length=_;omega
          rw[e1,e2,NC];omega
        have nk:hU (Txt.join (Str.ofString "") ((cs.set j c).map one)):=by
          rw[Fn];have ej:=L2.join_ones (cs.set j c);have eL:(Txt.join Str.empty ((cs.set j c).map one)).length=(cs.set j c).length:=by
            have:=congrArg Nc ej;rw[MD] at this;exact this
          exists ?_,?_
          . rw[eL,NC];exact ak
          . rw[eL,NC];exact ad
          . rw[ej];exact af
        have n6:upd H5 D (.lst (((cs.set j c).map one).map V.str)) nl=some (.lst (xs.map V.str)):=by rw[cx a1.symm];exact ac
        have a6:upd H5 D (.lst (((cs.set j c).map one).map V.str)) acc=some (.lst ((cs.map one).map V.str)):=by rw[cx aa.symm];exact aj
        have B6:e7 (upd H5 D (.lst (((cs.set j c).map one).map V.str))) b:=by
          obtain⟨x,y,e,z⟩:=B5;exact⟨x,y,by rw[cx a9.symm];exact e,z⟩
        have F6:Fix b H (upd H5 D (.lst (((cs.set j c).map one).map V.str))):=λ d o hd nd=>by
          have h1:=X' d o hd nd;have J:d≠D:=λ z=>by rw[z,mm] at h1;cases h1
          rw[cx J];exact X5 d o (by rw[cx J];exact h1) nd
        have a8:(xs.map V.str).all lL=true:=by
          rw[Ob];intro v hv;obtain⟨x,_,rfl⟩:=Mb.mp hv;rfl
        exists rfl,_,rfl,_,D,_,rfl,rfl,cN.of cu,a5,_,rfl,nl,_,rfl,.inl (cN.of n6),rfl,a8,_,rfl;refine fR (λ a4=>?_) (λ a4=>?_)
        . exists _,rfl,.inl ⟨rfl,_,cN.of n6⟩,rfl,_,rfl,_,D,_,rfl,rfl,cN.of cu,a5,nl,_,_,rfl,rfl,n6,?_
          . rw[LU]
            have:i<4:=by omega
            exact cV ⋯
          . exists _,_,xs++[_],rfl,(by rw[cu,L4];rfl),(by rw[LY];exact M8 hx),(λ _=>by simp),?_,(by rw[cx ab.symm];exact a6),?_
            . intro x hxm
              rcases Mh.mp hxm with hxm | hxm
              . exact de x hxm
              . rw[LX.mp hxm];exact nk
            . obtain⟨x,y,e,z⟩:=B6
              exact⟨x,y,by rw[cx Y.symm];exact e,z⟩
            . intro d o hd nd
              have h1:=F6 d o hd nd;have J:d≠nl:=λ z=>by
                have h2:=F4 d o hd nd;rw[z,nn] at h2;cases h2
              rw[cx J];exact h1
        . have ai:xs≠[]:=by
            intro e;subst e;exact a4 rfl
          exact⟨_,_,xs,rfl,n6,Mj hx,λ _=>ai,de,a6,B6,F6⟩
      . rintro LQ H' ⟨u1,u2,xs,rfl,hn,hx,a2,de,N,B',X'⟩
        exists _,rfl;have hm:(1+m).toNat<=4:=by omega
        have ag:0<(1+m).toNat:=by omega
        exact q nl xs H' ⟨hn,Y,a2 ag,by omega,de⟩ (Ma hx hm) B' X'
theorem yf {fd:FuncData} (F:eC K "_law_number" "_law_number" nh f fd) (Z:Bl mg) (B:Own P w K mg base "_law_take" 1 ["bag", "many"] iN):dB P w K mg base d7 2 f fd ["bag"] o3:=by
 refine F.ok (k:=1) yc (λ vs H Q E h=>?_) (λ a0 A outer s H vs Q E D h=>?_)
 ·obtain⟨b,rfl,_⟩:=h;rfl
 ·obtain⟨b,rfl,hB,q⟩:=h;refine⟨_,(cw (dJ (cP eF (cH B D (cS (pv 0) cA)) cA (cX _))
   (cB (cK (dt mN (dt gJ (dt gJ (dt uA cA cA) cA) (cH B D (cS (pv 0) cA))) (dt gJ cA (dt mN cA (cH B D (cS (pv 0) cA)))))))
   du)
   (cB (cK (dt gJ (cH B D (cS (pv 0) cA)) cA)))),?_⟩
  refine⟨_,rfl,b,8,rfl,hB,⟨by decide,by decide⟩,λ r H1 r0 r1 B1 X1=>⟨rfl,_,rfl,?_⟩⟩;refine fR (λ hc=>?_) (λ hc=>?_)
  ·exists 10,40,rfl,rfl,⟨by decide,by decide,by decide⟩,_,_,rfl,rfl;refine⟨_,rfl,b,3,rfl,B1,⟨by decide,by decide⟩,λ r2 H2 J Y N G=>⟨_,_,rfl,rfl,?_⟩⟩;refine⟨_,rfl,b,2,rfl,N,⟨by decide,by decide⟩,λ r3 H3 a1 a2 B3 X3=>?_⟩;exists _,_,rfl,rfl,.inl ⟨by decide,by decide⟩,_,_,rfl,rfl,_,_,rfl,rfl,.inr ⟨by omega,by omega⟩;refine q _ H3 ?_ B3 ((X1.trans G).trans X3);have e:(10:Int) ^ (40:Int).toNat=10 ^ 40:=by decide
   rw[e];obtain rfl | rfl:r3=0\/r3=1:=by omega
   ·rw[show (1:Int)-2*0=1 by decide,Int.mul_one];unfold o2;omega
   ·rw[show (1:Int)-2*1 = -1 by decide,Int.mul_neg,Int.mul_one];unfold o2;omega
  ·refine⟨_,rfl,b,8,rfl,B1,⟨by decide,by decide⟩,λ r2 H2 J Y N G=>⟨_,_,rfl,rfl,?_⟩⟩;exact q _ H2 (by unfold o2;omega) N (X1.trans G)
theorem Ag {fd:FuncData} (F:eC K "_law_deed" "_law_deed" pU f fd) (Z:Bl mg) (B:Own P w K mg base "_law_take" 1 ["bag", "many"] iN) (D:Own P w K mg base "_law_number" 2 ["bag"] o3):dB P w K mg base d7 3 f fd ["bag", "names"] uI:=by
 refine F.ok (k:=2) og (λ vs H Q E h=>?_) (λ a6 A outer s H vs Q E hr h=>?_)
 ·obtain⟨b,l,xs,rfl,_⟩:=h;rfl
 ·obtain⟨b,l,xs,rfl,hB,hN,q⟩:=h;refine⟨_,(cw (cU (i:=2) og.nd (cI eY (fh (kY dA dA dA dA dA dA dA)) (cH B hr (cS (pv 0) cA))))
   (cw (cU (i:=3) og.nd (cI eY (pv 1) (cH B hr (cS (pv 0) (cY cM rfl Z.len dU (cF (pv 1)))))))
   (cw (dJ (cP eF (pv 2) dA (cX _))
   (cB (cK (dH (iJ (pv 2) (pv 3) (cI eY (pv 1) (cH B hr (cS (pv 0) (cY cM rfl Z.len dU (cF (pv 1))))))))))
   du)
   (cw (dJ (PW.pt (Bt (cP eF (pv 2) dA (cX _)) (yA (cP eF (pv 2) dA (cX _)))))
   (cB (cK (dH (iJ (pv 2) (pv 3) (cH D hr (cF (pv 0)))))))
   du)
   (cB (cK (dH (cS (pv 2) (pv 3))))))))),?_⟩
  refine⟨qC,λ l0 m0=>?_⟩;refine⟨_,rfl,b,7,rfl,hB.new m0,⟨by decide,by decide⟩,λ r H1 r0 r1 B1 X1=>?_⟩;have h0:H1 l0=some (.lst [.str "put",.str "copy",.str "add",.str "read",.str "tell",.str "tell",.str "add"]):=X1 l0 _ cu (hB.eZ m0);have F1:Fix b H H1:=(Fix.new m0).trans X1;have N1:=hN.fix F1;have hw:∃w:Str,(w = "put" \/ w = "copy" \/ w = "add" \/ w = "read" \/ w = "tell")/\iL [V.str "put",.str "copy",.str "add",.str "read",.str "tell",.str "tell",.str "add"] r=some (V.str w):=by
   obtain rfl | rfl | rfl | rfl | rfl | rfl | rfl:r=0\/r=1\/r=2\/r=3\/r=4\/r=5\/r=6:=by omega
   ·exact⟨_,.inl rfl,dN (j:=0) rfl⟩
   ·exact⟨_,.inr (.inl rfl),dN (j:=1) rfl⟩
   ·exact⟨_,.inr (.inr (.inl rfl)),dN (j:=2) rfl⟩
   ·exact⟨_,.inr (.inr (.inr (.inl rfl))),dN (j:=3) rfl⟩
   ·exact⟨_,.inr (.inr (.inr (.inr rfl))),dN (j:=4) rfl⟩
   ·exact⟨_,.inr (.inr (.inr (.inr rfl))),dN (j:=5) rfl⟩
   ·exact⟨_,.inr (.inr (.inl rfl)),dN (j:=6) rfl⟩
  obtain⟨w,hw,a2⟩:=hw;exists l0,_,r,_,rfl,rfl,cN.of h0,a2;obtain⟨p0,p1⟩:=N1.pos;refine⟨_,rfl,_,rfl,_,rfl,l,_,rfl,.inl (cN.of N1.at_),b,_,rfl,B1,⟨p0,ij p0 p1⟩,λ r2 H2 a0 a5 B2 N=>?_⟩;have N2:=N1.fix N;obtain⟨x,hx,J⟩:=tO a0 a5;exists l,_,r2,_,rfl,rfl,cN.of N2.at_,hx;exists _,rfl,rfl,_,rfl
  rcases hw with rfl | rfl | rfl | rfl | rfl
  ·
   rw[show decide (V.str "put" = V.str "copy")=false by decide];refine fB ⟨_,rfl,rfl,_,rfl,?_⟩;rw[show decide (V.str "put" = V.str "put")=true by decide];refine eI (eI ⟨_,rfl,_,rfl,_,rfl,b,rfl,B2,λ n H3 nk B3 Y=>⟨Ay,λ t G=>?_⟩⟩);exact q _ (.put x n) _ (.tup cu (.cons (.str _) (.cons (.str _) (.cons (.int _) .nil)))) ⟨J,nk⟩ (B3.new G) (((F1.trans N).trans Y).trans (Fix.new G))
  ·
   rw[show decide (V.str "copy" = V.str "copy")=true by decide];obtain⟨p0,p1⟩:=N2.pos;refine eI ⟨_,rfl,_,rfl,_,rfl,_,rfl,_,rfl,l,_,rfl,.inl (cN.of N2.at_),b,_,rfl,B2,⟨p0,ij p0 p1⟩,λ r3 H3 a3 a4 B3 Y=>?_⟩;have N3:=N2.fix Y;obtain⟨y,hy,a1⟩:=tO a3 a4;refine⟨l,_,r3,_,rfl,rfl,cN.of N3.at_,hy,Ay,λ t G=>?_⟩;exact q _ (.copy x y) _ (.tup cu (.cons (.str _) (.cons (.str _) (.cons (.str _) .nil)))) ⟨J,a1⟩ (B3.new G) (((F1.trans N).trans Y).trans (Fix.new G))
  ·
   rw[show decide (V.str "add" = V.str "copy")=false by decide];refine fB ⟨_,rfl,rfl,_,rfl,?_⟩;rw[show decide (V.str "add" = V.str "put")=false by decide];refine fB ⟨_,rfl,rfl,_,rfl,?_⟩;rw[show decide (V.str "add" = V.str "add")=true by decide];refine eI ⟨_,rfl,_,rfl,_,rfl,b,rfl,B2,λ n H3 nk B3 Y=>⟨Ay,λ t G=>?_⟩⟩;exact q _ (.add x n) _ (.tup cu (.cons (.str _) (.cons (.str _) (.cons (.int _) .nil)))) ⟨J,nk⟩ (B3.new G) (((F1.trans N).trans Y).trans (Fix.new G))
  ·
   rw[show decide (V.str "read" = V.str "copy")=false by decide];refine fB ⟨_,rfl,rfl,_,rfl,?_⟩;rw[show decide (V.str "read" = V.str "put")=false by decide];refine fB ⟨_,rfl,rfl,_,rfl,?_⟩;rw[show decide (V.str "read" = V.str "add")=false by decide];refine fB ⟨_,rfl,_,rfl,ln2,λ t G=>?_⟩;exact q _ (.read x) _ (.tup cu (.cons (.str _) (.cons (.str _) .nil))) J (B2.new G) ((F1.trans N).trans (Fix.new G))
  ·
   rw[show decide (V.str "tell" = V.str "copy")=false by decide];refine fB ⟨_,rfl,rfl,_,rfl,?_⟩;rw[show decide (V.str "tell" = V.str "put")=false by decide];refine fB ⟨_,rfl,rfl,_,rfl,?_⟩;rw[show decide (V.str "tell" = V.str "add")=false by decide];refine fB ⟨_,rfl,_,rfl,ln2,λ t G=>?_⟩;exact q _ (.tell x) _ (.tup cu (.cons (.str _) (.cons (.str _) .nil))) J (B2.new G) ((F1.trans N).trans (Fix.new G))
theorem CS {fd:FuncData} (F:eC K "_law_end" "_law_end" rO f fd) (Z:Bl mg) (B:Own P w K mg base "_law_take" 1 ["bag", "many"] iN) (D:Own P w K mg base "_law_number" 2 ["bag"] o3):dB P w K mg base d7 3 f fd ["bag", "names", "count"] uJ:=by
 refine F.ok (k:=2) mI (λ vs H Q E h=>?_) (λ a5 A outer s H vs Q E J h=>?_)
 ·obtain⟨b,l,xs,c,rfl,_⟩:=h;rfl
 ·obtain⟨b,l,xs,c,rfl,hB,hN,c0,c1,q⟩:=h;refine⟨_,(cw (cU (i:=3) mI.nd (cH B J (cS (pv 0) cA)))
   (cw (dJ (cP eF (pv 3) cA (cX _))
   (cB (cK (dH (cF dA))))
   du)
   (cw (dJ (cP jh (pv 3) cA (cX _))
   (cB (cK (dH (cS dA (cH B J (cS (pv 0) (pv 2)))))))
   du)
   (cw (cU (i:=4) mI.nd (cI eY (fh (cS dA dA)) (dt ow (cH B J (cS (pv 0) cA)) cA)))
   (cw (cU (i:=5) mI.nd (cI eY (pv 1) (cH B J (cS (pv 0) (cY cM rfl Z.len dU (cF (pv 1)))))))
   (cB (cK (dH (eE (pv 4) (eE (pv 5) (eE (cH D J (cF (pv 0))) (eE (cH B J (cS (pv 0) (pv 2))) (eE (cH B J (cS (pv 0) (pv 2))) fg))))))))))))),?_⟩
  have ck:(0:Int)<(c:Int)/\(c:Int).natAbs.log2<9000:=⟨by omega,ij ⋯ ⋯⟩;refine⟨_,rfl,b,9,rfl,hB,⟨by decide,by decide⟩,λ r H1 r0 r1 B1 X1=>?_⟩;exists _,rfl,rfl,_,rfl;refine fR (λ hc=>?_) (λ hc=>?_)
  ·refine⟨Ax,λ t G=>?_⟩;exact q _ .stop _ (.tup cu (.cons (.str _) .nil)) True.intro (B1.new G) (X1.trans (Fix.new G))
  exists _,rfl,_,_,rfl,rfl,_,rfl;refine fR (λ hd=>?_) (λ hd=>?_)
  ·refine⟨_,rfl,_,rfl,b,_,rfl,B1,ck,λ p H2 N p1 B2 Y=>⟨ln2,λ t G=>?_⟩⟩;obtain⟨k,rfl⟩:∃k:Nat,p=k:=⟨p.toNat,by omega⟩;exact q _ (.go k) _ (.tup cu (.cons (.str _) (.cons (.int _) .nil))) (show k<c by omega) (B2.new G) ((X1.trans Y).trans (Fix.new G))
  ·refine⟨ln2,λ l0 m0=>?_⟩;refine⟨_,rfl,b,3,rfl,B1.new m0,⟨by decide,by decide⟩,λ z H2 z0 z1 B2 Y=>⟨_,_,rfl,rfl,⟨by decide,by decide⟩,?_⟩⟩;have h0:H2 l0=some (.lst [.str "less",.str "is"]):=Y l0 _ cu (B1.eZ m0);have hw:∃w:Bool,iL [V.str "less",V.str "is"] (z / 2)=some (V.str (wT w)):=by
    obtain h | h:z / 2=0\/z / 2=1:=by omega
    ·rw[h];exact⟨true,eG⟩
    ·rw[h];exact⟨false,gQ⟩
   obtain⟨w,a1⟩:=hw;exists l0,_,_,_,rfl,rfl,cN.of h0,a1;have F2:Fix b H H2:=(X1.trans (Fix.new m0)).trans Y;have N2:=hN.fix F2;obtain⟨N,p1⟩:=N2.pos;refine⟨_,rfl,_,rfl,_,rfl,l,_,rfl,.inl (cN.of N2.at_),b,_,rfl,B2,⟨N,ij N p1⟩,λ r3 H3 a0 a3 B3 X3=>?_⟩;have N3:=N2.fix X3;obtain⟨x,hx,a2⟩:=tO a0 a3;exists l,_,r3,_,rfl,rfl,cN.of N3.at_,hx;refine⟨_,rfl,_,rfl,_,rfl,b,rfl,B3,λ n H4 nk B4 X4=>?_⟩;refine⟨_,rfl,_,rfl,b,_,rfl,B4,ck,λ p H5 N p1 B5 X5=>?_⟩;refine⟨_,rfl,_,rfl,b,_,rfl,B5,ck,λ p' H6 a6 a4 B6 X6=>⟨LG,λ t G=>?_⟩⟩;obtain⟨k,rfl⟩:∃k:Nat,p=k:=⟨p.toNat,by omega⟩;obtain⟨k',rfl⟩:∃k:Nat,p' = k:=⟨p'.toNat,by omega⟩;exact q _ (.eM w x n k k') _ (.tup cu (.cons (.str _) (.cons (.str _) (.cons (.int _) (.cons (.int _) (.cons (.int _) .nil)))))) ⟨a2,nk,by omega,by omega⟩ (B6.new G) ((((F2.trans X3).trans X4).trans (X5.trans X6)).trans (Fix.new G))
theorem Ah {fd:FuncData} (F:eC K "_law_plan" "_law_plan" pV f fd) (Z:Bl mg) (G:Own P w K mg base "_law_take" 1 ["bag", "many"] iN) (B:Own P w K mg base "_law_names" 2 ["bag"] vI) (D:Own P w K mg base "_law_deed" 3 ["bag", "names"] uI) (J:Own P w K mg base "_law_end" 3 ["bag", "names", "count"] uJ):dB P w K mg base d7 4 f fd ["bag", "count", "most"] yN:=by
  refine F.ok (k:=3) jb (λ vs H Q E h=>?_) (λ ac A outer s H vs Q E hr h=>?_)
  . obtain⟨b,c,m,rfl,_⟩:=h
    rfl
  . obtain⟨b,c,m,rfl,hB,c0,c1,hm,q⟩:=h
    refine⟨_,(cw (cU (i:=3) jb.nd (cH B hr (cF (pv 0))))
      (cw (cU (i:=4) jb.nd (fh fg))
      (cw (gu PassesOwn.never rfl (fE rfl Z.range (cF (pv 1))) (cJ (i:=5) jb.nd)
      (cw (cU (i:=6) jb.nd (cH G hr (cS (pv 0) (dt fH (pv 2) cA))))
      (cw (cU (i:=7) jb.nd (cH J hr (iJ (pv 0) (pv 3) (pv 1))))
      (cB (eJ (gr PySem.F.plainAttrs_list PySem.F.slot_list_append PySem.F.type_list_append fo (pv 4) (cF (dH (cS (cZ cT rfl Z.tuple dI (cF (fL ["j"] ["bag", "names"] [0,3] rfl (fE rfl Z.range (cF (pv 6))) rfl ⋯ ⋯ ⋯ ⟨⟨rfl,.inl rfl,rfl⟩,⟨⟨rfl,.inl rfl,rfl⟩,True.intro⟩⟩ (λ _ _ _ _=>(cJ (i:=0) (show ((["j"]:List Str)++(["bag", "names"]:List Str)).Nodup by decide) (hf:=Mg rfl))) (λ _ _ _ _=>fx) (λ _ _ _ _=>(cH D hr (cS (pv 1) (pv 2))))))) (pv 7))))))))))
      (cB (cK (cZ cT rfl Z.tuple dI (cF (pv 4)))))))),?_⟩
    try dsimp only[mw,qm]
    refine yo ?_;intro D0 R3 R2 R1;refine⟨_,rfl,b,rfl,hB,λ l xs H1 N1 x4 B1 X1=>?_⟩;refine⟨(by show 0<=sizeLine;decide),λ pl pn=>?_⟩;have a3:pl≠b:=B1.eZ pn;refine⟨_,rfl,_,rfl,⋯,⋯,iz (lo:=0) (λ i LQ H'=>∃(u1 u2 u3:Option V) (ps:List Piece) (vs:List V),LQ=[some (.ref b),some (.int c),some (.int m),some (.ref l),some (.ref pl),u1,u2,u3] /\
      H' pl=some (.lst vs)/\dh H' vs (ps.map d8)/\ps.length=i/\(∀p∈ps,(p.1.length<=m/\∀d∈p.1,fV xs d)/\iT xs c p.2)/\iO H' b l xs/\e7 H' b/\Fix b H H'/\(∀d o,H1 d=some o->d≠b->H' d=some o)) ?_ ?_ ?_⟩
    . exact⟨_,_,_,[],[],rfl,cu,.nil,rfl,(λ _ h=>nomatch h),N1.fix (Fix.new pn),B1.new pn,X1.trans (Fix.new pn),Fix.new pn⟩
    . rintro i LQ H' hi ⟨u1,u2,u3,ps,vs,rfl,hp,hr,hl,de,N',B',X',Y'⟩
      refine⟨_,rfl,_,rfl,_,_,rfl,rfl,b,_,rfl,B',⟨by omega,ij ⋯ ⋯⟩,λ k H2 k0 k1 B2 X2=>?_⟩;have N2:=N'.fix X2;refine⟨_,rfl,_,rfl,_,rfl,b,l,xs,c,rfl,B2,N2,c0,⋯,λ ev e H3 re ek B3 X3=>?_⟩;have N3:=N2.fix X3;have a5:H3 pl=some (.lst vs):=(X2.trans X3) pl _ hp a3;have ab:dh H3 vs (ps.map d8):=hr.fix B' (X2.trans X3) (cO ps);refine⟨_,rfl,.inl ⟨rfl,_,cN.of a5⟩,_,rfl,_,rfl,⋯,⋯,λ acc na=>?_⟩;have a8:acc≠b:=B3.eZ na;refine jV (lo:=0) (λ i ys LR H'=>∃(v:Option V) (ds:List e6),LR=[v,some (.ref b),some (.ref l)]/\dh H' ys (ds.map eN)/\ds.length=i/\(∀d∈ds,fV xs d)/\H' acc=some (.lst ys)/\e7 H' b/\Fix b H3 H') ?_ ?_ ?_ ?_
      . exact⟨none,[],rfl,.nil,rfl,(λ _ h=>nomatch h),cu,B3.new na,Fix.new na⟩
      . rintro i' ys LR H4 aa ⟨v,ds,rfl,Y,N,_,ha,_⟩
        exists ha;rw[Y.len,LU];exact cV ⋯
      . rintro i' ys LR H4 aa ⟨v,ds,rfl,Y,N,a4,ha,B4,X4⟩
        refine dW ?_;refine iw ?_;refine eI ?_;refine⟨_,rfl,_,rfl,b,l,xs,rfl,B4,N3.fix X4,λ dv d H5 rd dk B5 X5=>?_⟩;have a2:=X5 acc _ ha a8;exists a2,_,ds++[d],rfl,?_,(by rw[LY,N];rfl),?_,cu,?_
        . rw[L4]
          refine dh.app ((Y.fix B4 X5 (dq ds)).put a2 (dq ds)) ?_;exact rd.dr (λ p zs e=>by rw[cx (dD e a2 (by intro z;cases z))];exact e) (i8 d)
        . intro d' hd
          rcases Mh.mp hd with hd | hd
          . exact a4 d' hd
          . rw[LX.mp hd];exact dk
        . obtain⟨x,y,e,z⟩:=B5
          exact⟨x,y,by rw[cx a8.symm];exact e,z⟩
        . intro d' o hd nd
          rw[cx (cD hd na)];exact (X4.trans X5) d' o hd nd
      . rintro ys LR H4 ⟨v,ds,rfl,Y,N,a4,ha,B4,X4⟩
        refine⟨acc,ys,rfl,.inl ⟨cN.of ha,λ tp tn=>?_⟩⟩;refine⟨_,rfl,ln2,λ pc a6=>?_⟩;have S6:cy H4 (upd (upd H4 tp (.tup ys)) pc (.tup [.ref tp,ev])):=(cy.new tn).trans (cy.new a6);have a1:(upd (upd H4 tp (.tup ys)) pc (.tup [.ref tp,ev])) pl=some (.lst vs):=S6 _ _ (X4 pl _ a5 a3);exists pl,_,_,rfl,rfl,a1,?_
        . rw[hr.len,LU,hl]
          exact cV ⋯
        have a0:cW (upd (upd H4 tp (.tup ys)) pc (.tup [.ref tp,ev])) (.ref pc) (d8 (ds,e)):=by
          refine .tup cu (.cons (.tup (cy.new a6 _ _ cu) (Y.same S6 (dq ds))) (.cons ?_ .nil));exact (re.fix B3 X4 (jB e)).same S6 (jB e)
        have F6:Fix b H (upd (upd H4 tp (.tup ys)) pc (.tup [.ref tp,ev])):=((X'.trans (X2.trans X3)).trans X4).trans (Fix.of_same S6);have a7:∀d o,H1 d=some o->d≠b->d≠pl:=λ d o hd nd z=>by rw[z,pn] at hd;cases hd
        exists _,_,_,ps++[(ds,e)],vs++[.ref pc],rfl,cu,?_,(by rw[LY,hl];rfl),?_,?_,?_,?_
        . rw[L4]
          refine dh.app (((ab.fix B3 X4 (cO ps)).same S6 (cO ps)).put a1 (cO ps)) ?_;exact a0.dr (λ p zs e=>by rw[cx (dD e a1 (by intro z;cases z))];exact e) (gM (ds,e))
        . intro p hpm
          rcases Mh.mp hpm with hpm | hpm
          . exact de p hpm
          . rw[LX.mp hpm]
            exact⟨⟨by show ds.length<=m;omega,a4⟩,ek⟩
        . have a9:l≠pl:=λ z=>by
            have:=N1.at_;rw[z,pn] at this;cases this
          have N6:=(N3.fix X4).fix (Fix.of_same (b:=b) S6);exact⟨by rw[cx a9];exact N6.at_,N6.ne,N6.yk,N6.er,N6.ok⟩
        . obtain⟨x,y,e',z⟩:=B4.same S6
          exact⟨x,y,by rw[cx a3.symm];exact e',z⟩
        . intro d o hd nd
          have h1:=X1 d o hd nd;rw[cx (a7 d o h1 nd)];exact F6 d o hd nd
        . intro d o hd nd
          rw[cx (a7 d o hd nd)];exact S6 d o (X4 d o ((X2.trans X3) d o (Y' d o hd nd) nd) nd)
    . rintro LQ H' ⟨u1,u2,u3,ps,vs,rfl,hp,hr,hl,de,N',B',X',Y'⟩
      have N:ps.length=c:=by rw[hl];omega
      refine⟨_,rfl,pl,_,rfl,.inl ⟨cN.of hp,λ tp tn=>?_⟩⟩;refine q (.ref tp) xs ps _ (.tup cu (hr.same (cy.new tn) (cO ps))) N ⟨λ p hpm=>(de p hpm).1,λ p hpm=>?_⟩ ⟨N'.ok,x4⟩ (B'.new tn) (X'.trans (Fix.new tn));rw[N];exact (de p hpm).2
theorem Ai {fd:FuncData} (F:eC K "_law_ways" "_law_ways" pW f fd) (Z:Bl mg)  : dB P w K mg base d7 1 f fd ["end"] tY:=by
 refine F.ok (k:=0) Aa (λ vs H Q E h=>?_) (λ a0 A outer s H vs Q E hr h=>?_)
 ·obtain⟨G,e,rfl,_⟩:=h;rfl
 ·obtain⟨G,e,rfl,Y,q⟩:=h;exists _,(cB (cK (cZ kd rfl Z.list oy (cF (jS kT (pv 0) (kO (dt gJ (cY cM rfl Z.len dU (cF (pv 0))) (ib (fM hr) (vK (kP dA cA (kP dA cA rY)) rfl rfl (Oh _ _) (by show 2<=15;decide)) (cI df (pv 0) cA) cA ⟨rfl,rfl,rfl,rfl⟩))) kN)))));refine⟨_,rfl,_,rfl,G,_,rfl,.inr (cE.of Y),λ B N=>?_⟩;exists cu,[(Sum.inr "stop",.int 0),(Sum.inr "go",.int 1)],rfl,⋯;have J:cy H (upd (upd H B (.dK [])) B (.dK kZ)):=λ c o h=>by rw[cx (cD h N),cx (cD h N)];exact h
  have hz:(upd (upd H B (.dK [])) B (.dK kZ)) B=some (.dK kZ):=cu
  try change (_:Hp->Prop) (upd (upd H B (.dK [])) B (.dK kZ))
  generalize (upd (upd H B (.dK [])) B (.dK kZ))=H1 at J hz ⊢;have D:=J _ _ Y;exists B,rfl,.inl ⟨_,.inl hz⟩,_,rfl,G,_,0,_,rfl,rfl,cE.of D,zJ e,_,_,fS.k (k:=Sum.inr (wE e)) hz,zG e,_,_,rfl,rfl;refine⟨_,congrArg V.int (zI e),G,_,rfl,cE.of D,λ hw=>absurd hw.1 (Bm e),λ _ p hp=>⟨p,_,rfl,.inr (cE.of cu),λ l nl=>?_⟩⟩;rw[zH e] at nl ⊢;exact q l _ (J.free ((cy.new hp).free nl)) cu ((J.trans (cy.new hp)).trans (cy.new nl))
theorem wK {fd:FuncData} (F:eC K "_law_doubled" "_law_doubled" mu f fd) (Z:Bl mg) (D:Own P w K mg base "_law_take" 1 ["bag", "many"] iN):dB P w K mg base d7 2 f fd ["bag", "plan", "many"] xP:=by
  refine F.ok (k:=1) fD (λ vs H Q E h=>?_) (λ bq A outer s H vs Q E hr h=>?_)
  . obtain⟨b,bf,ps,m,rfl,_⟩:=h
    rfl
  . obtain⟨b,bf,ps,m,rfl,hB,aE,ba,bm,hn,q⟩:=h
    refine⟨_,(cw (cU (i:=3) fD.nd (x9 rfl rfl Z.list rfl Z.range (eE (cY cM rfl Z.len dU (eE (pv 1) fg)) fg)))
      (cw (gu PassesOwn.never rfl (fE rfl Z.range (cF (pv 2))) (cJ (i:=4) fD.nd)
      (cB (eJ (gr PySem.F.plainAttrs_list PySem.F.slot_list_insert PySem.F.type_list_insert Gh (pv 3) (cS (dt fH (cH D hr (cS (pv 0) (cY cM rfl Z.len dU (cF (pv 3))))) cA) (cH D hr (cS (pv 0) (cY cM rfl Z.len dU (cF (pv 1))))))))))
      (cw (cU (i:=5) fD.nd (fh fg))
      (cw (gu PassesOwn.never rfl (kK (pv 3)) (cJ (i:=6) fD.nd)
      (cw (fz (cI df (pv 1) (pv 6)) (fw rfl (cR (cJ (i:=7) fD.nd) (cR (cJ (i:=8) fD.nd) eX))))
      (cw (cU (i:=9) fD.nd (fh fg))
      (cw (gu PassesOwn.never rfl (hH (jS kT (pv 8) (kO (dt gJ (cY cM rfl Z.len dU (cF (pv 8))) (ib (fM hr) (vK (kP dA cA (kP dA cA rY)) rfl rfl (Oh _ _) (by show 2<=15;decide)) (cI df (pv 8) cA) cA ⟨rfl,rfl,rfl,rfl⟩))) kN)) (cJ (i:=10) fD.nd)
      (cw (iS (i:=11) ["k"] ["there", "sources"] [10,3] rfl fD.nd rfl rfl rfl (fE rfl Z.range (cF (cY cM rfl Z.len dU (cF (pv 3))))) rfl ⋯ ⋯ ⋯ ⟨⟨rfl,.inl rfl,rfl⟩,⟨⟨rfl,.inl rfl,rfl⟩,True.intro⟩⟩ (λ _ _ _ _=>(cJ (i:=0) (show ((["k"]:List Str)++(["there", "sources"]:List Str)).Nodup by decide) (hf:=Mg rfl))) (λ _ _ _ _=>(rT (cP eF (cI (tV (K:=K) rfl) (pv 2) (pv 0)) (pv 1) (cX _)))) (λ _ _ _ _=>(pv 0)))
      (cB (eJ (gr PySem.F.plainAttrs_list PySem.F.slot_list_append PySem.F.type_list_append fo (pv 9) (cF (cI eY (pv 11) (cH D hr (cS (pv 0) (cY cM rfl Z.len dU (cF (pv 11))))))))))))
      (cB (eJ (gr PySem.F.plainAttrs_list PySem.F.slot_list_append PySem.F.type_list_append fo (pv 5) (cF (dH (cS (pv 7) (dt oJ (jS kT (pv 8) kN (kO (dt gJ (cY cM rfl Z.len dU (cF (pv 8))) (cY cM rfl Z.len dU (cF (pv 9)))))) (cZ cT rfl Z.tuple dI (cF (pv 9))))))))))))))
      (cB (cK (dH (cS (cZ cT rfl Z.tuple dI (cF (pv 5))) (cZ cT rfl Z.tuple dI (cF (pv 3))))))))))),?_⟩
    try dsimp only[mw,qm]
    refine Hf ?_;intro D0 R4 R3 R2 R1;obtain⟨pp,vs,rfl,e1,aY⟩:=cW.d9 aE;have aZ:=aE;have bp:vs.length=ps.length:=by have:=aY.len;rw[LU] at this;exact this
    have pk:(0:Int)<(vs.length:Int)/\(vs.length:Int).natAbs.log2<9000:=⟨by omega,ij ⋯ ⋯⟩;refine⟨_,rfl,pp,_,rfl,.inr (cE.of e1),vs.length,rfl,⋯,λ l nl=>?_⟩;have a6:l≠b:=hB.eZ nl;refine⟨_,rfl,_,rfl,⋯,⋯,iz (lo:=0) (λ i LQ H'=>∃(u1 u2 u3 u4 u5 u6 u7 u8:Option V) (B:List Nat),LQ=[some (.ref b),some (.ref pp),some (.int (m:Nat)),some (.ref l),u1,u2,u3,u4,u5,u6,u7,u8]/\H' l=some (.lst (vN B))/\B.length=ps.length+i/\(∀s∈B,s<ps.length)/\(∀j,j<ps.length->j∈B)/\e7 H' b/\Fix b H H') ?_ ?_ ?_⟩
    . refine⟨_,_,_,_,_,_,_,_,L1 vs.length,rfl,cu,(by rw[Nt];omega),λ s hs=>?_,λ j hj=>?_,hB.new nl,Fix.new nl⟩
      . have:=MI.mp hs;omega
      . exact MI.mpr ⋯
    . rintro i LQ H1 hi ⟨u1,u2,u3,u4,u5,u6,u7,u8,B,rfl,a3,b1,ad,ac,B1,X1⟩
      refine dW ?_;have aT:∀p G,H p=some (.tup G)->H1 p=some (.tup G):=λ p G h=>X1 p _ h (hB.hR h)
      have a8:(vN B).length=B.length:=LU ..;refine⟨_,rfl,.inl ⟨rfl,_,cN.of a3⟩,_,rfl,_,rfl,l,_,rfl,.inl (cN.of a3),b,_,rfl,B1,⟨by omega,ij ⋯ ⋯⟩,λ r H2 r0 r1 B2 X2=>⟨_,_,rfl,rfl,_,rfl,_,rfl,pp,_,rfl,.inr (cE.of (X2 _ _ (aT _ _ e1) (B1.hR (aT _ _ e1)))),b,_,rfl,B2,pk,λ y H3 y0 y1 B3 X3=>?_⟩⟩;obtain⟨s,rfl⟩:∃s:Nat,y=s:=⟨y.toNat,by omega⟩;have b3:=X3 _ _ (X2 _ _ a3 a6) a6;exists l,_,_,(r+1).toNat,_,rfl,rfl,⋯,b3,⋯,⋯;rw[Gy];refine⟨_,_,_,_,_,_,_,_,_,rfl,cu,(by rw[Ez ⋯];omega),λ s' a9=>?_,λ j hj=>xQ.mpr (.inr (ac j hj)),B3.put a6.symm,λ c' o h nb=>?_⟩
      . rcases xQ.mp a9 with e | h
        . rw[e];omega
        . exact ad s' h
      . rw[cx (cD h nl)]
        exact X3 _ _ (X2 _ _ (X1 _ _ h nb) nb) nb
    rintro LQ H1 ⟨u1,u2,u3,u4,u5,u6,u7,u8,B,rfl,a3,b1,ad,ac,B1,X1⟩
    try (refine lh ?_;intro sg)
    have aI:B.length=ps.length+m:=by omega
    have a8:(vN B).length=B.length:=LU ..;refine⟨(by show 0<=sizeLine;decide),λ sl J=>?_⟩;have am:sl≠b:=B1.eZ J;have aC:sl≠l:=λ z=>by rw[z,a3] at J;cases J
    have ay:=cy.new (o:=.lst []) J _ _ a3;have aK:∀c o,H c=some o->c≠b->c≠sl:=λ c o h nb z=>by have:=X1 c o h nb;rw[z,J] at this;cases this
    refine⟨_,rfl,l,rfl,⟨_,cN.of ay⟩,E3 (K:=K) (a:=l) (xs:=vN B) (λ i LQ H'=>∃(u1 u2 u3 u4 u5 u6 u7:Option V) (qs:List Piece) (G:List V),LQ=[some (.ref b),some (.ref pp),some (.int (m:Nat)),some (.ref l),u1,some (.ref sl),u2,u3,u4,u5,u6,u7]/\H' l=some (.lst (vN B))/\H' sl=some (.lst G)/\dh H' G (qs.map d8)/\qs.length=i/\(∀(k s:Nat) (p:Piece),k<i->B[k]?=some s->ps[s]?=some p->∃ks:List Nat,qs[k]?=some (p.1,gZ p.2 ks)/\ks.length=(cC p.2).length/\(∀w∈ks,w<B.length)/\ks.map (cL B)=cC p.2)/\e7 H' b/\Fix b H H') ?_ ?_ ?_ ?_⟩
    . exact⟨_,_,_,_,_,_,_,[],[],rfl,ay,cu,.nil,rfl,(λ k s p hk=>absurd hk (Nat.not_lt_zero k)),B1.new J,X1.trans (Fix.new J)⟩
    . rintro i LQ H2 hi ⟨u1,u2,u3,u4,u5,u6,u7,qs,G,rfl,hl,hs,rq,a1,ab,B2,X2⟩
      exact cN.of hl
    . rintro i x LQ H2 hx ⟨u1,u2,u3,u4,u5,u6,u7,qs,G,rfl,au,aQ,b9,a1,ab,B2,X2⟩
      obtain⟨s,a9,rfl⟩:∃k,B[i]?=some k/\x=V.int (k:Nat):=by
        rw[L6] at hx;cases z:B[i]? with
        | none=>rw[z] at hx;cases hx
        | some k=>rw[z] at hx;exact⟨k,rfl,(Mf.inj hx).symm⟩
      have bu:i<B.length:=(Md.mp a9).1;have al:=ad s (L8 a9);have ao:ps[s]?=some ps[s]:=by simp[al]
      have ak:=λ w (hw:w∈cC ps[s].2)=>wj ba (MU al) hw
      generalize ps[s]=pce at ao ak;obtain⟨ds,e⟩:=pce;obtain⟨p',br,pc,da,ea,ws,ep,aB,bt,bc,e2,e3,r3,e4⟩:=gX aZ ao;cases ep;rw[e1] at aB;cases aB;have a2:∀p G,H p=some (.tup G)->H2 p=some (.tup G):=λ p G h=>X2 p _ h (hB.hR h)
      refine dW ?_;exists _,rfl,_,rfl,pp,_,_,_,rfl,rfl,cE.of (a2 _ _ e1),dN bc,pc,_,rfl,cE.of (a2 _ _ e2),rfl,_,_,rfl,_,_,rfl,rfl;refine⟨(by show 0<=sizeLine;decide),λ wl N=>?_⟩;have aR:wl≠b:=B2.eZ N;have aX:wl≠l:=λ z=>by rw[z,au] at N;cases N
      have bl:wl≠sl:=λ z=>by rw[z,aQ] at N;cases N
      have s3:=cy.new (o:=.lst []) N;have an:(upd H2 wl (.lst [])) wl=some (.lst []):=cu;generalize (upd H2 wl (.lst []))=H3 at s3 an ⊢;have ar:=s3 _ _ (a2 _ _ e4);refine⟨_,rfl,_,rfl,ea,_,rfl,.inr (cE.of ar),λ dz nz=>?_⟩;exists cu,[(Sum.inr "stop",.int 0),(Sum.inr "go",.int 1)],rfl,⋯;have s4:cy H3 (upd (upd H3 dz (.dK [])) dz (.dK kZ)):=λ c o h=>by rw[cx (cD h nz),cx (cD h nz)];exact h
      have hz:(upd (upd H3 dz (.dK [])) dz (.dK kZ)) dz=some (.dK kZ):=cu
      try change (_:Hp->Prop) (upd (upd H3 dz (.dK [])) dz (.dK kZ))
      generalize (upd (upd H3 dz (.dK [])) dz (.dK kZ))=H4 at s4 hz ⊢;have av:=s4 _ _ ar;exists dz,rfl,.inl ⟨_,.inl hz⟩,_,rfl,ea,_,0,_,rfl,rfl,cE.of av,zJ e,_,_,fS.k (k:=Sum.inr (wE e)) hz,zG e,_,_,rfl,rfl;refine⟨_,congrArg V.int (zI e),ea,_,rfl,cE.of av,λ hw=>absurd hw.1 (Bm e),λ _ tw aJ=>?_⟩;rw[zH e];have s5:=cy.new (o:=.tup (vN (cC e))) aJ;have aa:(upd H4 tw (.tup (vN (cC e)))) tw=some (.tup (vN (cC e))):=cu;generalize (upd H4 tw (.tup (vN (cC e))))=H5 at s5 aa ⊢;have ap:=(s3.trans s4).trans s5;have aW:=(s4.trans s5) _ _ an;have B5:=B2.same ap;clear hz aJ nz s4 s5 av ar s3 an;have aV:tw≠b:=B5.hR aa;have aN:tw≠wl:=dD aa aW (by intro z;cases z);have bh:=pJ e;refine⟨tw,rfl,⟨_,cE.of aa⟩,kL (K:=K) (a:=tw) (xs:=vN (cC e)) (λ j LQ H'=>∃(v1 v2:Option V) (ks:List Nat),LQ=[some (.ref b),some (.ref pp),some (.int (m:Nat)),some (.ref l),u1,some (.ref sl),some (.int (s:Nat)),some (.ref da),some (.ref ea),some (.ref wl),v1,v2]/\H' wl=some (.lst (vN ks))/\ks.length=j/\(∀w∈ks,w<B.length)/\ks.map (cL B)=(cC e).take j/\e7 H' b/\(∀c o,H5 c=some o->c≠b->c≠wl->H' c=some o)) ?_ ?_ ?_ ?_⟩
      . exact⟨_,_,[],rfl,aW,rfl,(λ _ h=>nomatch h),rfl,B5,λ c o h _ _=>h⟩
      . rintro j LQ H6 hj ⟨v1,v2,ks,rfl,as,aF,ae,a4,B6,X6⟩
        exact cE.of (X6 _ _ aa aV aN)
      . rintro j y LQ H6 hy ⟨v1,v2,ks,rfl,as,aF,ae,a4,B6,X6⟩
        obtain⟨w0,aw,rfl⟩:∃k,(cC e)[j]?=some k/\y=V.int (k:Nat):=by
          rw[L6] at hy;cases z:(cC e)[j]? with
          | none=>rw[z] at hy;cases hy
          | some k=>rw[z] at hy;exact⟨k,rfl,(Mf.inj hy).symm⟩
        have aL:=ac w0 (ak w0 (L8 aw));have aD:=X6 _ _ (ap _ _ au) a6 aX.symm;refine dW ?_;refine⟨_,rfl,l,_,rfl,.inl (cN.of aD),_,rfl,⋯,⋯,λ pl a5=>?_⟩;refine jV (lo:=0) (λ i ys LR H'=>∃(c1:Option V),LR=[c1,some (.int (w0:Nat)),some (.ref l)]/\ys=vN ((L1 i).filter λ k=>decide (cL B k=w0))/\H' pl=some (.lst ys)/\cy H6 H') ?_ ?_ ?_ ?_
        . exact⟨none,rfl,rfl,cu,cy.new a5⟩
        . rintro i' ys LR H7 bd ⟨c1,rfl,rfl,ha,s7⟩
          exists ha;have:=M9 (λ k=>decide (cL B k=w0)) (L1 i');rw[Nt] at this;rw[LU];exact cV ⋯
        . rintro i' ys LR H7 bd ⟨c1,rfl,rfl,ha,s7⟩
          have b6:i' < B.length:=by omega
          refine dW ?_;exists _,rfl,_,rfl,l,_,_,_,rfl,rfl,cN.of (s7 _ _ aD),(by rw[Og];exact dN (J6 b6)),_,rfl,rfl,_,rfl;by_cases hc:cL B i' = w0
          . refine eU (decide_eq_true (by rw[hc])) ?_
            refine⟨_,rfl,ha,_,rfl,?_,cu,s7.put a5⟩;rw[my,if_pos (decide_eq_true hc),Og,sy]
          . refine dn (decide_eq_false λ z=>hc (by injection z with z;omega)) ?_
            refine⟨_,rfl,?_,?_,s7⟩
            . rw[my,if_neg (by rw[decide_eq_false hc];decide),Nb]
            . exact ha
        rintro ys LR H7 ⟨c1,rfl,rfl,ha,s7⟩;refine dW ?_;rw[show ((vN B).length:Int).toNat=B.length by rw[a8];omega] at ha;have aO:=z7 aL;have ah:=M9 (λ k=>decide (cL B k=w0)) (L1 B.length);rw[Nt] at ah;generalize hL:(L1 B.length).filter (λ k=>decide (cL B k=w0))=L at ha aO ah;have B7:=B6.same s7;have b8:pl≠b:=B6.eZ a5;have bg:pl≠wl:=λ z=>by rw[z,as] at a5;cases a5
        have az:=s7 _ _ as;have bo:(vN L).length=L.length:=LU ..;refine⟨_,rfl,.inl ⟨rfl,_,cN.of az⟩,_,rfl,_,rfl,_,rfl,pl,_,rfl,.inl (cN.of ha),b,_,rfl,B7,⟨by omega,ij ⋯ ⋯⟩,λ r H8 r0 r1 B8 X8=>?_⟩;obtain⟨r,rfl⟩:∃j:Nat,r=j:=⟨r.toNat,by omega⟩;have b4:r<L.length:=by omega
        have aq:L[r]?=some L[r]:=by simp[b4]
        generalize L[r]=k0 at aq;have aU:k0<B.length/\cL B k0=w0:=by
          have hm:=L8 aq;rw[<-hL] at hm;have:=M4.mp hm;exact⟨MI.mp this.1,of_decide_eq_true this.2⟩
        have b2:=X8 _ _ az aR;exists pl,_,_,_,rfl,rfl,cN.of (X8 _ _ ha b8),dN (show (vN L)[r]?=some (V.int (k0:Nat)) by rw[L6,aq];rfl),wl,_,_,rfl,rfl,b2,cV (by rw[LU];have:=(Md.mp aw).1;omega);rw[sy];refine⟨_,_,ks++[k0],rfl,cu,(by rw[LY,aF];rfl),λ w hw=>?_,?_,B8.put aR.symm,λ c o h nb nw=>?_⟩
        . rcases Mh.mp hw with hw | hw
          . exact ae w hw
          . rw[LX.mp hw];exact aU.1
        . rw[L4,a4,take1 aw]
          show _++[cL B k0]=_;rw[aU.2]
        . rw[cx nw]
          exact X8 _ _ (s7 _ _ (X6 c o h nb nw)) nb
      rintro LQ H6 ⟨v1,v2,ks,rfl,aM,ag,ae,a4,B6,X6⟩
      try (refine lh ?_;intro sg)
      rw[LU] at ag a4;rw[Mn] at a4;have af:∀c o,H2 c=some o->c≠b->H6 c=some o:=λ c o h nb=>X6 c o (ap c o h) nb (cD h N)
      have hs:=af _ _ aQ am;have a0:∀p G,H2 p=some (.tup G)->H6 p=some (.tup G):=λ p G h=>af p _ h (B2.hR h)
      have rq:=b9.dr a0 (cO qs);have b0:=a0 _ _ (a2 _ _ e3);have bb:=r3.dr (λ p G h=>a0 _ _ (a2 _ _ h)) (dq ds);have aG:=a0 _ _ (a2 _ _ e4);have el:((fX e).length:Int)-((vN ks).length:Int)=((fK e).length:Nat):=by
        rw[qV,LY,LU,LU,ag];omega
      refine⟨_,rfl,.inl ⟨rfl,_,cN.of hs⟩,_,rfl,_,rfl,_,rfl,ea,_,rfl,.inr (cE.of aG),_,rfl,wl,_,rfl,.inl (cN.of aM),_,_,rfl,rfl,_,congrArg V.int el,pD aG λ t HA ht sA=>?_⟩;refine⟨_,rfl,wl,_,rfl,.inl ⟨cN.of (sA _ _ aM),λ t2 be=>?_⟩⟩;have sB:=cy.new (o:=.tup (vN ks)) be;have bi:(fK e).length<=3:=by cases e<;>simp[fK]
      have bn:=pJ e;refine⟨t,t2,_,_,rfl,rfl,sB _ _ ht,cu,(by rw[LU];exact Mr (cV ⋯)),λ t3 HC ax sC=>⟨ln2,λ t4 b5=>?_⟩⟩;rw[<-mY ag] at ax;have sD:=cy.new (o:=.tup [.ref da,.ref t3]) b5;have sX:=((sA.trans sB).trans sC).trans sD;have aP:(upd HC t4 (.tup [.ref da,.ref t3])) t4=some (.tup [.ref da,.ref t3]):=cu;have ai:=sD _ _ ax;generalize (upd HC t4 (.tup [.ref da,.ref t3]))=HD at sD sX aP ai;have aS:=sX _ _ hs;have bj:G.length=qs.length:=by have:=rq.len;rw[LU] at this;exact this
      exists sl,_,_,rfl,rfl,aS,cV ⋯;have kt:∀p xs,HD p=some (.tup xs)->(upd HD sl (.lst (G++[.ref t4]))) p=some (.tup xs):=λ p xs h=>by rw[cx (dD h aS (by intro z;cases z))];exact h
      have aH:dh (upd HD sl (.lst (G++[.ref t4]))) (G++[.ref t4]) ((qs++[(ds,gZ e ks)]).map d8):=by
        rw[L4];refine dh.app ((rq.same sX (cO qs)).dr kt (cO qs)) (cW.dr kt ?_ (gM _));exact .tup aP (.cons (.tup (sX _ _ b0) (bb.same sX (dq ds))) (.cons (qW ai) .nil))
      have aj:(upd HD sl (.lst (G++[.ref t4]))) sl=some (.lst (G++[.ref t4])):=cu;have Y:∀c o,H6 c=some o->c≠sl->(upd HD sl (.lst (G++[.ref t4]))) c=some o:=λ c o h n=>by rw[cx n];exact sX c o h
      generalize (upd HD sl (.lst (G++[.ref t4])))=HY at aH aj Y;refine⟨_,_,_,_,_,_,_,qs++[(ds,gZ e ks)],_,rfl,Y _ _ (af _ _ au a6) aC.symm,aj,aH,(by rw[LY,a1];rfl),λ k s' p hk h1 h2=>?_,?_,λ c o h nb=>Y c o (af c o (X2 c o h nb) nb) (aK c o h nb)⟩
      . by_cases hki:k=i
        . subst hki
          rw[a9] at h1;cases h1;rw[ao] at h2;cases h2;exact⟨ks,(by rw[M6 ⋯,a1,Nat.sub_self];rfl),ag,ae,a4⟩
        . obtain⟨b7,g1,g2⟩:=ab k s' p ⋯ h1 h2
          exact⟨b7,(by rw[MM (by have:=(Md.mp g1).1;exact this)];exact g1),g2⟩
      . obtain⟨x,y,e,z⟩:=B6
        exact⟨x,y,Y _ _ e am.symm,z⟩
    . rintro LQ H2 ⟨u1,u2,u3,u4,u5,u6,u7,qs,G,rfl,hl,hs,rq,a1,ab,B2,X2⟩
      rw[a8] at a1 ab;refine⟨_,rfl,sl,_,rfl,.inl ⟨cN.of hs,λ t1 n1=>?_⟩⟩;have s1:=cy.new (o:=.tup G) n1;refine⟨_,rfl,l,_,rfl,.inl ⟨cN.of (s1 _ _ hl),λ t2 n2=>⟨ln2,λ t3 n3=>?_⟩⟩⟩;have s2:=cy.new (o:=.tup (vN B)) n2;have s3:=cy.new (o:=.tup [.ref t1,.ref t2]) n3;have a7:=(s1.trans s2).trans s3;exact q t3 t1 t2 G qs B _ cu (s3 _ _ (s2 _ _ cu)) (rq.same a7 (cO qs)) (s3 _ _ cu) aI ⟨a1,ad,ac,λ k s p h1 h2=>ab k s p (Md.mp h1).1 h1 h2⟩ (B2.same a7) (X2.trans (Fix.of_same a7))
theorem uw {fd:FuncData} (F:eC K "_law_like_plan" "_law_like_plan" kF f fd) (Z:Bl mg) (G:Own P w K mg base "_law_plan" 4 ["bag", "count", "most"] yN) (B:Own P w K mg base "_law_take" 1 ["bag", "many"] iN) (J:Own P w K mg base "_law_ways" 1 ["end"] tY):dB P w K mg base d7 5 f fd ["bag", "count"] (sE 2):=by
  refine F.ok (k:=4) fT (λ vs H Q E h=>?_) (λ aQ A outer s H vs Q E hr h=>?_)
  . obtain⟨b,c,rfl,_⟩:=h
    rfl
  . obtain⟨b,c,rfl,hB,c0,cn,q⟩:=h
    refine⟨_,(cw (cU (i:=2) fT.nd (cH G hr (iJ (pv 0) (cY (wN rfl) rfl Z.max Dj (cS cA (dt ow (pv 1) cA))) cA)))
      (cw (cU (i:=3) fT.nd (fh fg))
      (cw (gu PassesOwn.never rfl (fE rfl Z.range (cF (pv 1))) (cJ (i:=4) fT.nd)
      (cw (fz (cI df (pv 2) (cH B hr (cS (pv 0) (cY cM rfl Z.len dU (cF (pv 2)))))) (fw rfl (cR (cJ (i:=5) fT.nd) (cR (cJ (i:=6) fT.nd) eX))))
      (cw (iS (i:=7) ["there"] ["bag", "count"] [0,1] rfl fT.nd rfl rfl rfl (kK (cH J hr (cF (pv 6)))) rfl ⋯ ⋯ ⋯ ⟨⟨rfl,.inl rfl,rfl⟩,⟨⟨rfl,.inl rfl,rfl⟩,True.intro⟩⟩ (λ _ _ _ _=>(cJ (i:=0) (show ((["there"]:List Str)++(["bag", "count"]:List Str)).Nodup by decide) (hf:=Mg rfl))) (λ _ _ _ _=>fx) (λ _ _ _ _=>(cH B hr (cS (pv 1) (pv 2)))))
      (cB (eJ (gr PySem.F.plainAttrs_list PySem.F.slot_list_append PySem.F.type_list_append fo (pv 3) (cF (dH (cS (pv 5) (dt oJ (jS kT (pv 6) kN (kO (dt gJ (cY cM rfl Z.len dU (cF (pv 6))) (cY cM rfl Z.len dU (cF (pv 7)))))) (cZ cT rfl Z.tuple dI (cF (pv 7)))))))))))))
      (cB (cK (cZ cT rfl Z.tuple dI (cF (pv 3)))))))),?_⟩
    try dsimp only[mw,qm]
    refine yo ?_;intro D0 R3 R2 R1;have ck:(0:Int)<(c:Int)/\(c:Int).natAbs.log2<9000:=⟨by omega,ij ⋯ ⋯⟩;have ae:∃g:Nat,(if (c:Int) / 4 > 1 then (c:Int) / 4 else 1)=(g:Int)/\0<g/\g<=1000:=by
      by_cases h:(c:Int) / 4 > 1
      . rw[if_pos h]
        exact⟨((c:Int) / 4).toNat,by omega,by omega,by omega⟩
      . rw[if_neg h]
        exact⟨1,rfl,by decide,by decide⟩
    obtain⟨g,hg,g0,g1⟩:=ae;refine⟨_,rfl,_,rfl,_,_,rfl,rfl,⟨by decide,by decide⟩,_,_,rfl,b,g,2,(by rw[hg];rfl),hB,g0,g1,⋯,λ aN xs ps H1 aa hc as aq B1 X1=>?_⟩;obtain⟨pp,vs,rfl,e1,av⟩:=cW.d9 aa;have aL:vs.length=ps.length:=by have:=av.len;rw[LU] at this;exact this
    refine⟨(by show 0<=sizeLine;decide),λ sl a1=>?_⟩;have ah:sl≠b:=B1.eZ a1;refine⟨_,rfl,_,rfl,⋯,⋯,iz (lo:=0) (λ i LQ H'=>∃(u1 u2 u3 u4:Option V) (qs:List Piece) (D:List V),LQ=[some (.ref b),some (.int c),some (.ref pp),some (.ref sl),u1,u2,u3,u4]/\H' sl=some (.lst D)/\dh H' D (qs.map d8)/\qs.length=i/\(∀p∈qs,(p.1.length<=2/\∀d∈p.1,fV xs d)/\iT xs c p.2)/\e7 H' b/\Fix b H1 H') ?_ ?_ ?_⟩
    . exact⟨_,_,_,_,[],[],rfl,cu,.nil,rfl,(λ _ h=>nomatch h),B1.new a1,Fix.new a1⟩
    . rintro i LQ H2 hi ⟨u1,u2,u3,u4,qs,D,rfl,h2,rq,am,de,B2,X2⟩
      refine dW ?_;have aw:∀p D,H1 p=some (.tup D)->H2 p=some (.tup D):=λ p D h=>X2 p _ h (B1.hR h)
      refine⟨_,rfl,_,rfl,_,rfl,pp,_,rfl,.inr (cE.of (aw _ _ e1)),b,_,rfl,B2,⟨by omega,ij ⋯ ⋯⟩,λ r H3 r0 r1 B3 X3=>?_⟩;obtain⟨j,rfl⟩:∃j:Nat,r=j:=⟨r.toNat,by omega⟩;have aJ:j<ps.length:=by omega
      have a3:ps[j]?=some ps[j]:=by simp[aJ]
      generalize ps[j]=pce at a3;obtain⟨ds,e⟩:=pce;obtain⟨p',aM,pc,da,ea,ws,ep,ac,aO,aB,e2,e3,r3,e4⟩:=gX aa a3;cases ep;rw[e1] at ac;cases ac;have ad:=X2.trans X3;have a7:∀p D,H1 p=some (.tup D)->H3 p=some (.tup D):=λ p D h=>ad p _ h (B1.hR h)
      have az:=as.jM _ (L8 a3);have aH:=as.ends _ (L8 a3);exists pp,_,_,_,rfl,rfl,cE.of (a7 _ _ e1),dN aB,pc,_,rfl,cE.of (a7 _ _ e2),rfl,_,_,rfl,_,_,rfl,rfl;refine⟨_,rfl,ea,e,rfl,a7 _ _ e4,λ a9 H4 ay a6 s4=>⟨a9,rfl,⟨_,cN.of a6⟩,λ wl na=>?_⟩⟩;have B4:=B3.same s4;have ap:a9≠b:=B3.eZ ay;have ak:wl≠b:=B4.eZ na;have aG:=pJ e;refine mJ (K:=K) (a:=a9) (xs:=vN (cC e)) (λ i ys LR H'=>∃(c1:Option V) (ks:List Nat),LR=[c1,some (.ref b),some (.int c)]/\ys=vN ks/\ks.length=i/\(∀k∈ks,k<c)/\H' wl=some (.lst ys)/\e7 H' b/\Fix b H4 H') ?_ ?_ ?_ ?_
      . exact⟨none,[],rfl,rfl,rfl,(λ _ h=>nomatch h),cu,B4.new na,Fix.new na⟩
      . rintro i' ys LR H5 aC ⟨c1,ks,rfl,rfl,an,a0,ha,B5,X5⟩
        rw[LU] at aC;exact⟨cN.of (X5 _ _ a6 ap),ha,cV (by rw[LU];omega)⟩
      . rintro i' y ys LR H5 hy ⟨c1,ks,rfl,rfl,an,a0,ha,B5,X5⟩
        refine dW ?_;refine iw ?_;refine eI ?_;refine⟨_,rfl,_,rfl,b,_,rfl,B5,ck,λ p H6 p0 p1 B6 X6=>?_⟩;obtain⟨k,rfl⟩:∃k:Nat,p=k:=⟨p.toNat,by omega⟩;have aE:=X6 _ _ ha ak;refine⟨aE,_,ks++[k],rfl,sy _ _,(by rw[LY,an];rfl),(λ z hz=>?_),cu,B6.put ak.symm,λ c' o h nb=>?_⟩
        . rcases Mh.mp hz with hz | hz
          . exact a0 z hz
          . rw[LX.mp hz];omega
        . rw[cx (cD h na)]
          exact (X5.trans X6) c' o h nb
      rintro ys LR H5 ⟨c1,ks,rfl,rfl,a2,a0,ai,B5,X5⟩;rw[LU] at a2;have au:Fix b H1 H5:=(ad.trans (Fix.of_same s4)).trans X5;have ag:Fix b H2 H5:=(X3.trans (Fix.of_same s4)).trans X5;have a8:∀p D,H1 p=some (.tup D)->H5 p=some (.tup D):=λ p D h=>au p _ h (B1.hR h)
      have hs:=ag _ _ h2 ah;have rq:=rq.fix B2 ag (cO qs);have aF:=a8 _ _ e3;have aI:=r3.dr a8 (dq ds);have ao:=a8 _ _ e4;have el:((fX e).length:Int)-((vN ks).length:Int)=((fK e).length:Nat):=by
        rw[qV,LY,LU,LU,a2];omega
      refine⟨_,rfl,.inl ⟨rfl,_,cN.of hs⟩,_,rfl,_,rfl,_,rfl,ea,_,rfl,.inr (cE.of ao),_,rfl,wl,_,rfl,.inl (cN.of ai),_,_,rfl,rfl,_,congrArg V.int el,pD ao λ t HA ht sA=>?_⟩;refine⟨_,rfl,wl,_,rfl,.inl ⟨cN.of (sA _ _ ai),λ t2 aD=>?_⟩⟩;have sB:=cy.new (o:=.tup (vN ks)) aD;have aP:(fK e).length<=3:=by cases e<;>simp[fK]
      have aG:=pJ e;refine⟨t,t2,_,_,rfl,rfl,sB _ _ ht,cu,(by rw[LU];exact Mr (cV ⋯)),λ t3 HC ab sC=>⟨ln2,λ Y ax=>?_⟩⟩;rw[<-mY a2] at ab;have sD:=cy.new (o:=.tup [.ref da,.ref t3]) ax;have sX:=((sA.trans sB).trans sC).trans sD;have ar:(upd HC Y (.tup [.ref da,.ref t3])) Y=some (.tup [.ref da,.ref t3]):=cu;have a5:=sD _ _ ab;generalize (upd HC Y (.tup [.ref da,.ref t3]))=HD at sD sX ar a5;have al:=sX _ _ hs;have aK:D.length=qs.length:=by have:=rq.len;rw[LU] at this;exact this
      exists sl,_,_,rfl,rfl,al,cV ⋯;have kt:∀p xs,HD p=some (.tup xs)->(upd HD sl (.lst (D++[.ref Y]))) p=some (.tup xs):=λ p xs h=>by rw[cx (dD h al (by intro z;cases z))];exact h
      have af:dh (upd HD sl (.lst (D++[.ref Y]))) (D++[.ref Y]) ((qs++[(ds,gZ e ks)]).map d8):=by
        rw[L4];refine dh.app ((rq.same sX (cO qs)).dr kt (cO qs)) (cW.dr kt ?_ (gM _));exact .tup ar (.cons (.tup (sX _ _ aF) (aI.same sX (dq ds))) (.cons (qW a5) .nil))
      have a4:(upd HD sl (.lst (D++[.ref Y]))) sl=some (.lst (D++[.ref Y])):=cu;have N:∀c o,H5 c=some o->c≠sl->(upd HD sl (.lst (D++[.ref Y]))) c=some o:=λ c o h n=>by rw[cx n];exact sX c o h
      generalize (upd HD sl (.lst (D++[.ref Y])))=HY at af a4 N;refine⟨_,_,_,_,qs++[(ds,gZ e ks)],_,rfl,a4,af,(by rw[LY,am];rfl),λ p hp=>?_,?_,λ c' o h nb=>N c' o (au c' o h nb) (cD h a1)⟩
      . rcases Mh.mp hp with h | h
        . exact de p h
        . rw[LX.mp h];exact⟨az,wq aH a2 a0⟩
      . obtain⟨x,y,e,z⟩:=B5
        exact⟨x,y,N _ _ e ah.symm,z⟩
    . rintro LQ H2 ⟨u1,u2,u3,u4,qs,D,rfl,h2,rq,am,de,B2,X2⟩
      refine⟨_,rfl,sl,_,rfl,.inl ⟨cN.of h2,λ t nt=>?_⟩⟩;have s3:=cy.new (o:=.tup D) nt;have aj:qs.length=c:=by omega
      refine q (.ref t) xs qs _ (.tup cu (rq.same s3 (cO qs))) aj ⟨λ p hp=>(de p hp).1,λ p hp=>by rw[aj];exact (de p hp).2⟩ ⟨aq.1,by have:=aq.2;omega⟩ (B2.same s3) ((X1.trans X2).trans (Fix.of_same s3))
theorem ux {fd:FuncData} (F:eC K "_law_long_plan" "_law_long_plan" kG f fd) (Z:Bl mg) (a0:Own P w K mg base "_law_names" 2 ["bag"] vI) (B:Own P w K mg base "_law_take" 1 ["bag", "many"] iN) (G:Own P w K mg base "_law_deed" 3 ["bag", "names"] uI) (ac:Own P w K mg base "_law_end" 3 ["bag", "names", "count"] uJ) (a3:Own P w K mg base "_law_ways" 1 ["end"] tY):dB P w K mg base d7 5 f fd ["bag", "count"] (sE 12):=by
  refine F.ok (k:=4) eW (λ vs H Q E h=>?_) (λ bU A outer s H vs Q E hr h=>?_)
  . obtain⟨b,c,rfl,_⟩:=h
    rfl
  . obtain⟨b,c,rfl,hB,c0,cn,q⟩:=h
    refine⟨_,(cw (cU (i:=2) eW.nd (cH a0 hr (cF (pv 0))))
      (cw (iS (i:=3) ["k"] ["bag", "names"] [0,2] rfl eW.nd rfl rfl rfl (fE rfl Z.range (cF (dt fH cA (cH B hr (cS (pv 0) cA))))) rfl ⋯ ⋯ ⋯ ⟨⟨rfl,.inl rfl,rfl⟩,⟨⟨rfl,.inl rfl,rfl⟩,True.intro⟩⟩ (λ _ _ _ _=>(cJ (i:=0) (show ((["k"]:List Str)++(["bag", "names"]:List Str)).Nodup by decide) (hf:=Mg rfl))) (λ _ _ _ _=>fx) (λ _ _ _ _=>(cH G hr (cS (pv 1) (pv 2)))))
      (cw (iS (i:=4) ["k"] ["bag", "names", "count"] [0,2,1] rfl eW.nd rfl rfl rfl (fE rfl Z.range (cF cA)) rfl ⋯ ⋯ ⋯ ⟨⟨rfl,.inl rfl,rfl⟩,⟨⟨rfl,.inl rfl,rfl⟩,⟨⟨rfl,.inl rfl,rfl⟩,True.intro⟩⟩⟩ (λ _ _ _ _=>(cJ (i:=0) (show ((["k"]:List Str)++(["bag", "names", "count"]:List Str)).Nodup by decide) (hf:=Mg rfl))) (λ _ _ _ _=>fx) (λ _ _ _ _=>(cH ac hr (iJ (pv 1) (pv 2) (pv 3)))))
      (cw (cU (i:=5) eW.nd (cI eY (fh (cS (dt gJ (cY cM rfl Z.len dU (cF (pv 3))) cA) (cH B hr (cS (pv 0) (cY cM rfl Z.len dU (cF (pv 3))))))) (cH B hr (cS (pv 0) cA))))
      (cw (cU (i:=6) eW.nd (cH G hr (cS (pv 0) (pv 2))))
      (cw (cU (i:=7) eW.nd (fh fg))
      (cw (gu PassesOwn.never rfl (fE rfl Z.range (cF (pv 1))) (cJ (i:=8) eW.nd)
      (cw (cU (i:=9) eW.nd (cZ kd rfl Z.list oy (cF (pv 3))))
      (cw (fI (dJ (cP eF (cH B hr (cS (pv 0) cA)) cA (cX _))
      (cB (fz (pv 6) (oq (pv 9) (pv 5) set_list)))
      du))
      (cw (cU (i:=10) eW.nd (cI eY (pv 4) (cH B hr (cS (pv 0) cA))))
      (cw (iS (i:=11) ["there"] ["bag", "count"] [0,1] rfl eW.nd rfl rfl rfl (kK (cH a3 hr (cF (pv 10)))) rfl ⋯ ⋯ ⋯ ⟨⟨rfl,.inl rfl,rfl⟩,⟨⟨rfl,.inl rfl,rfl⟩,True.intro⟩⟩ (λ _ _ _ _=>(cJ (i:=0) (show ((["there"]:List Str)++(["bag", "count"]:List Str)).Nodup by decide) (hf:=Mg rfl))) (λ _ _ _ _=>fx) (λ _ _ _ _=>(cH B hr (cS (pv 1) (pv 2)))))
      (cB (eJ (gr PySem.F.plainAttrs_list PySem.F.slot_list_append PySem.F.type_list_append fo (pv 7) (cF (dH (cS (cZ cT rfl Z.tuple dI (cF (pv 9))) (dt oJ (jS kT (pv 10) kN (kO (dt gJ (cY cM rfl Z.len dU (cF (pv 10))) (cY cM rfl Z.len dU (cF (pv 11)))))) (cZ cT rfl Z.tuple dI (cF (pv 11)))))))))))))))
      (cB (cK (cZ cT rfl Z.tuple dI (cF (pv 7)))))))))))),?_⟩
    try dsimp only[mw,qm]
    refine Hh ?_;intro D0 R7 R6 R5 R4 R3 R2 R1;have ck:(0:Int)<(c:Int)/\(c:Int).natAbs.log2<9000:=⟨by omega,ij ⋯ ⋯⟩;refine⟨_,rfl,b,rfl,hB,λ nl xs H1 N1 x4 B1 X1=>?_⟩;refine⟨_,rfl,b,9,rfl,B1,⟨by decide,by decide⟩,λ m H2 m0 m1 B2 X2=>⟨_,_,rfl,rfl,_,rfl,⋯,⋯,λ ba ah=>?_⟩⟩;have a7:ba≠b:=B2.eZ ah;have bj:=X1.trans X2;have bD:=N1.ok;refine jV (lo:=0) (λ i ys LR H'=>∃(v:Option V) (ds:List e6),LR=[v,some (.ref b),some (.ref nl)]/\dh H' ys (ds.map eN)/\ds.length=i/\(∀d∈ds,fV xs d)/\H' ba=some (.lst ys)/\e7 H' b/\Fix b H2 H') ?_ ?_ ?_ ?_
    . exact⟨none,[],rfl,.nil,rfl,(λ _ h=>nomatch h),cu,B2.new ah,Fix.new ah⟩
    . rintro i' ys LR H4 al ⟨v,ds,rfl,a2,aj,_,ha,_⟩
      exists ha;rw[a2.len,LU];exact cV ⋯
    . rintro i' ys LR H4 al ⟨v,ds,rfl,a2,aj,an,ha,B4,X4⟩
      refine dW ?_;refine iw ?_;refine eI ?_;refine⟨_,rfl,_,rfl,b,nl,xs,rfl,B4,(N1.fix X2).fix X4,λ dv d H5 rd dk B5 X5=>?_⟩;have ab:=X5 ba _ ha a7;exists ab,_,ds++[d],rfl,?_,(by rw[LY,aj];rfl),?_,cu,B5.put a7.symm
      . rw[L4]
        refine dh.app ((a2.fix B4 X5 (dq ds)).put ab (dq ds)) ?_;exact rd.dr (λ p zs e=>by rw[cx (dD e ab (by intro z;cases z))];exact e) (i8 d)
      . intro d' hd
        rcases Mh.mp hd with hd | hd
        . exact an d' hd
        . rw[LX.mp hd];exact dk
      . intro d' o hd nd
        rw[cx (cD hd ah)];exact (X4.trans X5) d' o hd nd
    rintro D LR H3 ⟨v,N,rfl,aJ,bR,bo,bh,B3,X3⟩;have N3:=(N1.fix X2).fix X3;clear N1 B1 B2 X2;have bM:4<=N.length/\N.length<=12:=by omega
    have b0:=bj.trans X3;have bQ:D.length=N.length:=by have:=aJ.len;rw[LU] at this;exact this
    refine⟨_,rfl,⋯,⋯,λ en am=>?_⟩;have a6:en≠b:=B3.eZ am;refine jV (lo:=0) (λ i ys LR H'=>∃(v:Option V) (es:List L2.End),LR=[v,some (.ref b),some (.ref nl),some (.int c)]/\dh H' ys (es.map jd)/\es.length=i/\(∀e∈es,iT xs c e)/\H' en=some (.lst ys)/\e7 H' b/\Fix b H3 H') ?_ ?_ ?_ ?_
    . exact⟨none,[],rfl,.nil,rfl,(λ _ h=>nomatch h),cu,B3.new am,Fix.new am⟩
    . rintro i' ys LR H4 al ⟨v,ds,rfl,a2,aj,_,ha,_⟩
      exists ha;rw[a2.len,LU];exact cV ⋯
    . rintro i' ys LR H4 al ⟨v,es,rfl,a2,aj,an,ha,B4,X4⟩
      refine dW ?_;refine iw ?_;refine eI ?_;refine⟨_,rfl,_,rfl,_,rfl,b,nl,xs,c,rfl,B4,N3.fix X4,c0,⋯,λ ev e H5 re ek B5 X5=>?_⟩;have ab:=X5 en _ ha a6;exists ab,_,es++[e],rfl,?_,(by rw[LY,aj];rfl),?_,cu,B5.put a6.symm
      . rw[L4]
        refine dh.app ((a2.fix B4 X5 (jx es)).put ab (jx es)) ?_;exact re.dr (λ p zs e=>by rw[cx (dD e ab (by intro z;cases z))];exact e) (jB e)
      . intro d' hd
        rcases Mh.mp hd with hd | hd
        . exact an d' hd
        . rw[LX.mp hd];exact ek
      . intro d' o hd nd
        rw[cx (cD hd am)];exact (X4.trans X5) d' o hd nd
    rintro bt LR H4 ⟨v',a8,rfl,res,bV,bK,bi,B4,X4⟩;have N4:=N3.fix X4;have ae:=X4 _ _ bh a7;have aH:=aJ.fix B3 X4 (dq N);exists _,rfl,ba,_,rfl,.inl (cN.of ae),_,_,rfl,rfl;refine⟨_,rfl,_,rfl,ba,_,rfl,.inl (cN.of ae),b,_,rfl,B4,⟨by omega,ij ⋯ ⋯⟩,λ r H5 r0 r1 B5 X5=>⟨ln2,λ l2 au=>?_⟩⟩;refine⟨_,rfl,b,2,rfl,B5.new au,⟨by decide,by decide⟩,λ z H6 z0 z1 B6 X6=>?_⟩;have pk:∃g:Nat,iL [V.int ((D.length:Int)-1),V.int r] z=some (V.int g)/\g<N.length:=by
      rcases (show z=0\/z=1 by omega) with rfl | rfl
      . exact⟨D.length-1,(by rw[show ((D.length-1:Nat):Int)=(D.length:Int)-1 by omega];exact eG),by omega⟩
      . exact⟨r.toNat,(by rw[show ((r.toNat:Nat):Int)=r by omega];exact gQ),by omega⟩
    obtain⟨g,hg,bT⟩:=pk;have aB:H6 l2=some (.lst [.int ((D.length:Int)-1),.int r]):=X6 l2 _ cu (B5.eZ au);exists l2,_,_,_,rfl,rfl,cN.of aB,hg;have aQ:Fix b H4 H6:=(X5.trans (Fix.new au)).trans X6;have N6:=N4.fix aQ;refine⟨_,rfl,_,rfl,b,nl,xs,rfl,B6,N6,λ ov od H7 bI bF B7 X7=>?_⟩;have ag:=aQ.trans X7;have b4:=ag _ _ ae a7;have b8:=aH.fix B4 ag (dq N);have bg:=ag _ _ bi a6;have aF:=res.fix B4 ag (jx a8);have bz:Fix b H H7:=(b0.trans X4).trans ag;refine⟨(by show 0<=sizeLine;decide),λ sl ao=>?_⟩;have as:sl≠b:=B7.eZ ao;clear N6 N4 N3 aB hg B6 B5 B4 B3 aQ ag X5 X6 X7 X4 X3 ae aH bh aJ bi res X1 bj b0 ah am au;refine⟨_,rfl,_,rfl,⋯,⋯,iz (lo:=0) (λ i LQ H'=>∃(u1 u2 u3 u4:Option V) (qs:List Piece) (zs:List V),LQ=[some (.ref b),some (.int c),some (.ref nl),some (.ref ba),some (.ref en),some (.int (g:Nat)),some ov,some (.ref sl),u1,u2,u3,u4]/\H' sl=some (.lst zs)/\dh H' zs (qs.map d8)/\qs.length=i/\(∀p∈qs,(p.1.length<=12/\∀d∈p.1,fV xs d)/\iT xs c p.2)/\e7 H' b/\Fix b H7 H') ?_ ?_ ?_⟩
    . exact⟨_,_,_,_,[],[],rfl,cu,.nil,rfl,(λ _ h=>nomatch h),B7.new ao,Fix.new ao⟩
    . rintro i LQ H8 hi ⟨u1,u2,u3,u4,qs,zs,rfl,h8,bw,aU,de,B8,X8⟩
      refine dW ?_;have b1:=X8 _ _ b4 a7;refine⟨_,rfl,ba,_,rfl,.inl (cN.of b1),λ dl aa=>?_⟩;have aP:dl≠b:=B8.eZ aa;have av:Fix b H8 (upd H8 dl (.lst D)):=Fix.new aa;have bn:(upd H8 dl (.lst D)) dl=some (.lst D):=cu;have B9:=B8.new (o:=.lst D) aa;have b2:∀c o,H7 c=some o->c≠b->c≠dl:=λ c o h n z=>by have:=X8 c o h n;rw[z,aa] at this;cases this
      generalize (upd H8 dl (.lst D))=H9 at av bn B9 ⊢;have h9:=av _ _ h8 as;have bH:sl≠dl:=λ z=>by rw[<-z,h8] at aa;cases aa
      exists λ aW H'=>∃(ws:List V) (ds:List e6),aW=[some (.ref b),some (.int c),some (.ref nl),some (.ref ba),some (.ref en),some (.int (g:Nat)),some ov,some (.ref sl),some (.int (0+(i:Int))),some (.ref dl),u3,u4]/\H' dl=some (.lst ws)/\dh H' ws (ds.map eN)/\ds.length=N.length/\(∀d∈ds,fV xs d)/\H' sl=some (.lst zs)/\dh H' zs (qs.map d8)/\e7 H' b/\Fix b H7 H'/\Fix b H8 H',?_
      . refine⟨_,rfl,b,3,rfl,B9,⟨by decide,by decide⟩,λ y ay y0 y1 a5 ap=>⟨rfl,_,rfl,?_⟩⟩
        have a4:=ap _ _ bn aP;have ar:=ap _ _ h9 as;have J:=(X8.trans av).trans ap;have af:=av.trans ap;have ad:=bw.fix B8 af (cO qs);have aG:=b8.fix B7 J (dq N);refine fR (λ hc=>?_) (λ hc=>?_)
        . exists _,rfl,_,rfl,_,rfl,dl,_,_,g,rfl,rfl,a4,ID ⋯
          have kt:∀p us,ay p=some (.tup us)->(upd ay dl (.lst (D.set g ov))) p=some (.tup us):=λ p us h=>by rw[cx (dD h a4 (by intro z;cases z))];exact h
          refine⟨_,N.set g od,rfl,cu,?_,(by rw[NC]),(λ d hd=>(Gx hd).elim (bo d) λ e=>e ▸ bF),(by rw[cx bH];exact ar),ad.dr kt (cO qs),a5.put aP.symm,λ c' o h nb=>?_,λ c' o h nb=>?_⟩
          . rw[List.map_set]
            exact dh.setAt ((bI.fix B7 J (i8 od)).dr kt (i8 od)) g (aG.dr kt (dq N))
          . rw[cx (b2 c' o h nb)]
            exact J c' o h nb
          . rw[cx (cD h aa)]
            exact af c' o h nb
        . exact⟨D,N,rfl,a4,aG,rfl,bo,ar,ad,a5,J,af⟩
      rintro aW ay ⟨aq,ds,rfl,a4,aR,bS,an,ar,ad,a5,J,af⟩
      try (refine lh ?_;intro sg)
      have aM:=J _ _ bg a6;have aO:=aF.fix B7 J (jx a8);have bL:bt.length=a8.length:=by have:=aF.len;rw[LU] at this;exact this
      refine⟨_,rfl,_,rfl,b,2,rfl,a5,⟨by decide,by decide⟩,λ y bN y0 y1 aX aT=>?_⟩;obtain⟨j,rfl⟩:∃j:Nat,y=j:=⟨y.toNat,by omega⟩;have aL:a8[j]?=some (a8[j]'⋯):=by simp[show j<a8.length by omega]
      generalize a8[j]'⋯=e at aL;have bE:=bK e (L8 aL);obtain⟨ev,bA,re⟩:=aO.get (i:=j) (d:=jd e) (by rw[L6,aL];rfl);obtain⟨ea,rfl,Y⟩:=Du re;exists en,_,_,_,rfl,rfl,cN.of (aT _ _ aM a6),dN bA;have aI:=aT _ _ Y (a5.hR Y);refine⟨_,rfl,ea,e,rfl,aI,λ aS bC bB aE aV=>⟨aS,rfl,⟨_,cN.of aE⟩,λ wl na=>?_⟩⟩;have bl:=aX.same aV;have b7:aS≠b:=aX.eZ bB;have be:wl≠b:=bl.eZ na;have bv:=pJ e;refine mJ (K:=K) (a:=aS) (xs:=vN (cC e)) (λ i ys LR H'=>∃(c1:Option V) (ks:List Nat),LR=[c1,some (.ref b),some (.int c)]/\ys=vN ks/\ks.length=i/\(∀k∈ks,k<c)/\H' wl=some (.lst ys)/\e7 H' b/\Fix b bC H') ?_ ?_ ?_ ?_
      . exact⟨none,[],rfl,rfl,rfl,(λ _ h=>nomatch h),cu,bl.new na,Fix.new na⟩
      . rintro i' ys LR H5 al ⟨c1,ks,rfl,rfl,b3,aw,ha,B5,X5⟩
        rw[LU] at al;exact⟨cN.of (X5 _ _ aE b7),ha,cV (by rw[LU];omega)⟩
      . rintro i' y ys LR H5 hy ⟨c1,ks,rfl,rfl,b3,aw,ha,B5,X5⟩
        refine dW ?_;refine iw ?_;refine eI ?_;refine⟨_,rfl,_,rfl,b,_,rfl,B5,ck,λ p H6 p0 p1 B6 X6=>?_⟩;obtain⟨k,rfl⟩:∃k:Nat,p=k:=⟨p.toNat,by omega⟩;have bp:=X6 _ _ ha be;refine⟨bp,_,ks++[k],rfl,sy _ _,(by rw[LY,b3];rfl),(λ z hz=>?_),cu,B6.put be.symm,λ c' o h nb=>?_⟩
        . rcases Mh.mp hz with hz | hz
          . exact aw z hz
          . rw[LX.mp hz];omega
        . rw[cx (cD h na)]
          exact (X5.trans X6) c' o h nb
      rintro ys LR aK ⟨c1,ks,rfl,rfl,ax,aw,aN,bG,br⟩;rw[LU] at ax;have a9:Fix b ay aK:=(aT.trans (Fix.of_same aV)).trans br;have bm:=a9 _ _ a4 aP;have az:=a9 _ _ ar as;refine⟨_,rfl,.inl ⟨rfl,_,cN.of az⟩,_,rfl,dl,_,rfl,.inl ⟨cN.of bm,λ da bq=>?_⟩⟩;have ak:=cy.new (o:=.tup aq) bq;have aZ:(upd aK da (.tup aq)) da=some (.tup aq):=cu;generalize (upd aK da (.tup aq))=H14 at ak aZ ⊢;have a1:=a9.trans (Fix.of_same ak);have hs:=ak _ _ az;have rq:=ad.fix a5 a1 (cO qs);have a2:=aR.fix a5 a1 (dq ds);have b5:=a1 _ _ Y (a5.hR Y);have b9:=ak _ _ aN;have bd:=J.trans a1;have bx:=bG.same ak;have el:((fX e).length:Int)-((vN ks).length:Int)=((fK e).length:Nat):=by
        rw[qV,LY,LU,LU,ax];omega
      refine⟨_,rfl,_,rfl,ea,_,rfl,.inr (cE.of b5),_,rfl,wl,_,rfl,.inl (cN.of b9),_,_,rfl,rfl,_,congrArg V.int el,pD b5 λ t HA ht sA=>?_⟩;refine⟨_,rfl,wl,_,rfl,.inl ⟨cN.of (sA _ _ b9),λ t2 bJ=>?_⟩⟩;have sB:=cy.new (o:=.tup (vN ks)) bJ;have bO:(fK e).length<=3:=by cases e<;>simp[fK]
      have bv:=pJ e;refine⟨t,t2,_,_,rfl,rfl,sB _ _ ht,cu,(by rw[LU];exact Mr (cV ⋯)),λ t3 HC aY sC=>⟨ln2,λ t4 bu=>?_⟩⟩;rw[<-mY ax] at aY;have sD:=cy.new (o:=.tup [.ref da,.ref t3]) bu;have sX:=((sA.trans sB).trans sC).trans sD;have bc:(upd HC t4 (.tup [.ref da,.ref t3])) t4=some (.tup [.ref da,.ref t3]):=cu;have aC:=sD _ _ aY;generalize (upd HC t4 (.tup [.ref da,.ref t3]))=HD at sD sX bc aC;have bf:=sX _ _ hs;have bP:zs.length=qs.length:=by have:=rq.len;rw[LU] at this;exact this
      exists sl,_,_,rfl,rfl,bf,cV ⋯;have kt:∀p xs,HD p=some (.tup xs)->(upd HD sl (.lst (zs++[.ref t4]))) p=some (.tup xs):=λ p xs h=>by rw[cx (dD h bf (by intro z;cases z))];exact h
      have b6:dh (upd HD sl (.lst (zs++[.ref t4]))) (zs++[.ref t4]) ((qs++[(ds,gZ e ks)]).map d8):=by
        rw[L4];refine dh.app ((rq.same sX (cO qs)).dr kt (cO qs)) (cW.dr kt ?_ (gM _));exact .tup bc (.cons (.tup (sX _ _ aZ) (a2.same sX (dq ds))) (.cons (qW aC) .nil))
      have aD:(upd HD sl (.lst (zs++[.ref t4]))) sl=some (.lst (zs++[.ref t4])):=cu;have ai:∀c o,H14 c=some o->c≠sl->(upd HD sl (.lst (zs++[.ref t4]))) c=some o:=λ c o h n=>by rw[cx n];exact sX c o h
      generalize (upd HD sl (.lst (zs++[.ref t4])))=HY at b6 aD ai;refine⟨_,_,_,_,qs++[(ds,gZ e ks)],_,rfl,aD,b6,(by rw[LY,aU];rfl),λ p hp=>?_,?_,λ c' o h nb=>ai c' o (bd c' o h nb) (cD h ao)⟩
      . rcases Mh.mp hp with h | h
        . exact de p h
        . rw[LX.mp h];exact⟨⟨by show ds.length<=12;omega,an⟩,wq bE ax aw⟩
      . obtain⟨x,y,e,z⟩:=bx
        exact⟨x,y,ai _ _ e as.symm,z⟩
    . rintro LQ H2 ⟨u1,u2,u3,u4,qs,zs,rfl,h2,rq,aU,de,B2,X2⟩
      refine⟨_,rfl,sl,_,rfl,.inl ⟨cN.of h2,λ t nt=>?_⟩⟩;have s3:=cy.new (o:=.tup zs) nt;have bb:qs.length=c:=by omega
      refine q (.ref t) xs qs _ (.tup cu (rq.same s3 (cO qs))) bb ⟨λ p hp=>(de p hp).1,λ p hp=>by rw[bb];exact (de p hp).2⟩ ⟨bD,by omega⟩ (B2.same s3) ((bz.trans X2).trans (Fix.of_same s3))
theorem uy {fd:FuncData} (F:eC K "_law_wide_plan" "_law_wide_plan" kH f fd) (Z:Bl mg) (B:Own P w K mg base "_law_take" 1 ["bag", "many"] iN) (D:Own P w K mg base "_law_deed" 3 ["bag", "names"] uI) (G:Own P w K mg base "_law_end" 3 ["bag", "names", "count"] uJ):dB P w K mg base d7 4 f fd ["bag", "count"] zA:=by
  refine F.ok (k:=3) fy (λ vs H Q E h=>?_) (λ aw A outer s H vs Q E hr h=>?_)
  . obtain⟨b,c,rfl,_⟩:=h
    rfl
  . obtain⟨b,c,rfl,hB,c0,c1,q⟩:=h
    refine⟨_,(cw (cU (i:=2) fy.nd dA)
      (cw (cU (i:=3) fy.nd (cH B hr (cS (pv 0) cA)))
      (cw (cU (i:=4) fy.nd (fh fg))
      (cw (gu PassesOwn.never rfl (fE rfl Z.range (cF (dt fH cA (cH B hr (cS (pv 0) cA))))) (cJ (i:=5) fy.nd)
      (cw (cU (i:=6) fy.nd (cI uG (pv 2) (dt kc (dt fH (dt mN cA (pv 5)) (pv 3)) cA)))
      (cB (eJ (gr PySem.F.plainAttrs_list PySem.F.slot_list_append PySem.F.type_list_append fo (pv 4) (cF (dt BB (pv 6) (dt IE (cI uG (pv 2) (dt ow (pv 5) cA)) (dt fH cA (dt kc (pv 5) cA))))))))))
      (cw (cU (i:=7) fy.nd (fh fg))
      (cw (gu PassesOwn.never rfl (fE rfl Z.range (cF (pv 1))) (cJ (i:=5) fy.nd)
      (cw (cU (i:=8) fy.nd (cZ cT rfl Z.tuple dI (cF (fL ["j"] ["bag", "names"] [0,4] rfl (fE rfl Z.range (cF (cH B hr (cS (pv 0) cA)))) rfl ⋯ ⋯ ⋯ ⟨⟨rfl,.inl rfl,rfl⟩,⟨⟨rfl,.inl rfl,rfl⟩,True.intro⟩⟩ (λ _ _ _ _=>(cJ (i:=0) (show ((["j"]:List Str)++(["bag", "names"]:List Str)).Nodup by decide) (hf:=Mg rfl))) (λ _ _ _ _=>fx) (λ _ _ _ _=>(cH D hr (cS (pv 1) (pv 2))))))))
      (cB (eJ (gr PySem.F.plainAttrs_list PySem.F.slot_list_append PySem.F.type_list_append fo (pv 7) (cF (dH (cS (pv 8) (cH G hr (iJ (pv 0) (pv 4) (pv 1)))))))))))
      (cB (cK (cZ cT rfl Z.tuple dI (cF (pv 7))))))))))),?_⟩
    try dsimp only[mw,qm]
    refine Hg ?_;intro D0 R6 R5 R4 R3 R2 R1;refine⟨_,rfl,b,26,rfl,hB,⟨by decide,by decide⟩,λ sh H1 as au B1 X1=>?_⟩;refine⟨(by show 0<=sizeLine;decide),λ l nn=>?_⟩;have a9:l≠b:=B1.eZ nn;refine⟨_,rfl,b,41,rfl,B1.new nn,⟨by decide,by decide⟩,λ mm H2 ax av B2 X2=>⟨_,_,rfl,rfl,?_⟩⟩;have aj:H2 l=some (.lst []):=X2 l _ cu a9;have F2:Fix b H H2:=(X1.trans (Fix.new nn)).trans X2;have am:∀d o,H d=some o->d≠b->d≠l:=λ d o hd nd z=>by
      have:=X1 d o hd nd;rw[z,nn] at this;cases this
    refine⟨_,rfl,⋯,⋯,iz (lo:=0) (λ i LQ H'=>∃(u1 u2 u3 u4:Option V) (xs:List Str),LQ=[some (.ref b),some (.int c),some (.str oA),some (.int sh),some (.ref l),u1,u2,u3,u4]/\H' l=some (.lst (xs.map V.str))/\xs.length=i/\(∀x∈xs,hU x)/\e7 H' b/\Fix b H H') ?_ ?_ ?_⟩
    . exact⟨_,_,_,_,[],rfl,aj,rfl,(λ _ h=>nomatch h),B2,F2⟩
    . rintro i LQ H3 hi ⟨u1,u2,u3,u4,xs,rfl,h1,h2,h3,B3,X3⟩
      refine dW ?_;obtain⟨ca,ar,ao,al⟩:=uK (r:=(7*(0+(i:Int))+sh) % 26) (Int.emod_nonneg _ ⋯) (Oy _ ⋯);obtain⟨cb,ap,ak,af⟩:=uK (r:=(0+(i:Int)) / 26) ⋯ ⋯;obtain⟨mk,ml,nk⟩:=Gi (c0:=ca) (c:=cb) (n:=1+(0+(i:Int)) % 4) ⟨ao,al⟩ ⟨ak,af⟩ ⋯ ⋯;exists _,rfl,_,rfl,_,_,rfl,rfl,.inl ⟨by decide,by decide⟩,_,rfl,_,_,rfl,rfl,_,_,rfl,rfl,(show (0:Int)<26 by decide),oA,_,ca,rfl,rfl,rV,ar;exists _,rfl,.inl ⟨rfl,_,cN.of h1⟩,_,rfl,_,rfl,_,rfl,_,_,rfl,rfl,⟨by decide,by decide⟩,oA,_,cb,rfl,rfl,rV,ap,_,rfl,_,_,rfl,rfl,(show (0:Int)<4 by decide),_,_,rfl,rfl,_,_,rfl,rfl,mk,_,_,rfl,rfl,?_,l,_,_,rfl,rfl,h1,?_
      . have:(⟨#[ca]⟩:Str).length=1:=rfl
        rw[this];exact Mr (cV ⋯)
      . rw[LU]
        exact cV ⋯
      exists _,_,_,_,xs++[_],rfl,(by rw[cu,L4];rfl),(by rw[LY,h2];rfl),?_,B3.put a9.symm
      . intro x hxm
        rcases Mh.mp hxm with hxm | hxm
        . exact h3 x hxm
        . rw[LX.mp hxm];exact nk
      . intro d o hd nd
        rw[cx (am d o hd nd)];exact X3 d o hd nd
    . rintro LQ H3 ⟨u1,u2,u3,u4,xs,rfl,h1,h2,h3,B3,X3⟩
      have N3:iO H3 b l xs:=⟨h1,a9,(by intro z;rw[z] at h2;simp at h2;omega),⋯,h3⟩;have x4:xs.length<=60:=by omega
      refine⟨(by show 0<=sizeLine;decide),λ pl pn=>?_⟩;have a4:pl≠b:=B3.eZ pn;refine⟨_,rfl,_,rfl,⋯,⋯,iz (lo:=0) (λ i LQ H'=>∃(u1 u2 u3:Option V) (ps:List Piece) (vs:List V),LQ=[some (.ref b),some (.int c),some (.str oA),some (.int sh),some (.ref l),u1,u2,some (.ref pl),u3] /\
        H' pl=some (.lst vs)/\dh H' vs (ps.map d8)/\ps.length=i/\(∀p∈ps,(p.1.length<=4/\∀d∈p.1,fV xs d)/\iT xs c p.2)/\iO H' b l xs/\e7 H' b/\Fix b H H'/\(∀d o,H3 d=some o->d≠b->H' d=some o)) ?_ ?_ ?_⟩
      . exact⟨_,_,_,[],[],rfl,cu,.nil,rfl,(λ _ h=>nomatch h),N3.fix (Fix.new pn),B3.new pn,X3.trans (Fix.new pn),Fix.new pn⟩
      . rintro i LQ H' hi ⟨v1,v2,v3,ps,vs,rfl,hp,hr,hl,de,N',B',X',Y'⟩
        refine dW ?_;refine⟨_,rfl,b,5,rfl,B',⟨by decide,by decide⟩,λ k H4 k0 k1 B4 X4=>?_⟩;have N4:=N'.fix X4;have ag:H4 pl=some (.lst vs):=X4 pl _ hp a4;have an:dh H4 vs (ps.map d8):=hr.fix B' X4 (cO ps);refine⟨_,rfl,⋯,⋯,λ acc na=>?_⟩;have ab:acc≠b:=B4.eZ na;refine jV (lo:=0) (λ i ys LR H'=>∃(v:Option V) (ds:List e6),LR=[v,some (.ref b),some (.ref l)]/\dh H' ys (ds.map eN)/\ds.length=i/\(∀d∈ds,fV xs d)/\H' acc=some (.lst ys)/\e7 H' b/\Fix b H4 H') ?_ ?_ ?_ ?_
        . exact⟨none,[],rfl,.nil,rfl,(λ _ h=>nomatch h),cu,B4.new na,Fix.new na⟩
        . rintro i' ys LR H5 ai ⟨v,ds,rfl,Y,J,_,ha,_⟩
          exists ha;rw[Y.len,LU];exact cV ⋯
        . rintro i' ys LR H5 ai ⟨v,ds,rfl,Y,J,a7,ha,B5,X5⟩
          refine dW ?_;refine iw ?_;refine eI ?_;refine⟨_,rfl,_,rfl,b,l,xs,rfl,B5,N4.fix X5,λ dv d H6 rd dk B6 X6=>?_⟩;have a8:=X6 acc _ ha ab;exists a8,_,ds++[d],rfl,?_,(by rw[LY,J];rfl),?_,cu,?_
          . rw[L4]
            refine dh.app ((Y.fix B5 X6 (dq ds)).put a8 (dq ds)) ?_;exact rd.dr (λ p zs e=>by rw[cx (dD e a8 (by intro z;cases z))];exact e) (i8 d)
          . intro d' hd
            rcases Mh.mp hd with hd | hd
            . exact a7 d' hd
            . rw[LX.mp hd];exact dk
          . obtain⟨x,y,e,z⟩:=B6
            exact⟨x,y,by rw[cx ab.symm];exact e,z⟩
          . intro d' o hd nd
            rw[cx (cD hd na)];exact (X5.trans X6) d' o hd nd
        . rintro ys LR H5 ⟨v,ds,rfl,Y,J,a7,ha,B5,X5⟩
          refine⟨acc,ys,rfl,.inl ⟨cN.of ha,λ N tn=>?_⟩⟩;have S5:=cy.new (o:=.tup ys) tn;have aa:(upd H5 N (.tup ys)) N=some (.tup ys):=cu;have a5:=Y.same S5 (dq ds);have a0:=B5.same S5;have a2:Fix b H4 (upd H5 N (.tup ys)):=X5.trans (Fix.of_same S5);generalize (upd H5 N (.tup ys))=H6 at S5 aa a5 a0 a2;have ac:=a2 pl _ ag a4;refine⟨_,rfl,.inl ⟨rfl,_,cN.of ac⟩,_,rfl,_,rfl,_,rfl,_,rfl,b,l,xs,c,rfl,a0,N4.fix a2,c0,⋯,λ ev e H7 re ek B7 X7=>⟨ln2,λ pc aq=>?_⟩⟩;have S7:=cy.new (o:=.tup [.ref N,ev]) aq;have a6:(upd H7 pc (.tup [.ref N,ev])) pl=some (.lst vs):=S7 _ _ (X7 pl _ ac a4);have ad:N≠b:=a0.hR aa;exists pl,_,_,rfl,rfl,a6,?_
          . rw[hr.len,LU,hl]
            exact cV ⋯
          have a1:cW (upd H7 pc (.tup [.ref N,ev])) (.ref pc) (d8 (ds,e)) :=
            .tup cu (.cons (.tup (S7 _ _ (X7 _ _ aa ad)) ((a5.fix a0 X7 (dq ds)).same S7 (dq ds))) (.cons (re.same S7 (jB e)) .nil))
          have a3:Fix b H4 (upd H7 pc (.tup [.ref N,ev])):=(a2.trans X7).trans (Fix.of_same S7);have F7:Fix b H (upd H7 pc (.tup [.ref N,ev])):=(X'.trans X4).trans a3;have ae:∀d o,H3 d=some o->d≠b->d≠pl:=λ d o hd nd z=>by rw[z,pn] at hd;cases hd
          have N7:=N4.fix a3;exists _,_,_,ps++[(ds,e)],vs++[.ref pc],rfl,cu,?_,(by rw[LY,hl];rfl),?_,?_,?_,?_
          . rw[L4]
            refine dh.app ((an.fix B4 a3 (cO ps)).put a6 (cO ps)) ?_;exact a1.dr (λ p zs e=>by rw[cx (dD e a6 (by intro z;cases z))];exact e) (gM (ds,e))
          . intro p hpm
            rcases Mh.mp hpm with hpm | hpm
            . exact de p hpm
            . rw[LX.mp hpm]
              exact⟨⟨by show ds.length<=4;omega,a7⟩,ek⟩
          . have ah:l≠pl:=λ z=>by
              have:=N3.at_;rw[z,pn] at this;cases this
            exact⟨by rw[cx ah];exact N7.at_,N7.ne,N7.yk,N7.er,N7.ok⟩
          . obtain⟨x,y,e',z⟩:=B7.same S7
            exact⟨x,y,by rw[cx a4.symm];exact e',z⟩
          . intro d o hd nd
            rw[cx (ae d o (X3 d o hd nd) nd)];exact F7 d o hd nd
          . intro d o hd nd
            rw[cx (ae d o hd nd)];exact a3 d o (X4 d o (Y' d o hd nd) nd) nd
      . rintro LQ H' ⟨v1,v2,v3,ps,vs,rfl,hp,hr,hl,de,N',B',X',Y'⟩
        have J:ps.length=c:=by rw[hl];omega
        refine⟨_,rfl,pl,_,rfl,.inl ⟨cN.of hp,λ N tn=>?_⟩⟩;refine q (.ref N) xs ps _ (.tup cu (hr.same (cy.new tn) (cO ps))) J ⟨λ p hpm=>(de p hpm).1,λ p hpm=>?_⟩ ⟨N'.ok,x4⟩ (B'.new tn) (X'.trans (Fix.new tn));rw[J];exact (de p hpm).2
theorem vB {fd:FuncData} (F:eC K "_law_any_plan" "_law_any_plan" lI f fd) (Z:Bl mg) (Y:Own P w K mg base "_law_take" 1 ["bag", "many"] iN) (N:Own P w K mg base "_law_plan" 4 ["bag", "count", "most"] yN) (B:Own P w K mg base "_law_like_plan" 5 ["bag", "count"] (sE 2)) (G:Own P w K mg base "_law_long_plan" 5 ["bag", "count"] (sE 12)) (J:Own P w K mg base "_law_wide_plan" 4 ["bag", "count"] zA) (a0:Own P w K mg base "_law_doubled" 2 ["bag", "plan", "many"] xP):dB P w K mg base d7 6 f fd ["bag", "most"] xR:=by
 refine F.ok (k:=5) jl (λ vs H Q E h=>?_) (λ a7 A outer s H vs Q E hr h=>?_)
 ·obtain⟨b,m,rfl,_⟩:=h;rfl
 ·obtain⟨b,m,rfl,hB,m0,m1,q⟩:=h;refine⟨_,(cw (cU (i:=2) jl.nd (cH Y hr (cS (pv 0) cA)))
   (cw (cU (i:=3) jl.nd (dt fH cA (cH Y hr (cS (pv 0) (pv 1)))))
   (cw (dJ (cP eF (pv 2) cA (cX _))
   (cB (cK (cH N hr (iJ (pv 0) (pv 3) cA))))
   du)
   (cw (dJ (cP eF (pv 2) cA (cX _))
   (cB (cK (cH B hr (cS (pv 0) (pv 3)))))
   du)
   (cw (dJ (cP eF (pv 2) cA (cX _))
   (cB (cK (cH G hr (cS (pv 0) (pv 3)))))
   du)
   (cw (dJ (cP eF (pv 2) cA (cX _))
   (cB (cK (cH J hr (cS (pv 0) (pv 3)))))
   du)
   (cw (cU (i:=4) jl.nd (cH N hr (iJ (pv 0) (dt fH cA (dt ow (pv 3) cA)) cA)))
   (cB (cK (cI df (cH a0 hr (iJ (pv 0) (pv 4) (dt gJ (pv 3) (cY cM rfl Z.len dU (cF (pv 4)))))) cA)))))))))),?_⟩
  refine⟨_,rfl,b,5,rfl,hB,⟨by decide,by decide⟩,λ ab H1 w0 w1 B1 X1=>?_⟩;refine⟨_,rfl,_,rfl,b,m,rfl,B1,⟨by omega,ij ⋯ ⋯⟩,λ r H2 r0 r1 B2 X2=>⟨_,_,rfl,rfl,?_⟩⟩;obtain⟨c,hc⟩:∃c:Nat,1+r=(c:Int):=⟨(1+r).toNat,by omega⟩;have a4:(λ i j:Int=>V.int (i+j)) 1 r=V.int (c:Int):=congrArg V.int hc
  first | rw[a4] | rw[hc]
  have aa:0<c/\c<=m:=by omega
  have a2:=X1.trans X2;exists _,rfl,rfl,_,rfl;refine fR (λ _=>?_) (λ _=>?_)
  ·refine⟨_,rfl,_,rfl,b,c,2,rfl,B2,⋯,⋯,⋯,λ v xs ps H3 hp hl ok a1 B3 X3=>?_⟩;exact q v xs ps H3 hp ⋯ ⋯ (ok.mono ⋯) ⟨a1.1,by have:=a1.2;omega⟩ B3 (a2.trans X3)
  exists _,rfl,rfl,_,rfl;refine fR (λ _=>?_) (λ _=>?_)
  ·refine⟨_,rfl,_,rfl,b,c,rfl,B2,⋯,⋯,λ v xs ps H3 hp hl ok a1 B3 X3=>?_⟩;exact q v xs ps H3 hp ⋯ ⋯ (ok.mono ⋯) a1 B3 (a2.trans X3)
  exists _,rfl,rfl,_,rfl;refine fR (λ _=>?_) (λ _=>?_)
  ·refine⟨_,rfl,_,rfl,b,c,rfl,B2,⋯,⋯,λ v xs ps H3 hp hl ok a1 B3 X3=>?_⟩;exact q v xs ps H3 hp ⋯ ⋯ ok a1 B3 (a2.trans X3)
  exists _,rfl,rfl,_,rfl;refine fR (λ _=>?_) (λ _=>?_)
  ·refine⟨_,rfl,_,rfl,b,c,rfl,B2,⋯,⋯,λ v xs ps H3 hp hl ok a1 B3 X3=>?_⟩;exact q v xs ps H3 hp ⋯ ⋯ (ok.mono ⋯) a1 B3 (a2.trans X3)
  exists _,rfl,_,rfl,_,_,rfl,rfl,⟨by decide,by decide⟩,_,_,rfl,rfl;obtain⟨g,hg⟩:∃g:Nat,1+(c:Int) / 3=(g:Int):=⟨(1+(c:Int) / 3).toNat,by omega⟩;refine⟨b,g,2,(by show [V.ref b,V.int (1+(c:Int) / 3),V.int 2]=_;rw[hg];rfl),B2,⋯,⋯,⋯,λ v xs ps H3 hp hl ok a1 B3 X3=>?_⟩;obtain⟨pp,vs,rfl,e1,a3⟩:=cW.d9 hp;have a6:vs.length=ps.length:=by have:=a3.len;rw[LU] at this;exact this
  refine⟨_,rfl,_,rfl,_,rfl,_,rfl,pp,_,rfl,.inr (cE.of e1),_,_,rfl,rfl,b,_,ps,c-vs.length,?_,B3,hp,ok.qG,⋯,⋯,λ t qt st zs qs a9 H4 ht a5 rz ac a8 D B4 X4=>?_⟩
  ·rw[show ((c-vs.length:Nat):Int)=(c:Int)-(vs.length:Nat) by omega];rfl
  exists t,_,0,_,rfl,rfl,cE.of ht,eG;refine q (.ref qt) xs qs H4 (.tup a5 rz) (by rw[D.len];omega) (by rw[D.len];omega) ((D.ok ok).mono ⋯) ⟨a1.1,by have:=a1.2;omega⟩ B4 ((a2.trans X3).trans X4)
theorem Aj {fd:FuncData} (F:eC K "_law_step" "_law_step" pX f fd) (Z:Bl mg)  : dB P w K mg base d7 1 f fd ["plan", "state", "numbers"] Dv:=by
 refine F.ok (k:=0) eT (λ vs H Q E h=>?_) (λ an A outer s H vs Q E hr h=>?_)
 ·obtain⟨aj,st,np,d,tl,bl,ps,nums,S,m,rfl,_⟩:=h;rfl
 ·obtain⟨aj,st,np,d,tl,bl,ps,nums,S,m,rfl,hp,ao,a8,A,ag,af,hm,q⟩:=h;refine⟨_,(cw (fI (fz (pv 1) (fw rfl (cR (cJ (i:=3) eT.nd) (cR (cJ (i:=4) eT.nd) (cR (cJ (i:=5) eT.nd) (cR (cJ (i:=6) eT.nd) (cR (cJ (i:=7) eT.nd) (cR (cJ (i:=8) eT.nd) (cR (cJ (i:=9) eT.nd) eX))))))))))
   (cw (fI (fz (cI df (pv 0) (pv 3)) (fw rfl (cR (cJ (i:=10) eT.nd) (cR (cJ (i:=11) eT.nd) eX)))))
   (cw (dJ (cP jh (pv 4) (cY cM rfl Z.len dU (cF (pv 10))) (cX _))
   (cw (cU (i:=12) eT.nd (cI df (pv 10) (pv 4)))
   (cw (fI (cU (i:=13) eT.nd (ib (fM hr) (pv 5) (cI df (pv 12) cA) cA ⟨rfl,rfl,rfl,rfl⟩)))
   (cw (dJ (cP eF (cI df (pv 12) cA) dA (cX _))
   (cB (iP (fM hr) (pv 5) (cI df (pv 12) cA) (cI df (pv 12) cA) rfl))
   du)
   (cw (dJ (cP eF (cI df (pv 12) cA) dA (cX _))
   (cB (iP (fM hr) (pv 5) (cI df (pv 12) cA) (ib (fM hr) (pv 5) (cI df (pv 12) cA) cA ⟨rfl,rfl,rfl,rfl⟩) rfl))
   du)
   (cw (dJ (cP eF (cI df (pv 12) cA) dA (cX _))
   (cB (iP (fM hr) (pv 5) (cI df (pv 12) cA) (dt fH (pv 13) (cI df (pv 12) cA)) rfl))
   du)
   (cw (dJ (cP eF (cI df (pv 12) cA) dA (cX _))
   (cB (eJ (gr PySem.F.plainAttrs_list PySem.F.slot_list_append PySem.F.type_list_append fo (pv 7) (cF (pv 13)))))
   du)
   (cw (dJ (cP eF (cI df (pv 12) cA) dA (cX _))
   (cw (dJ (cP eF (pv 6) (cY cM rfl Z.len dU (cF (pv 2))) (cX _))
   (cB (cK (dH (kY (pv 3) (pv 4) (pv 5) (pv 6) (pv 7) dA (pv 9)))))
   du)
   (cw (iP (fM hr) (pv 5) (cI df (pv 12) cA) (cI df (pv 2) (pv 6)) rfl)
   (cB (cU (i:=6) eT.nd (dt fH (pv 6) cA)))))
   du)
   (cB (cK (dH (kY (pv 3) (dt fH (pv 4) cA) (pv 5) (pv 6) (pv 7) (pv 8) (pv 9))))))))))))
   du)
   (cw (dJ (cP eF (cI df (pv 11) cA) dA (cX _))
   (cB (cK (dH (kY (pv 3) (pv 4) (pv 5) (pv 6) (pv 7) dA (pv 9)))))
   du)
   (cw (dJ (cP eF (cI df (pv 11) cA) dA (cX _))
   (cB (cU (i:=14) eT.nd (cI df (pv 11) cA)))
   (cw (fI (cU (i:=13) eT.nd (ib (fM hr) (pv 5) (cI df (pv 11) cA) cA ⟨rfl,rfl,rfl,rfl⟩)))
   (cw (cU (i:=15) eT.nd (cI eY (fh (cS (kM jh (pv 13) (cI df (pv 11) cA) (cX _)) (kM eF (pv 13) (cI df (pv 11) cA) (cX _)))) (cZ wQ rfl Z.int Dk (cF (kM eF (cI df (pv 11) cA) dA (cX _))))))
   (cB (cU (i:=14) eT.nd (cI df (pv 11) (dt gJ cA (cZ wQ rfl Z.int Dk (cF (pv 15))))))))))
   (cw (eJ (gr PySem.F.plainAttrs_list PySem.F.slot_list_append PySem.F.type_list_append fo (pv 9) (cF (pv 14))))
   (cB (cK (dH (kY (pv 14) cA (pv 5) (pv 6) (pv 7) (pv 8) (pv 9))))))))))),?_⟩
  try dsimp only[mw,qm]
  refine Hg ?_;intro D0 R6 R5 R4 R3 R2 R1;obtain⟨kvs,hd,dw,hk⟩:=A.dict;have hx:ps[S.dE]?=some ps[S.dE]:=by simp[ag]
  generalize al:ps[S.dE]=pe at hx;obtain⟨ds,e⟩:=pe;obtain⟨p,xs,pc,da,Y,vs,rfl,e1,el,ai,e2,e3,r3,e4⟩:=gX hp hx;have am:vs.length=ds.length:=by rw[r3.len,LU]
  have a2:d≠tl:=dD hd A.told (by intro z;cases z);have a0:d≠bl:=dD hd A.dM (by intro z;cases z);exists λ D H'=>D=[some (.ref p),some (.ref st),some (.ref np),some (.int S.dE),some (.int S.place),some (.ref d),some (.int S.taken),some (.ref tl),some (.str S.word),some (.ref bl),none,none,none,none,none,none]/\H=H',⟨_,rfl,st,_,rfl,cE.of A.at_,rfl,_,_,rfl,_,_,rfl,_,_,rfl,_,_,rfl,_,_,rfl,_,_,rfl,_,_,rfl,rfl,rfl,rfl⟩;rintro D H' ⟨rfl,rfl⟩
  try (refine lh ?_;intro sg)
  exists λ D a9=>D=[some (.ref p),some (.ref st),some (.ref np),some (.int S.dE),some (.int S.place),some (.ref d),some (.int S.taken),some (.ref tl),some (.str S.word),some (.ref bl),some (.ref da),some (.ref Y),none,none,none,none]/\H=a9,⟨_,rfl,_,rfl,p,xs,_,_,rfl,rfl,cE.of e1,dN ai,pc,_,rfl,cE.of e2,rfl,_,_,rfl,_,_,rfl,rfl,rfl,rfl⟩;rintro D a9 ⟨rfl,rfl⟩
  try (refine lh ?_;intro sg)
  exists _,rfl,_,rfl,da,_,rfl,.inr (cE.of e3),_,_,rfl,rfl,_,rfl;refine fR (λ hc=>?_) (λ hc=>?_)
  ·have ap:S.place<vs.length:=by have:=of_decide_eq_true hc;omega
   have a4:ds[S.place]?=some (ds[S.place]'⋯):=by simp[show S.place<ds.length by omega]
   generalize ad:ds[S.place]'⋯=dd at a4;have N:=nB (nums:=nums) hx a4;obtain⟨v,hv,rd⟩:=r3.get (i:=S.place) (d:=eN dd) (by rw[L6,a4];rfl);obtain⟨dp,rfl,B⟩:=oF rd;have nd:dp≠d:=dD B hd (by intro z;cases z);exists _,rfl,_,rfl,da,_,_,_,rfl,rfl,cE.of e3,dN hv;clear ad;cases dd
   case put x n =>
    exists λ D H1=>D=[some (.ref p),some (.ref st),some (.ref np),some (.int S.dE),some (.int S.place),some (.ref d),some (.int S.taken),some (.ref tl),some (.str S.word),some (.ref bl),some (.ref da),some (.ref Y),some (.ref dp),some (.int (S.w x)),none,none]/\H=H1,⟨_,rfl,d,rfl,.inl ⟨kvs,.inl hd⟩,_,rfl,dp,_,1,_,rfl,rfl,cE.of B,gQ,_,_,fS.k (k:=Sum.inr x) hd,dw x,rfl,rfl⟩;rintro D H1 ⟨rfl,rfl⟩
    try (refine lh ?_;intro sg)
    exists _,rfl,dp,_,0,_,rfl,rfl,cE.of B,eG,rfl,_,rfl;refine eU (show decide (V.str "put" = V.str "put")=true by decide) ?_;exists _,rfl,dp,_,2,_,rfl,rfl,cE.of B,at2,_,rfl,_,rfl,dp,_,1,_,rfl,rfl,cE.of B,gQ,d,_,rfl,jW.k (k:=Sum.inr x) hd (fG ⋯);have G:(upd H d (.dK (putK kvs (Sum.inr x) (.int (n))))) dp=some (.tup (lM (.put x n))):=by rw[cx nd];exact B
    exists _,rfl,dp,_,0,_,rfl,rfl,cE.of G,eG,rfl,_,rfl;refine dn (show decide (V.str "put" = V.str "copy")=false by decide) ?_;exists _,rfl,dp,_,0,_,rfl,rfl,cE.of G,eG,rfl,_,rfl;refine dn (show decide (V.str "put" = V.str "add")=false by decide) ?_;exists _,rfl,dp,_,0,_,rfl,rfl,cE.of G,eG,rfl,_,rfl;refine dn (show decide (V.str "put" = V.str "tell")=false by decide) ?_;exists _,rfl,dp,_,0,_,rfl,rfl,cE.of G,eG,rfl,_,rfl;refine dn (show decide (V.str "put" = V.str "read")=false by decide) ?_;refine⟨_,rfl,_,rfl,_,_,rfl,rfl,_,rfl,_,rfl,_,rfl,_,rfl,_,rfl,qC,λ J hn=>?_⟩;refine q J _ (iQ.sU (kvs:=putK kvs (Sum.inr x) (.int (n))) cu ?_ ?_ ?_ ?_ A.ne ?_ hn ?_) (iu.mD.trans (iu.new hn))
    ·rw[N];exact dw.put x (n)
    ·have:=fY kvs (Sum.inr x:Key) (V.int (n));omega
    ·rw[N,cx a2.symm];exact A.told
    ·rw[N,cx a0.symm];exact A.dM
    ·rw[N];exact⟨Mj A.er.1,Mj A.er.2⟩
    ·rw[N];rfl
   case copy x y =>
    exists λ D H1=>D=[some (.ref p),some (.ref st),some (.ref np),some (.int S.dE),some (.int S.place),some (.ref d),some (.int S.taken),some (.ref tl),some (.str S.word),some (.ref bl),some (.ref da),some (.ref Y),some (.ref dp),some (.int (S.w x)),none,none]/\H=H1,⟨_,rfl,d,rfl,.inl ⟨kvs,.inl hd⟩,_,rfl,dp,_,1,_,rfl,rfl,cE.of B,gQ,_,_,fS.k (k:=Sum.inr x) hd,dw x,rfl,rfl⟩;rintro D H1 ⟨rfl,rfl⟩
    try (refine lh ?_;intro sg)
    exists _,rfl,dp,_,0,_,rfl,rfl,cE.of B,eG,rfl,_,rfl;refine dn (show decide (V.str "copy" = V.str "put")=false by decide) ?_;exists _,rfl,dp,_,0,_,rfl,rfl,cE.of B,eG,rfl,_,rfl;refine eU (show decide (V.str "copy" = V.str "copy")=true by decide) ?_;exists _,rfl,d,rfl,.inl ⟨kvs,.inl hd⟩,_,rfl,dp,_,2,_,rfl,rfl,cE.of B,at2,_,_,fS.k (k:=Sum.inr y) hd,dw y,_,rfl,_,rfl,dp,_,1,_,rfl,rfl,cE.of B,gQ,d,_,rfl,jW.k (k:=Sum.inr x) hd (fG ⋯);have G:(upd H d (.dK (putK kvs (Sum.inr x) (.int (S.w y))))) dp=some (.tup (lM (.copy x y))):=by rw[cx nd];exact B
    exists _,rfl,dp,_,0,_,rfl,rfl,cE.of G,eG,rfl,_,rfl;refine dn (show decide (V.str "copy" = V.str "add")=false by decide) ?_;exists _,rfl,dp,_,0,_,rfl,rfl,cE.of G,eG,rfl,_,rfl;refine dn (show decide (V.str "copy" = V.str "tell")=false by decide) ?_;exists _,rfl,dp,_,0,_,rfl,rfl,cE.of G,eG,rfl,_,rfl;refine dn (show decide (V.str "copy" = V.str "read")=false by decide) ?_;refine⟨_,rfl,_,rfl,_,_,rfl,rfl,_,rfl,_,rfl,_,rfl,_,rfl,_,rfl,qC,λ J hn=>?_⟩;refine q J _ (iQ.sU (kvs:=putK kvs (Sum.inr x) (.int (S.w y))) cu ?_ ?_ ?_ ?_ A.ne ?_ hn ?_) (iu.mD.trans (iu.new hn))
    ·rw[N];exact dw.put x (S.w y)
    ·have:=fY kvs (Sum.inr x:Key) (V.int (S.w y));omega
    ·rw[N,cx a2.symm];exact A.told
    ·rw[N,cx a0.symm];exact A.dM
    ·rw[N];exact⟨Mj A.er.1,Mj A.er.2⟩
    ·rw[N];rfl
   case add x n =>
    exists λ D H1=>D=[some (.ref p),some (.ref st),some (.ref np),some (.int S.dE),some (.int S.place),some (.ref d),some (.int S.taken),some (.ref tl),some (.str S.word),some (.ref bl),some (.ref da),some (.ref Y),some (.ref dp),some (.int (S.w x)),none,none]/\H=H1,⟨_,rfl,d,rfl,.inl ⟨kvs,.inl hd⟩,_,rfl,dp,_,1,_,rfl,rfl,cE.of B,gQ,_,_,fS.k (k:=Sum.inr x) hd,dw x,rfl,rfl⟩;rintro D H1 ⟨rfl,rfl⟩
    try (refine lh ?_;intro sg)
    exists _,rfl,dp,_,0,_,rfl,rfl,cE.of B,eG,rfl,_,rfl;refine dn (show decide (V.str "add" = V.str "put")=false by decide) ?_;exists _,rfl,dp,_,0,_,rfl,rfl,cE.of B,eG,rfl,_,rfl;refine dn (show decide (V.str "add" = V.str "copy")=false by decide) ?_;exists _,rfl,dp,_,0,_,rfl,rfl,cE.of B,eG,rfl,_,rfl;refine eU (show decide (V.str "add" = V.str "add")=true by decide) ?_;exists _,rfl,_,rfl,dp,_,2,_,rfl,rfl,cE.of B,at2,_,_,rfl,rfl,_,rfl,_,rfl,dp,_,1,_,rfl,rfl,cE.of B,gQ,d,_,rfl,jW.k (k:=Sum.inr x) hd (fG ⋯);have G:(upd H d (.dK (putK kvs (Sum.inr x) (.int (S.w x+n))))) dp=some (.tup (lM (.add x n))):=by rw[cx nd];exact B
    exists _,rfl,dp,_,0,_,rfl,rfl,cE.of G,eG,rfl,_,rfl;refine dn (show decide (V.str "add" = V.str "tell")=false by decide) ?_;exists _,rfl,dp,_,0,_,rfl,rfl,cE.of G,eG,rfl,_,rfl;refine dn (show decide (V.str "add" = V.str "read")=false by decide) ?_;refine⟨_,rfl,_,rfl,_,_,rfl,rfl,_,rfl,_,rfl,_,rfl,_,rfl,_,rfl,qC,λ J hn=>?_⟩;refine q J _ (iQ.sU (kvs:=putK kvs (Sum.inr x) (.int (S.w x+n))) cu ?_ ?_ ?_ ?_ A.ne ?_ hn ?_) (iu.mD.trans (iu.new hn))
    ·rw[N];exact dw.put x (S.w x+n)
    ·have:=fY kvs (Sum.inr x:Key) (V.int (S.w x+n));omega
    ·rw[N,cx a2.symm];exact A.told
    ·rw[N,cx a0.symm];exact A.dM
    ·rw[N];exact⟨Mj A.er.1,Mj A.er.2⟩
    ·rw[N];rfl
   case read x =>
    exists λ D H1=>D=[some (.ref p),some (.ref st),some (.ref np),some (.int S.dE),some (.int S.place),some (.ref d),some (.int S.taken),some (.ref tl),some (.str S.word),some (.ref bl),some (.ref da),some (.ref Y),some (.ref dp),some (.int (S.w x)),none,none]/\H=H1,⟨_,rfl,d,rfl,.inl ⟨kvs,.inl hd⟩,_,rfl,dp,_,1,_,rfl,rfl,cE.of B,gQ,_,_,fS.k (k:=Sum.inr x) hd,dw x,rfl,rfl⟩;rintro D H1 ⟨rfl,rfl⟩
    try (refine lh ?_;intro sg)
    exists _,rfl,dp,_,0,_,rfl,rfl,cE.of B,eG,rfl,_,rfl;refine dn (show decide (V.str "read" = V.str "put")=false by decide) ?_;exists _,rfl,dp,_,0,_,rfl,rfl,cE.of B,eG,rfl,_,rfl;refine dn (show decide (V.str "read" = V.str "copy")=false by decide) ?_;exists _,rfl,dp,_,0,_,rfl,rfl,cE.of B,eG,rfl,_,rfl;refine dn (show decide (V.str "read" = V.str "add")=false by decide) ?_;exists _,rfl,dp,_,0,_,rfl,rfl,cE.of B,eG,rfl,_,rfl;refine dn (show decide (V.str "read" = V.str "tell")=false by decide) ?_;exists _,rfl,dp,_,0,_,rfl,rfl,cE.of B,eG,rfl,_,rfl;refine eU (show decide (V.str "read" = V.str "read")=true by decide) ?_;exists _,rfl,_,rfl,np,_,rfl,.inr (cE.of a8),rfl,_,rfl;refine fR (λ ht=>?_) (λ ht=>?_)
    ·have he:S.taken=nums.length:=by
      have:=V.int.inj (of_decide_eq_true ht);rw[LU] at this;omega
     have a1:nums[S.taken]?=none:=by rw[he];simp
     have a6:fN ps nums S={ S with word := "dry" }:=by rw[N];show (match nums[S.taken]? with | none=>_ | some n=>_)=_;rw[a1]
     refine⟨_,rfl,_,rfl,_,rfl,_,rfl,_,rfl,_,rfl,qC,λ J hn=>?_⟩;rw[a6] at q;exact q J _ (iQ.sU (S':={ S with word := "dry" }) hd dw (Mj hk) A.told A.dM A.ne ⟨Mj A.er.1,Mj A.er.2⟩ hn rfl) (iu.new hn)
    ·have a7:S.taken<nums.length:=by
      refine Nat.lt_of_le_of_ne af λ z=>ht (decide_eq_true ?_)
      rw[LU,z]
     have a1:nums[S.taken]?=some nums[S.taken]:=by simp[a7]
     generalize hne:nums[S.taken]=n at a1;have ae:(nums.map V.int)[S.taken]?=some (V.int n):=by rw[L6,a1];rfl
     have a6:fN ps nums S={ S with w:=jX S.w x n,taken:=S.taken+1,place:=S.place+1 }:=by rw[N];show (match nums[S.taken]? with | none=>_ | some n=>_)=_;rw[a1]
     exists _,rfl,_,rfl,np,_,_,_,rfl,rfl,cE.of a8,dN ae,_,rfl,_,rfl,dp,_,1,_,rfl,rfl,cE.of B,gQ,d,_,rfl,jW.k (k:=Sum.inr x) hd (fG ⋯);exists _,rfl,_,_,rfl,rfl;refine⟨_,rfl,_,rfl,_,_,rfl,rfl,_,rfl,_,rfl,_,rfl,_,rfl,_,rfl,qC,λ J hn=>?_⟩;rw[a6] at q;refine q J _ (iQ.sU (S':={ S with w:=jX S.w x n,taken:=S.taken+1,place:=S.place+1 }) (kvs:=putK kvs (Sum.inr x) (.int n)) cu (dw.put x n) ?_ ?_ ?_ A.ne ⟨Mj A.er.1,Mj A.er.2⟩ hn rfl) (iu.mD.trans (iu.new hn))
     ·have:=fY kvs (Sum.inr x:Key) (V.int n);omega
     ·rw[cx a2.symm];exact A.told
     ·rw[cx a0.symm];exact A.dM
   case tell x =>
    exists λ D H1=>D=[some (.ref p),some (.ref st),some (.ref np),some (.int S.dE),some (.int S.place),some (.ref d),some (.int S.taken),some (.ref tl),some (.str S.word),some (.ref bl),some (.ref da),some (.ref Y),some (.ref dp),some (.int (S.w x)),none,none]/\H=H1,⟨_,rfl,d,rfl,.inl ⟨kvs,.inl hd⟩,_,rfl,dp,_,1,_,rfl,rfl,cE.of B,gQ,_,_,fS.k (k:=Sum.inr x) hd,dw x,rfl,rfl⟩;rintro D H1 ⟨rfl,rfl⟩
    try (refine lh ?_;intro sg)
    exists _,rfl,dp,_,0,_,rfl,rfl,cE.of B,eG,rfl,_,rfl;refine dn (show decide (V.str "tell" = V.str "put")=false by decide) ?_;exists _,rfl,dp,_,0,_,rfl,rfl,cE.of B,eG,rfl,_,rfl;refine dn (show decide (V.str "tell" = V.str "copy")=false by decide) ?_;exists _,rfl,dp,_,0,_,rfl,rfl,cE.of B,eG,rfl,_,rfl;refine dn (show decide (V.str "tell" = V.str "add")=false by decide) ?_;exists _,rfl,dp,_,0,_,rfl,rfl,cE.of B,eG,rfl,_,rfl;refine eU (show decide (V.str "tell" = V.str "tell")=true by decide) ?_;exists _,rfl,.inl ⟨rfl,_,cN.of A.told⟩,_,rfl,tl,_,_,rfl,rfl,A.told,(by rw[LU];exact fG (by have:=A.er.1;omega));have G:(upd H tl (.lst (S.told.map V.int++[.int (S.w x)]))) dp=some (.tup (lM (.tell x))):=by rw[cx (dD B A.told (by intro z;cases z))];exact B
    exists _,rfl,dp,_,0,_,rfl,rfl,cE.of G,eG,rfl,_,rfl;refine dn (show decide (V.str "tell" = V.str "read")=false by decide) ?_;refine⟨_,rfl,_,rfl,_,_,rfl,rfl,_,rfl,_,rfl,_,rfl,_,rfl,_,rfl,qC,λ J hn=>?_⟩;refine q J _ (iQ.sU (kvs:=kvs) ?_ ?_ ?_ ?_ ?_ A.ne ?_ hn ?_) (iu.Ku.trans (iu.new hn))
    ·rw[cx a2];exact hd
    ·rw[N];exact dw
    ·omega
    ·rw[N,cu];show _=some (HO.lst ((S.told++[S.w x]).map V.int));rw[L4];rfl
    ·rw[N,cx A.ne.symm];exact A.dM
    ·rw[N];refine⟨?_,Mj A.er.2⟩;show (S.told++[S.w x]).length<=m+1;rw[LY];exact M8 A.er.1
    ·rw[N];rfl
  ·have a5:ds[S.place]?=none:=by
    rw[NQ];have:¬((S.place:Int)<(vs.length:Nat)):=λ z=>hc (decide_eq_true z)
    omega
   have N:=o8 (nums:=nums) hx a5;have ak:S.dM.length<1000000:=by have:=A.er.2;omega
   cases e with
   | stop =>
    exists _,rfl,Y,_,0,_,rfl,rfl,cE.of e4,eG,rfl,_,rfl;refine eU (show decide (V.str "stop" = V.str "stop")=true by decide) ⟨_,rfl,_,rfl,_,rfl,_,rfl,_,rfl,_,rfl,qC,λ J hn=>?_⟩;rw[N] at q;exact q J _ (iQ.sU (S':={ S with word := "stop" }) hd dw (Mj hk) A.told A.dM A.ne ⟨Mj A.er.1,Mj A.er.2⟩ hn rfl) (iu.new hn)
   | go t =>
    exists _,rfl,Y,_,0,_,rfl,rfl,cE.of e4,eG,rfl,_,rfl;refine dn (show decide (V.str "go" = V.str "stop")=false by decide) ⟨_,rfl,Y,_,0,_,rfl,rfl,cE.of e4,eG,rfl,_,rfl,?_⟩;refine eU (show decide (V.str "go" = V.str "go")=true by decide) ⟨_,rfl,Y,_,1,_,rfl,rfl,cE.of e4,gQ,?_⟩;exists _,rfl,.inl ⟨rfl,_,cN.of A.dM⟩,_,rfl,bl,_,_,rfl,rfl,A.dM,(by rw[LU];exact fG (by have:=A.er.2;omega));refine⟨_,rfl,_,rfl,_,rfl,_,rfl,_,rfl,_,rfl,qC,λ J hn=>?_⟩;rw[N] at q;refine q J _ (iQ.sU (S':=mC S (.go t)) (kvs:=kvs) ?_ dw (Mj hk) ?_ ?_ A.ne ?_ hn rfl) (iu.GZ.trans (iu.new hn))
    ·rw[cx a0];exact hd
    ·rw[cx A.ne];exact A.told
    ·rw[cu];show _=some (HO.lst ((S.dM++[t]).map λ k=>V.int (k:Nat)));rw[L4];rfl
    ·exists Mj A.er.1;show (S.dM++[t]).length<=m+1+1;rw[LY];exact M8 A.er.2
   | eM b x n t t' =>
    have ah:decide (V.str (wT b)=V.str "stop")=false:=by cases b<;>decide
    have ac:decide (V.str (wT b)=V.str "go")=false:=by cases b<;>decide
    have ab:decide (V.str (wT b)=V.str "is") = !b:=by cases b<;>decide
    exists _,rfl,Y,_,0,_,rfl,rfl,cE.of e4,eG,rfl,_,rfl;refine dn ah ⟨_,rfl,Y,_,0,_,rfl,rfl,cE.of e4,eG,rfl,_,rfl,?_⟩;refine dn ac ?_;exists λ D H1=>D=[some (.ref p),some (.ref st),some (.ref np),some (.int S.dE),some (.int S.place),some (.ref d),some (.int S.taken),some (.ref tl),some (.str S.word),some (.ref bl),some (.ref da),some (.ref Y),none,some (.int (S.w x)),none,none]/\H=H1,⟨_,rfl,d,rfl,.inl ⟨kvs,.inl hd⟩,_,rfl,Y,_,1,_,rfl,rfl,cE.of e4,gQ,_,_,fS.k (k:=Sum.inr x) hd,dw x,rfl,rfl⟩;rintro D H1 ⟨rfl,rfl⟩
    try (refine lh ?_;intro sg)
    refine⟨_,rfl,_,rfl,Y,_,2,_,rfl,rfl,cE.of e4,at2,_,_,rfl,rfl,_,rfl,_,rfl,Y,_,2,_,rfl,rfl,cE.of e4,at2,rfl,ln2,λ l0 n0=>?_⟩;have e5:upd H l0 (.lst [.bl (decide (S.w x<n)),.bl (decide (V.int (S.w x)=V.int n))]) Y=some (.tup (fX (.eM b x n t t'))):=by rw[cx (cD e4 n0)];exact e4
    refine⟨_,rfl,Y,_,0,_,rfl,rfl,cE.of e5,eG,rfl,.inr ⟨_,rfl,?_⟩⟩;have aa:iL [V.bl (decide (S.w x<n)),V.bl (decide (V.int (S.w x)=V.int n))] (if decide (V.str (wT b)=V.str "is")=true then 1 else 0)=some (V.bl (iF b (S.w x) n)):=by
     rw[ab];cases b with
     | true=>exact eG
     | false =>
      have ed:decide (V.int (S.w x)=V.int n)=decide (S.w x=n):=by
       by_cases hh:S.w x=n
       ·rw[decide_eq_true hh,decide_eq_true (congrArg V.int hh)]
       ·rw[decide_eq_false hh,decide_eq_false λ z=>hh (V.int.inj z)]
      rw[ed];exact gQ
    exists l0,_,_,_,rfl,rfl,cN.of cu,aa;have a3:iL (fX (.eM b x n t t')) (4-(if iF b (S.w x) n=true then 1 else 0))=some (V.int ((if iF b (S.w x) n=true then t else t':Nat):Nat)):=by
     cases iF b (S.w x) n with
     | true=>exact dN (j:=3) rfl
     | false=>exact dN (j:=4) rfl
    refine⟨_,rfl,_,rfl,.inr ⟨_,rfl,_,_,rfl,rfl,Y,_,_,_,rfl,rfl,cE.of e5,a3,?_⟩⟩;have b6:upd H l0 (.lst [.bl (decide (S.w x<n)),.bl (decide (V.int (S.w x)=V.int n))]) bl=some (.lst (S.dM.map λ k=>V.int (k:Nat))):=by rw[cx (cD A.dM n0)];exact A.dM
    exists _,rfl,.inl ⟨rfl,_,cN.of b6⟩,_,rfl,bl,_,_,rfl,rfl,b6,(by rw[LU];exact fG (by have:=A.er.2;omega));refine⟨_,rfl,_,rfl,_,rfl,_,rfl,_,rfl,_,rfl,qC,λ J hn=>?_⟩;rw[N] at q;refine q J _ (iQ.sU (S':=mC S (.eM b x n t t')) (kvs:=kvs) ?_ dw (Mj hk) ?_ ?_ A.ne ?_ hn rfl) (((iu.new n0).trans iu.GZ).trans (iu.new hn))
    ·rw[cx a0,cx (cD hd n0)];exact hd
    ·rw[cx A.ne,cx (cD A.told n0)];exact A.told
    ·rw[cu];show _=some (HO.lst ((S.dM++[if iF b (S.w x) n=true then t else t']).map λ k=>V.int (k:Nat)));rw[L4];rfl
    ·exists Mj A.er.1;show (S.dM++[_]).length<=m+1+1;rw[LY];exact M8 A.er.2
theorem Ak {fd:FuncData} (F:eC K "_law_walk" "_law_walk" pY f fd) (Z:Bl mg) (B:Own P w K mg base "_law_step" 1 ["plan", "state", "numbers"] Dv):dB P w K mg base d7 2 f fd ["plan", "numbers", "steps"] AK:=by
 refine F.ok (k:=1) lO (λ vs H Q E h=>?_) (λ aa A outer s H vs Q E hr h=>?_)
 ·obtain⟨np,Y,n,nums,ps,rfl,_⟩:=h;rfl
 ·obtain⟨np,Y,n,nums,ps,rfl,hp,a2,a5,a7,hn,q⟩:=h;refine⟨_,(cw (fI (cU (i:=3) lO.nd (dH (kY cA cA tP cA (fh fg) dA (fh (cF cA))))))
   (cw (gu PassesOwn.never rfl (fE rfl Z.range (cF (pv 2))) (cJ (i:=4) lO.nd)
   (cB (dJ (cP eF (cI df (pv 3) cA) dA (cX _))
   (cB (cU (i:=3) lO.nd (cH B hr (iJ (pv 0) (pv 3) (pv 1)))))
   du)))
   (cB (cK (pv 3))))),?_⟩
  refine⟨λ a1 H'=>∃d tl bl st:Addr,a1=[some Y,some (.ref np),some (.int n),some (.ref st),none]/\iQ H' st d tl bl (eV 0 λ _=>0) 0/\cy H H'/\H d=none/\H tl=none/\H bl=none,
   λ d hd=>⟨(by show 0<=sizeLine;decide),λ tl N=>⟨Ax,λ bl J=>⟨qC,λ st a3=>⟨d,tl,bl,st,rfl,?_,?_,hd,?_,?_⟩⟩⟩⟩,?_⟩
  ·refine iQ.sU (H1:=upd (upd (upd H d (.dK [])) tl (.lst [])) bl (.lst [.int 0])) (S':=eV 0 λ _=>0) (kvs:=[]) ?_ (λ x=>rfl) (LW _) ?_ (by rw[cu];rfl) ?_ ⟨LW _,LW _⟩ a3 rfl
   ·exact cy.new J _ _ (cy.new N _ _ cu)
   ·exact cy.new J _ _ cu
   ·exact cD cu J
  ·exact (((cy.new hd).trans (cy.new N)).trans (cy.new J)).trans (cy.new a3)
  ·exact (cy.new hd).free N
  ·exact ((cy.new hd).trans (cy.new N)).free J
  rintro a1 H0 ⟨d,tl,bl,st,rfl,A0,s0,hd,a8,a6⟩;refine⟨_,rfl,_,rfl,⋯,⋯,iz (lo:=0) (λ i LQ H'=>∃(c:Option V) (D:Addr),LQ=[some Y,some (.ref np),some (.int n),some (.ref D),c]/\iQ H' D d tl bl (eH ps nums i (eV 0 λ _=>0)) i/\cy H H') ?_ ?_ ?_⟩
  ·exact⟨none,st,rfl,A0,s0⟩
  ·rintro i LQ H1 hi ⟨c,D,rfl,A1,s1⟩;have a9:i<n:=by omega
   have wi:=AH (ps:=ps) (nums:=nums) (S:=eV 0 λ _=>0) a2 a5 (Me _) i;have a0:=vR (ps:=ps) (nums:=nums) (n:=i) (S:=eV 0 λ _=>0);have G:¬(eH ps nums i (eV 0 λ _=>0)).word = "on" -> eH ps nums (i+1) (eV 0 λ _=>0)=eH ps nums i (eV 0 λ _=>0):=λ h=>mV h 1
   generalize eH ps nums (i+1) (eV 0 λ _=>0)=W1 at a0 G ⊢;generalize eH ps nums i (eV 0 λ _=>0)=W at A1 wi a0 G ⊢;exists _,rfl,D,_,5,_,rfl,rfl,cE.of A1.at_,LH,rfl,_,rfl;by_cases hw:W.word = "on"
   ·refine eU (by rw[hw];decide) ?_;refine⟨_,rfl,_,rfl,_,rfl,Y,D,np,d,tl,bl,ps,nums,W,i,rfl,hp.same s1 (d6 ps),a2,s1 _ _ a7,A1,wi.1,wi.2,⋯,λ a4 H2 A2 b2=>?_⟩;exact⟨_,a4,rfl,by rw[a0 hw];exact A2,λ c o e=>b2 c o (s1 c o e) (cD e hd) (cD e a8) (cD e a6)⟩
   ·refine dn (decide_eq_false λ z=>hw (V.str.inj z)) ?_;exact⟨_,D,rfl,by rw[G hw];exact A1.mono (MJ i),s1⟩
  ·rintro LQ H1 ⟨c,D,rfl,A1,s1⟩;have e1:((n:Int)).toNat=n:=by omega
   rw[e1] at A1;exact⟨_,rfl,q D d tl bl H1 A1 s1⟩
theorem zR {fd:FuncData} (F:eC K "_law_input" "_law_input" oh f fd) (Z:Bl mg) (B:Own P w K mg base "_law_take" 1 ["bag", "many"] iN) (D:Own P w K mg base "_law_number" 2 ["bag"] o3):dB P w K mg base d7 3 f fd ["bag"] yZ:=by
 refine F.ok (k:=2) rP (λ vs H Q E h=>?_) (λ a2 A outer s H vs Q E hr h=>?_)
 ·obtain⟨b,rfl,_⟩:=h;rfl
 ·obtain⟨b,rfl,hB,q⟩:=h;refine⟨_,(cw (cU (i:=1) rP.nd (cH B hr (cS (pv 0) (cI eY (fh (iJ cA cA cA)) (cH B hr (cS (pv 0) cA))))))
   (cB (cK (cZ cT rfl Z.tuple dI (cF (fL ["k"] ["bag"] [0] rfl (fE rfl Z.range (cF (pv 1))) rfl ⋯ ⋯ ⋯ ⟨⟨rfl,.inl rfl,rfl⟩,True.intro⟩ (λ _ _ _ _=>(cJ (i:=0) (show ((["k"]:List Str)++(["bag"]:List Str)).Nodup by decide) (hf:=Mg rfl))) (λ _ _ _ _=>fx) (λ _ _ _ _=>(cH D hr (cF (pv 1)))))))))),?_⟩
  refine⟨_,rfl,Ay,λ l0 n0=>?_⟩;refine⟨_,rfl,b,3,rfl,hB.new n0,⟨by decide,by decide⟩,λ z H1 z0 z1 B1 X1=>?_⟩;have h0:H1 l0=some (.lst [.int 9,.int 60,.int 201]):=X1 l0 _ cu (hB.eZ n0);obtain⟨g,hg,a1⟩:=DI (x:=9) (y:=60) (z:=201) z0 z1;have g0:0<g/\g<1000:=by omega
  refine⟨l0,_,_,_,rfl,rfl,cN.of h0,hg,b,g,rfl,B1,⟨g0.1,ij g0.1 ⋯⟩,λ m H2 m0 m1 B2 X2=>?_⟩;have F2:Fix b H H2:=((Fix.new n0).trans X1).trans X2;refine⟨_,rfl,_,rfl,⋯,⋯,λ acc Y=>?_⟩;have J:acc≠b:=B2.eZ Y;refine jV (lo:=0) (λ i ys N H'=>∃(v:Option V) (ns:List Int),N=[v,some (.ref b)]/\ys=ns.map V.int/\ns.length=i/\H' acc=some (.lst ys)/\e7 H' b/\Fix b H2 H') ?_ ?_ ?_ ?_
  ·exact⟨none,[],rfl,rfl,rfl,cu,B2.new Y,Fix.new Y⟩
  ·rintro i ys N H4 hi ⟨v,ns,rfl,rfl,hl,G,_⟩;exact⟨G,by rw[LU];exact cV ⋯⟩
  ·rintro i ys N H4 hi ⟨v,ns,rfl,rfl,hl,G,B4,X4⟩;refine dW ?_;refine iw ?_;refine eI ?_;refine⟨_,rfl,b,rfl,B4,λ n H5 nk B5 X5=>?_⟩;have a0:=X5 acc _ G J;exists a0,_,ns++[n],rfl,(by rw[L4];rfl),(by rw[LY,hl];rfl),cu,?_
   ·obtain⟨x,y,e,z⟩:=B5;exact⟨x,y,by rw[cx J.symm];exact e,z⟩
   ·intro d' o hd nd;rw[cx (cD hd Y)];exact (X4.trans X5) d' o hd nd
  ·rintro ys N H4 ⟨v,ns,rfl,rfl,hl,G,B4,X4⟩;refine⟨acc,_,rfl,.inl ⟨cN.of G,λ t tn=>?_⟩⟩;exact q t ns _ cu (B4.new tn) ((F2.trans X4).trans (Fix.new tn))
theorem Ka {fd:FuncData} (F:eC K "law" "law" sF f fd) (Z:Bl mg) {CR:Addr} (TR:v7 K CR) (J:Own P w K mg base "_law_bag" 1 ["script", "k"] (GX K)) (B:Own P w K mg base "_law_take" 1 ["bag", "many"] iN) (a0:Own P w K mg base "_law_any_plan" 6 ["bag", "most"] xR) (a6:Own P w K mg base "_law_input" 3 ["bag"] yZ) (a9:Own P w K mg base "_law_walk" 2 ["plan", "numbers", "steps"] AK) (a7:Own P w K mg base "led_past" 7 ["plan", "most"] (vm P w CR)) (a5:Own P w K mg base "joined" 8 ["plan"] zD) (an:Own P w K mg base "alike" 7 ["plan"] wo) (aO:Own P w K mg base "run" 9 ["plan", "numbers", "steps"] G1) (as:Own P w K mg base "seen" 8 ["plan", "numbers", "steps"] DG):dB P w K mg base d7 12 f fd ["script"] (yj K):=by
  refine F.ok (k:=11) i7 (λ vs H Q E h=>?_) (λ cl A outer s H vs Q E hr h=>?_)
  . obtain⟨a,ns,rfl,_⟩:=h
    rfl
  . obtain⟨a,ns,rfl,hS,c2,q⟩:=h
    refine⟨_,(cw (cU (i:=1) i7.nd (cH J hr (cS (pv 0) cA)))
      (cw (cU (i:=2) i7.nd (cH a0 hr (cS (cH J hr (cS (pv 0) cA)) (cI eY (fh (cS cA cA)) (cH B hr (cS (pv 1) cA))))))
      (cw (fI (dJ (PW.pt (qw (cP jh (cY cM rfl Z.len dU (cF (pv 2))) cA (cX _)) (oo (cP eF (cH B hr (cS (pv 1) cA)) cA (cX _)))))
      (cB (cU (i:=2) i7.nd (cI df (cH a7 hr (cS (pv 2) (dt fH cA (cH B hr (cS (pv 1) cA))))) cA)))
      du))
      (cw (fz (cH a5 hr (cF (pv 2))) (fw rfl (cR (cJ (i:=3) i7.nd) (cR (cJ (i:=4) i7.nd) eX))))
      (cw (cU (i:=5) i7.nd (zK rfl rfl Z.tuple rfl Z.range (eE (cY cM rfl Z.len dU (eE (pv 3) fg)) fg)))
      (cw (dJ (PW.pt (Bt (cP (qE hr.units) (cH an hr (cF (pv 3))) (pv 5) (cX _)) (yA (cP (qE hr.units) (cH a5 hr (cF (pv 3))) (dH (cS (pv 3) (pv 5))) (cX _)))))
      (cB (cK lK))
      du)
      (cw (gu PassesOwn.never rfl (fE rfl Z.range (cF (dt fH cA (cY (wO rfl) rfl Z.min Di (cS (cY cM rfl Z.len dU (cF (pv 0))) cA))))) (cJ (i:=6) i7.nd)
      (cw (cU (i:=7) i7.nd (cH J hr (cS (pv 0) (pv 6))))
      (cw (cU (i:=8) i7.nd (cH a6 hr (cF (pv 7))))
      (cw (cU (i:=9) i7.nd (cI eY (fh (iJ (cH B hr (cS (pv 7) cA)) (cH B hr (cS (pv 7) cA)) cA)) (cH B hr (cS (pv 7) cA))))
      (cw (cU (i:=10) i7.nd (cH a9 hr (iJ (pv 2) (pv 8) (pv 9))))
      (cw (dJ (cP (qE hr.units) (cH aO hr (iJ (pv 3) (pv 8) (pv 9))) (dH (cS (cI df (pv 10) cA) (cZ cT rfl Z.tuple dI (cF (cI df (pv 10) cA))))) (cX _))
      (cB (cK lK))
      du)
      (cB (dJ (cP (qE hr.units) (cH as hr (iJ (pv 3) (pv 8) (pv 9))) (cZ cT rfl Z.tuple dI (cF (fL ["piece"] ["numbers_in"] [4] rfl (kK (cI df (pv 10) cA)) rfl ⋯ ⋯ ⋯ ⟨⟨rfl,.inl rfl,rfl⟩,True.intro⟩ (λ _ _ _ _=>(cJ (i:=0) (show ((["piece"]:List Str)++(["numbers_in"]:List Str)).Nodup by decide) (hf:=Mg rfl))) (λ _ _ _ _=>fx) (λ _ _ _ _=>(cI (IB (K:=K) rfl) (pv 1) (pv 0)))))) (cX _))
      (cB (cK lK))
      du))))))))
      (cB (cK lK))))))))),?_⟩
    try dsimp only[mw,qm]
    refine Hh ?_;intro D0 R7 R6 R5 R4 R3 R2 R1;refine⟨_,rfl,a,ns,0,rfl,hS,⋯,λ b H1 nb B1 s1=>?_⟩;refine⟨_,rfl,a,ns,1,rfl,s1.seq hS,⋯,λ b2 H5 aL B5 s5=>?_⟩;refine⟨ln2,λ l1 n1=>?_⟩;have aX:=B1.same s5;refine⟨_,rfl,b,2,rfl,aX.new n1,⟨by decide,by decide⟩,λ z H6 z0 cb B6 X6=>?_⟩;have h1:H6 l1=some (.lst [.int 12,.int 60]):=X6 l1 _ cu (aX.eZ n1);have F6:Fix b H5 H6:=(Fix.new n1).trans X6;have pk:∃g:Nat,iL [V.int 12,V.int 60] z=some (V.int g)/\(g=12\/g=60):=by
      obtain rfl | rfl:z=0\/z=1:=by omega
      . exact⟨12,eG,.inl rfl⟩
      . exact⟨60,gQ,.inr rfl⟩
    obtain⟨g,hg,ck⟩:=pk;have ba:b2≠b:=B1.eZ aL;have bj:e7 H6 b2:=by
      obtain⟨x,y,e,zz⟩:=B5;exact⟨x,y,F6 _ _ e ba,zz⟩
    refine⟨l1,_,_,_,rfl,rfl,cN.of h1,hg,b2,g,rfl,bj,⋯,⋯,λ bM xs ps H8 r8 N bS a4 aw B8 X8=>?_⟩;have s6:cy H H6:=cy.qD (s1.trans s5) nb F6;have s8:cy H H8:=cy.qD s6 (s1.free aL) X8;have b0:e7 H8 b:=by
      obtain⟨x,y,e,zz⟩:=B6;exact⟨x,y,X8 _ _ e ba.symm,zz⟩
    clear B8 X8 bj F6 B6 X6 h1 hg n1 aX B5 s5 aL B1 s6;exists λ b6 H'=>∃(v':V) (D:List Piece),b6=[some (.ref a),some (.ref b),some v',none,none,none,none,none,none,none,none]/\cW H' v' (fq D)/\fi xs 12 D/\0<D.length/\D.length<=120/\cy H H',?_
    . have bf:=r8
      obtain⟨pp,be,rfl,bZ,bT⟩:=cW.d9 (show cW H8 bM (.tuple (ps.map d8)) from r8);have ca:be.length=ps.length:=by have:=bT.len;rw[LU] at this;exact this
      exists _,rfl,pp,_,rfl,.inr (cE.of bZ),_,_,rfl,rfl,_,rfl;by_cases h13:(be.length:Int)<13
      . refine eU (decide_eq_true h13) ?_
        refine⟨_,rfl,b,2,rfl,b0,⟨by decide,by decide⟩,λ y H9 y0 y1 B9 X9=>⟨rfl,_,rfl,?_⟩⟩;have r9:cW H9 (.ref pp) (fq ps):=bf.dr (λ p zs e=>X9 p _ e (b0.hR e)) (d6 ps);have s9:cy H H9:=cy.qD s8 nb X9;by_cases hy:y=0
        . refine eU (decide_eq_true (by rw[hy])) ?_
          refine⟨_,rfl,_,rfl,b,60,rfl,B9,⟨by decide,by decide⟩,λ m bw m0 m1 cj bh=>?_⟩;have bU:cW bw (.ref pp) (fq ps):=r9.dr (λ p zs e=>bh p _ e (B9.hR e)) (d6 ps);have bL:cy H bw:=cy.qD s9 nb bh;obtain⟨k,rfl⟩:∃k:Nat,m=k:=⟨m.toNat,by omega⟩;refine⟨_,_,rfl,rfl,.ref pp,ps,xs,1+k,(by congr 2),bU,a4,aw.1,aw.2,N,⋯,⋯,⋯,λ lv ds cf cc bD bQ=>?_⟩;obtain⟨lp,cg,rfl,bE,rl⟩:=cW.d9 bD;obtain⟨ov,t1,rfl,ro,rl⟩:=rl.cons_inv;have bq:=Ep a4 N (show 1<=1+k by omega);have hsz:=Er a4 N (show 1<=1+k by omega);exists lp,_,0,_,rfl,rfl,cE.of bE,eG;exact⟨_,_,rfl,ro,bq,hsz.1,by have:=hsz.2;omega,bL.trans bQ⟩
        . refine dn (decide_eq_false λ z=>hy (by injection z)) ?_
          exact⟨_,_,rfl,r9,a4,N,by omega,s9⟩
      . refine dn (decide_eq_false h13) (fB ?_)
        exact⟨_,_,rfl,bf,a4,N,by omega,s8⟩
    clear r8 a4 N bS b0 s8 H8;rintro b6 H2 ⟨v',D,rfl,r2,a4,N,hn,s2⟩
    try (refine lh ?_;intro sg)
    have ah:=a4.qG;have lay:=zm aw.1 a4;refine⟨_,rfl,v',D,rfl,r2,ah,lay,N,⋯,λ jv G H3 aG r3 s3=>?_⟩;have rJ:cW H3 jv (.tuple [.tuple ((dY D G).2.map d8),.tuple (G.map λ g=>if g∈(dY D G).1 then fm ((dY D G).1.idxOf g) else PyData.none)]):=r3;obtain⟨jp,co,rfl,bd,rl⟩:=cW.d9 rJ;obtain⟨ov,t1,rfl,ro,rl⟩:=rl.cons_inv;obtain⟨nv,t2,rfl,rn,rl⟩:=rl.cons_inv;have z:=rl.nil_inv;subst z;obtain⟨op,b8,rfl,aQ,al⟩:=cW.d9 ro;obtain⟨ip,c8,rfl,bg,aF⟩:=cW.d9 rn;have aH:=EF a4 aG N;have hJ:=join_some ah aG N;have aB:=λ (G':List Nat) (h':i6 (dY D G).2 G')=>z8 ah aG N h'
    have aT:=CA ah aG N;have walk:=xT ah aG N;have bX:=aG.len;clear r3 rJ rl;generalize (dY D G).2=qs at *;generalize (dY D G).1=ms at *;have af:=aH.qG;have ak:=zm aw.1 aH;have bN:b8.length=qs.length:=by have:=al.len;rw[LU] at this;exact this
    exists jp,_,rfl,cE.of bd,rfl,_,_,rfl,_,_,rfl,rfl;refine⟨_,rfl,op,_,rfl,.inr (cE.of aQ),b8.length,rfl,⋯,λ rt bO=>?_⟩;rw[bN];have s4:=cy.new (o:=.tup (vN (L1 qs.length))) bO;have av:(upd H3 rt (.tup (vN (L1 qs.length)))) rt=some (.tup (vN (L1 qs.length))):=cu;have au:=ro.same s4 (d6 qs)
    try change (_:Hp->Prop) (upd H3 rt (.tup (vN (L1 qs.length))))
    generalize (upd H3 rt (.tup (vN (L1 qs.length))))=H4 at s4 av au ⊢;refine⟨_,rfl,.ref op,qs,rfl,au,af,ak,hJ.1,⋯,λ at_ G' H5 bR bx s5=>?_⟩;have bB:=aB G' bR;subst bB;have Y:=lY (L1 qs.length);have aI:(PyData.tuple ((L1 qs.length).map fm)).depth<=60:=by
      show PyData.depthAll _+1<=60;have:=jE (m:=0) ((L1 qs.length).map fm) λ d hd=>by obtain⟨x,_,rfl⟩:=Mb.mp hd;exact LW 0
      omega
    exists _,rfl,_,_,.tup bx (iX _),.tup (s5 _ _ av) (iX _),Y,Y,⋯,_,rfl;refine dn (by rw[PySem.SeqAt.eqv_refl _ Y];rfl) ?_;have aY:=au.same s5 (d6 qs);refine⟨_,rfl,.ref op,qs,rfl,aY,af,ak,hJ.1,⋯,λ cd G2 H6 bW r6 s6=>?_⟩;have bJ:=aB G2 bW;subst bJ;rw[yb aT] at r6;refine⟨_,rfl,_,rfl,ln2,λ t6 n6=>?_⟩;have q6:=cy.new (o:=.tup [.ref op,.ref rt]) n6;have aZ:=s5.trans s6;have ae:=EJ (qs:=qs) (ns:=L1 qs.length) λ p hp=>CB (ak p hp)
    have bp:=EI (ns:=L1 qs.length) (outs:=qs);have bi:eh (PyData.tuple [.tuple (qs.map d8),.tuple ((L1 qs.length).map fm)])=true:=by
      show (eh (fq qs)&&(dQ ((L1 qs.length).map fm)&&true))=true;rw[d6,m5];rfl
    exists _,_,r6.same q6 bi,.tup cu (.cons ((aY.same s6 (d6 qs)).same q6 (d6 qs)) (.cons (.tup (q6 _ _ (aZ _ _ av)) (iX _)) .nil)),ae,ae,⋯,_,rfl;refine dn (by rw[PySem.SeqAt.eqv_refl _ ae];rfl) ?_;have a8:=s4.trans (aZ.trans q6);have b1:=(s2.trans s3).trans a8;have aC:=a8 _ _ aQ;have aD:=a8 _ _ bg;have am:=al.same a8 (cO qs);have ai:=aF.same a8 (iR ms G);have bm:=(r2.same s3 (d6 D)).same a8 (d6 D)
    try change (_:Hp->Prop) (upd H6 t6 (.tup [.ref op,.ref rt]))
    generalize (upd H6 t6 (.tup [.ref op,.ref rt]))=H7 at q6 a8 b1 aC aD am ai bm ⊢;clear q6 a8 aZ s6 s5 s4 r6 aY au bx av al aF aQ bg ro rn bd r2 s3 s2 ae bp Y aI bi;refine⟨_,rfl,a,_,rfl,.inl (b1.seq hS),_,_,rfl,_,_,rfl,rfl,_,rfl,(by split<;>(try rw[LU])<;>omega),(by split<;>(try rw[LU])<;>omega),iz (lo:=0) (λ i LQ H'=>∃(u1 u2 u3 u4 u5:Option V),LQ=[some (.ref a),some (.ref b),some v',some (.ref op),some (.ref ip),some (.ref rt),u1,u2,u3,u4,u5]/\cy H7 H') ?_ ?_ ?_⟩
    . exact⟨_,_,_,_,_,rfl,cy.refl _⟩
    . rintro i LQ bC hi ⟨u1,u2,u3,u4,u5,rfl,aq⟩
      rw[Og];refine dW ?_;refine⟨_,rfl,_,rfl,a,ns,i,rfl,(b1.trans aq).seq hS,⋯,λ b3 cn bK bv b5=>?_⟩;refine⟨_,rfl,b3,rfl,bv,λ np nums bH aR aP bn=>?_⟩;refine⟨_,rfl,b3,30,rfl,aP,⟨by decide,by decide⟩,λ d1 cq cp c9 b9 bu=>?_⟩;refine⟨_,rfl,b3,2001,rfl,b9,⟨by decide,by decide⟩,λ d2 c6 c7 ce aU b7=>⟨Ay,λ l2 n2=>?_⟩⟩;refine⟨_,rfl,b3,3,rfl,aU.new n2,⟨by decide,by decide⟩,λ d3 ar bV bz bI b4=>?_⟩;have h2:ar l2=some (.lst [.int d1,.int d2,.int 2000]):=b4 l2 _ cu (aU.eZ n2);obtain⟨m,hm,c5⟩:=DI (x:=d1) (y:=d2) (z:=2000) bV bz;exists l2,_,_,_,rfl,rfl,cN.of h2,hm;have aM:Fix b3 bH ar:=((bu.trans b7).trans (Fix.new n2)).trans b4;have ab:=aM _ _ aR (aP.hR aR);have ag:cy H7 ar:=cy.qD (aq.trans b5) (aq.free bK) (bn.trans aM);obtain⟨k,rfl⟩:∃k:Nat,m=k:=⟨m.toNat,by omega⟩;have hk:k<=2000:=by omega
      have bt:=bm.same ag (d6 D);have aJ:cW ar (.ref op) (fq qs):=.tup (ag _ _ aC) (am.same ag (cO qs));have bc:=ai.same ag (iR ms G);have aW:=ag _ _ aD;clear h2 hm aM b4 b7 bu bn aU b9 aP n2 aR bI bv b5;refine⟨_,rfl,_,rfl,_,rfl,np,v',k,nums,D,rfl,bt,ah,N,ab,hk,λ st d tl bl ci ao aN=>?_⟩;have sm:=walk nums k;have aE:PySem.PyData.canLay0 (.str (eH D nums k (eV 0 λ _=>0)).word)=true:=FA rfl k;refine⟨_,rfl,_,rfl,_,rfl,np,.ref op,k,nums,qs,rfl,aJ.same aN (d6 qs),af,hJ.1,aN _ _ ab,hk,λ rv aS rr ax=>?_⟩;generalize hW:eH D nums k (eV 0 λ _=>0)=W at ao aE sm;generalize bG:eH qs nums k (eV 0 λ _=>0)=W' at rr sm;have a1:=ax _ _ ao.at_;have a2:=ax _ _ ao.told;have a3:=ax _ _ ao.dM;have eR:kh W' = kh W:=by unfold kh;rw[sm.told,sm.word]
      rw[eR] at rr;refine⟨_,rfl,st,_,5,_,rfl,rfl,cE.of a1,dN (j:=5) rfl,_,rfl,st,_,4,_,rfl,rfl,cE.of a1,dN (j:=4) rfl,tl,_,rfl,.inl ⟨cN.of a2,λ t1 n1=>⟨ln2,λ t2 n2=>?_⟩⟩⟩;have q1:=cy.new (o:=.tup (W.told.map V.int)) n1;have q2:=cy.new (o:=.tup [.str W.word,.ref t1]) n2;have aK:cW (upd (upd aS t1 (.tup (W.told.map V.int))) t2 (.tup [.str W.word,.ref t1])) (.ref t2) (kh W):=.tup cu (.cons (.str _) (.cons (.tup (q2 _ _ cu) (sf _)) .nil));have ay:=q1.trans q2;have bF:eh (kh W)=true:=IA W;have Y:(kh W).canLay0=true:=HQ W aE;have aI:=HP W;have az:=rr.same ay bF
      try change (_:Hp->Prop) (upd (upd aS t1 (.tup (W.told.map V.int))) t2 (.tup [.str W.word,.ref t1]))
      generalize (upd (upd aS t1 (.tup (W.told.map V.int))) t2 (.tup [.str W.word,.ref t1]))=H20 at q2 aK ay az ⊢;exists kh W,kh W,az,aK,Y,Y,⋯,_,rfl;refine dn (by rw[PySem.SeqAt.eqv_refl _ Y];rfl) ?_;have ad:=(aN.trans ax).trans ay;refine⟨_,rfl,_,rfl,_,rfl,np,.ref op,k,nums,qs,rfl,aJ.same ad (d6 qs),af,hJ.1,ad _ _ ab,hk,λ sv bY rs bb=>?_⟩;rw[bG] at rs;have ap:=ay.trans bb;have c1:=ap _ _ a1;have c3:=ap _ _ a3;have aa:=ad.trans bb;have aV:=aa _ _ aW;have bo:=bc.same aa (iR ms G);refine⟨_,rfl,st,_,6,_,rfl,rfl,cE.of c1,dN (j:=6) rfl,bl,rfl,⟨_,cN.of c3⟩,λ ac na=>?_⟩;refine mJ (K:=K) (a:=bl) (xs:=W.dM.map λ k=>V.int (k:Nat)) (λ i ys LR H'=>∃t0:Option V,LR=[t0,some (.ref ip)]/\H' ac=some (.lst ys)/\ys=(W.dM.take i).map (λ k=>V.int (ms.idxOf (cL G k):Nat))/\cy bY H') ?_ ?_ ?_ ?_
      . exact⟨none,rfl,cu,rfl,cy.new na⟩
      . rintro i ys LR H' hi ⟨t0,rfl,ha,rfl,sa⟩
        exists cN.of (sa _ _ c3),ha;rw[LU,Mu];have:=ao.er.2;exact Nm (show _<=2001 by omega) ⋯
      . rintro i y ys LR H' hi ⟨t0,rfl,ha,rfl,sa⟩
        obtain⟨j,hj,rfl⟩:∃j,W.dM[i]?=some j/\y=V.int (j:Nat):=by
          rw[L6] at hi;cases e:W.dM[i]? with
          | none=>rw[e] at hi;cases hi
          | some k=>rw[e] at hi;exact⟨k,rfl,(Mf.inj hi).symm⟩
        obtain⟨bA,bP⟩:=sm.bin j (L8 hj);have hx:=EH bo bX bA bP;refine dW ?_;refine iw ?_;refine eI ?_;refine⟨_,rfl,_,rfl,ip,_,_,_,rfl,rfl,cE.of (sa _ _ aV),dN hx,ha,_,rfl,cu,?_,sa.put na⟩;rw[Mz,hj,L4];rfl
      rintro ys LR cm ⟨t0,rfl,ha,rfl,br⟩;rw[LU,Mn] at ha;have aj:=FE W';have c4:=FC W';have eB:(W.dM.map λ k=>V.int (ms.idxOf (cL G k):Nat))=W'.dM.map λ k=>V.int (k:Nat):=by
        rw[sm.dM,MT];rfl
      rw[eB] at ha;refine⟨ac,_,rfl,.inl ⟨cN.of ha,λ t5 n5=>?_⟩⟩;exists se W',se W',(rs.same br (zy W')).same (cy.new n5) (zy W'),.tup cu (Bj _),aj,aj,⋯,_,rfl;refine dn (by rw[PySem.SeqAt.eqv_refl _ aj];rfl) ?_;exact⟨_,_,_,_,_,rfl,((ag.trans aa).trans br).trans (cy.new n5)⟩
    . rintro LQ bC ⟨u1,u2,u3,u4,u5,rfl,aq⟩
      exact q _
end
theorem all_mk {l:PySem.W.OpenLaw} {w:World} {K:LV} {h:Heap} {mg:Z2} {fa:Addr} (X:K.In h) (G:h.Ns mainGlobals mg) (hfa:mg "law" = some (.ref fa))
  {f0 f1 f2 f3 f4 f5 f6 f7 f8 f9 f10 f11 f12 f13 f14 f15 f16 f17 f18 f19 f20 f21 f22 f23 f24 f25 f26 f27 f28 f29 f30 f31 f32 f33 f34 f35 f36 f37 f38 f39 f40 f41 f42 f43 f44 f45 f46 f47 f48 f49 f50 f51 f52 f53 f54 f55 f56 f57 f58 f59 f60 f61 f62 f63 f64:Addr} {g0 g1 g2 g3 g4 g5 g6 g7 g8 g9 g10 g11 g12 g13 g14 g15 g16 g17 g18 g19 g20 g21 g22 g23 g24 g25 g26 g27 g28 g29 g30 g31 g32 g33 g34 g35 g36 g37 g38 g39 g40 g41 g42 g43 g44 g45 g46 g47 g48 g49 g50 g51 g52 g53 g54 g55 g56 g57 g58 g59 g60 g61 g62 g63 g64:FuncData}
   {dcA:Option Addr} {nA:Nat} {slA:Z3}
  {lw:Tok}
   {epE:Nat}  {hsE0:Int} {tkE0:Tok} {dcE0:Option Addr} {nnE0:Nat} {slE0:Z3}   {hsE1:Int} {tkE1:Tok} {dcE1:Option Addr} {nnE1:Nat} {slE1:Z3} {ttE1_0:Tok}  {hsE2:Int} {tkE2:Tok} {dcE2:Option Addr} {nnE2:Nat} {slE2:Z3} {ttE2_0:Tok} {ttE2_1:Tok} {ttE2_2:Tok} {ttE2_3:Tok}  {hsE3:Int} {tkE3:Tok} {dcE3:Option Addr} {nnE3:Nat} {slE3:Z3} {ttE3_0:Tok} {ttE3_1:Tok} {ttE3_2:Tok} {ttE3_3:Tok}
   {epD:Nat}  {hsD0:Int} {tkD0:Tok} {dcD0:Option Addr} {nnD0:Nat} {slD0:Z3} {ttD0_0:Tok} {ttD0_1:Tok}  {hsD1:Int} {tkD1:Tok} {dcD1:Option Addr} {nnD1:Nat} {slD1:Z3} {ttD1_0:Tok} {ttD1_1:Tok}  {hsD2:Int} {tkD2:Tok} {dcD2:Option Addr} {nnD2:Nat} {slD2:Z3} {ttD2_0:Tok} {ttD2_1:Tok}  {hsD3:Int} {tkD3:Tok} {dcD3:Option Addr} {nnD3:Nat} {slD3:Z3} {ttD3_0:Tok}  {hsD4:Int} {tkD4:Tok} {dcD4:Option Addr} {nnD4:Nat} {slD4:Z3} {ttD4_0:Tok}
  
  {CR:Addr}
  (z_len:Mw K mainGlobals "len" = some none)
  (z_zip:Mw K mainGlobals "zip" = some none)
  (z_tuple:Mw K mainGlobals "tuple" = some none)
  (z_sorted:Mw K mainGlobals "sorted" = some none)
  (z_set:Mw K mainGlobals "set" = some none)
  (z_dict:Mw K mainGlobals "dict" = some none)
  (z_min:Mw K mainGlobals "min" = some none)
  (z_max:Mw K mainGlobals "max" = some none)
  (z_range:Mw K mainGlobals "range" = some none)
  (z_list:Mw K mainGlobals "list" = some none)
  (z_int:Mw K mainGlobals "int" = some none)
  (z_enumerate:Mw K mainGlobals "enumerate" = some none)
  (gA:Mw K mainGlobals "ALL" = some (some (.ref aA))) (lA:K.lookup aA=some ⟨.type "tuple",dcA,.seq #[.none,.none] nA,slA⟩)
  (g_MOST_TO_LEAD:Mw K mainGlobals "MOST_TO_LEAD" = some (some (.int 60 lw)))
  (gE:Mw K mainGlobals "END_PARTS" = some (some (.ref aE))) (lE:K.lookup aE=some ⟨.type "dict",none,.dict #[⟨hsE0,.str "stop" tkE0,.ref s0⟩,⟨hsE1,.str "go" tkE1,.ref s1⟩,⟨hsE2,.str "less" tkE2,.ref s2⟩,⟨hsE3,.str "is" tkE3,.ref s3⟩] epE,#[]⟩) (qE0:K.lookup s0=some ⟨.type "tuple",dcE0,.seq #[] nnE0,slE0⟩) (qE1:K.lookup s1=some ⟨.type "tuple",dcE1,.seq #[.str "piece" ttE1_0] nnE1,slE1⟩) (qE2:K.lookup s2=some ⟨.type "tuple",dcE2,.seq #[.str "name" ttE2_0,.str "number" ttE2_1,.str "piece" ttE2_2,.str "piece" ttE2_3] nnE2,slE2⟩) (qE3:K.lookup s3=some ⟨.type "tuple",dcE3,.seq #[.str "name" ttE3_0,.str "number" ttE3_1,.str "piece" ttE3_2,.str "piece" ttE3_3] nnE3,slE3⟩)
  (gD:Mw K mainGlobals "DEED_PARTS" = some (some (.ref aD))) (lD:K.lookup aD=some ⟨.type "dict",none,.dict #[⟨hsD0,.str "put" tkD0,.ref d0⟩,⟨hsD1,.str "copy" tkD1,.ref d1⟩,⟨hsD2,.str "add" tkD2,.ref d2⟩,⟨hsD3,.str "read" tkD3,.ref d3⟩,⟨hsD4,.str "tell" tkD4,.ref d4⟩] epD,#[]⟩) (qD0:K.lookup d0=some ⟨.type "tuple",dcD0,.seq #[.str "name" ttD0_0,.str "number" ttD0_1] nnD0,slD0⟩) (qD1:K.lookup d1=some ⟨.type "tuple",dcD1,.seq #[.str "name" ttD1_0,.str "name" ttD1_1] nnD1,slD1⟩) (qD2:K.lookup d2=some ⟨.type "tuple",dcD2,.seq #[.str "name" ttD2_0,.str "number" ttD2_1] nnD2,slD2⟩) (qD3:K.lookup d3=some ⟨.type "tuple",dcD3,.seq #[.str "name" ttD3_0] nnD3,slD3⟩) (qD4:K.lookup d4=some ⟨.type "tuple",dcD4,.seq #[.str "name" ttD4_0] nnD4,slD4⟩)
  (aCC:Mw K mainGlobals "Stand" = some (some (.ref C))) (pgC:Nk K C Str.empty=true) (hdC:Ny K C=true) (poC:NU K C=true) (saC:Mp K (.ref C) "__setattr__" = some (some (.builtin "object.__setattr__"))) (mkC:NA K C=true) (kcC:MQ K (.ref C)=true)
  (nC_pieces:Mp K (.ref C) "pieces" = some none)
  (nC_passed:Mp K (.ref C) "passed" = some none)
  (nC_place:Mp K (.ref C) "place" = some none)
  (nC_worths:Mp K (.ref C) "worths" = some none)
  (nC_numbers:Mp K (.ref C) "numbers" = some none)
  (nC_taken:Mp K (.ref C) "taken" = some none)
  (nC_spoken:Mp K (.ref C) "spoken" = some none)
  (nC_over:Mp K (.ref C) "over" = some none)
  (aCCR:Mw K mainGlobals "Row" = some (some (.ref CR))) (pgCR:Nk K CR Str.empty=true) (hdCR:Ny K CR=true) (poCR:NU K CR=true) (saCR:Mp K (.ref CR) "__setattr__" = some (some (.builtin "object.__setattr__"))) (mkCR:NA K CR=true) (kcCR:MQ K (.ref CR)=true)
  (nCR_members:Mp K (.ref CR) "members" = some none)
  (nCR_places:Mp K (.ref CR) "places" = some none)
  (D0:dP K "parts_of_kind" ko f0 g0)
  (D1:dP K "ways_on" rD f1 g1)
  (D2:dP K "without_ways" lj f2 g2)
  (D3:dP K "names_of" pK f3 g3)
  (D4:dP K "lies_in" rE f4 g4)
  (D5:dP K "part_below" m8 f5 g5)
  (D6:dP K "part_from" nY f6 g6)
  (D7:dP K "part_at" rF f7 g7)
  (D8:dP K "part_beside" mn f8 g8)
  (D9:dP K "part_of" rG f9 g9)
  (D10:dP K "facts_of" pM f10 g10)
  (D11:dP K "known" wx f11 g11)
  (D12:dP K "with_known" m9 f12 g12)
  (D13:dP K "moved" wy f13 g13)
  (D14:dP K "stretch_behind" j0 f14 g14)
  (D15:dP K "behind" uf f15 g15)
  (D16:dP K "known_beyond" lr f16 g16)
  (D17:dP K "leads" wz f17 g17)
  (D18:dP K "start" wA f18 g18)
  (D19:i0 K CR "__init__" "Row.__init__" lu f19 g19)
  (D20:i0 K CR "place_of" "Row.place_of" lB f20 g20)
  (D21:dP K "reached" rK f21 g21)
  (D22:dP K "heads" wB f22 g22)
  (D23:dP K "copy_for" pO f23 g23)
  (D24:dP K "end_to" ug f24 g24)
  (D25:dP K "led_past" pP f25 g25)
  (D26:dP K "with_steads" mq f26 g26)
  (D27:dP K "surface" rL f27 g27)
  (D28:dP K "least_places" lC f28 g28)
  (D29:dP K "ways_of" rM f29 g29)
  (D30:dP K "surface_groups" j1 f30 g30)
  (D31:dP K "alike" wC f31 g31)
  (D32:dP K "joined" uh f32 g32)
  (D33:dP K "answer_of" nZ f33 g33)
  (D34:i0 K C "worth" "Stand.worth" mr f34 g34)
  (D35:i0 K C "coming" "Stand.coming" lG f35 g35)
  (D36:i0 K C "lacks_number" "Stand.lacks_number" i5 f36 g36)
  (D37:i0 K C "is_held" "Stand.is_held" ky f37 g37)
  (D38:i0 K C "take_number" "Stand.take_number" jg f38 g38)
  (D39:i0 K C "do_deed" "Stand.do_deed" kA f39 g39)
  (D40:i0 K C "come_to" "Stand.come_to" kB f40 g40)
  (D41:i0 K C "do_end" "Stand.do_end" lH f41 g41)
  (D42:i0 K C "do_step" "Stand.do_step" kC f42 g42)
  (D43:i0 K C "__init__" "Stand.__init__" j3 f43 g43)
  (D44:dP K "go_on" wG f44 g44)
  (D45:dP K "run_at" um f45 g45)
  (D46:dP K "run" CI f46 g46)
  (D47:dP K "seen" zN f47 g47)
  (D48:dP K "_law_bag" rN f48 g48)
  (D49:dP K "_law_take" pT f49 g49)
  (D50:dP K "_law_names" oa f50 g50)
  (D51:dP K "_law_number" nh f51 g51)
  (D52:dP K "_law_deed" pU f52 g52)
  (D53:dP K "_law_end" rO f53 g53)
  (D54:dP K "_law_plan" pV f54 g54)
  (D55:dP K "_law_ways" pW f55 g55)
  (D56:dP K "_law_doubled" mu f56 g56)
  (D57:dP K "_law_like_plan" kF f57 g57)
  (D58:dP K "_law_long_plan" kG f58 g58)
  (D59:dP K "_law_wide_plan" kH f59 g59)
  (D60:dP K "_law_any_plan" lI f60 g60)
  (D61:dP K "_law_step" pX f61 g61)
  (D62:dP K "_law_walk" pY f62 g62)
  (D63:dP K "_law_input" oh f63 g63)
  (D64:dP K "law" sF f64 g64) :
  ∃fd:FuncData,(∀(s:Shared) (v:Value),BindsTo s fd ⟨[v],[]⟩ [("script",v)])/\∀base:Heap,K.In base->base.Ns mainGlobals mg->dB l.prog w K mg base d7 12 fa fd ["script"] (yj K):=by
 have e:=hfa.symm.trans (Nj X G D64.a);cases e;have Z:Bl mg:=⟨MO X G z_len,MO X G z_zip,MO X G z_tuple,MO X G z_sorted,MO X G z_set,MO X G z_dict,MO X G z_min,MO X G z_max,MO X G z_range,MO X G z_list,MO X G z_int,MO X G z_enumerate⟩;have GA:mh K mg aA:=⟨Nj X G gA,_,_,_,lA⟩;have oS:mg "MOST_TO_LEAD" = some (.int 60 lw):=Nj X G g_MOST_TO_LEAD;have GE:y6 K mg aE s0 s1 s2 s3:=⟨⟨Nj X G gE,_,_,lE,(.cons rfl rfl (.cons rfl rfl (.cons rfl rfl (.cons rfl rfl .nil))))⟩,⟨_,_,_,qE0,rfl,rfl,(by show 0<=sizeLine;decide),.nil⟩,⟨_,_,_,qE1,rfl,rfl,(by show 1<=sizeLine;decide),(.cons ⟨_,rfl⟩ .nil)⟩,⟨_,_,_,qE2,rfl,rfl,(by show 4<=sizeLine;decide),(.cons ⟨_,rfl⟩ (.cons ⟨_,rfl⟩ (.cons ⟨_,rfl⟩ (.cons ⟨_,rfl⟩ .nil))))⟩,⟨_,_,_,qE3,rfl,rfl,(by show 4<=sizeLine;decide),(.cons ⟨_,rfl⟩ (.cons ⟨_,rfl⟩ (.cons ⟨_,rfl⟩ (.cons ⟨_,rfl⟩ .nil))))⟩⟩;have GD:ym K mg aD d0 d1 d2 d3 d4:=⟨⟨Nj X G gD,_,_,lD,(.cons rfl rfl (.cons rfl rfl (.cons rfl rfl (.cons rfl rfl (.cons rfl rfl .nil)))))⟩,⟨_,_,_,qD0,rfl,rfl,(by show 2<=sizeLine;decide),(.cons ⟨_,rfl⟩ (.cons ⟨_,rfl⟩ .nil))⟩,⟨_,_,_,qD1,rfl,rfl,(by show 2<=sizeLine;decide),(.cons ⟨_,rfl⟩ (.cons ⟨_,rfl⟩ .nil))⟩,⟨_,_,_,qD2,rfl,rfl,(by show 2<=sizeLine;decide),(.cons ⟨_,rfl⟩ (.cons ⟨_,rfl⟩ .nil))⟩,⟨_,_,_,qD3,rfl,rfl,(by show 1<=sizeLine;decide),(.cons ⟨_,rfl⟩ .nil)⟩,⟨_,_,_,qD4,rfl,rfl,(by show 1<=sizeLine;decide),(.cons ⟨_,rfl⟩ .nil)⟩⟩;have T:nG K C:=⟨⟨pgC,hdC,poC,saC⟩,nC_pieces,nC_passed,nC_place,nC_worths,nC_numbers,nC_taken,nC_spoken,nC_over⟩;have TR:v7 K CR:=⟨⟨pgCR,hdCR,poCR,saCR⟩,nCR_members,nCR_places⟩;obtain⟨oc,od,kV,dc,pm,an,cd,ct,sl,rfl,lk,hcd⟩:=D64.F.ex;refine⟨MC "law" "law" (gx sF) (fU sF) (cG sF) .none kV dc pm an cd ct,λ s v=>.of_eq rfl,λ base _ _=>?_⟩;have mo:=dG l.prog w base X G D0 (uo D0.F Z) (tG λ _ _ _ _ _ _ _ _ _=>rfl);have cr:=dG l.prog w base X G D1 (CJ D1.F Z GE mo) (jI λ _ _ _ _ _ _ _=>rfl);have lf:=dG l.prog w base X G D2 (vq D2.F Z cr) (jI λ _ _ _ _ _ _ _=>rfl);have kw:=dG l.prog w base X G D3 (Ab D3.F Z GD GE mo) (jI λ _ _ _ _ _ _ _=>rfl);have pi:=dG l.prog w base X G D4 (CK D4.F Z) (iM λ _ _ _ _ _ _ _ _=>rfl);have rc:=dG l.prog w base X G D5 (yd D5.F Z) (iM λ _ _ _ _ _ _ _ _=>rfl);have sn:=dG l.prog w base X G D6 (zO D6.F Z) (iM λ _ _ _ _ _ _ _ _=>rfl);have sw:=dG l.prog w base X G D7 (CL D7.F Z pi) (iM λ _ _ _ _ _ _ _ _=>rfl);have sK:=dG l.prog w base X G D8 (wH D8.F Z) (iM λ _ _ _ _ _ _ _ _=>rfl);have dL:=dG l.prog w base X G D9 (CM D9.F Z rc sn sw sK) (KS λ _ _ _ _ _ _ _ _ _ _=>rfl);have mt:=dG l.prog w base X G D10 (Ac D10.F Z GA) (jI λ _ _ _ _ _ _ _=>rfl);have ii:=dG l.prog w base X G D11 (GF D11.F Z GA) (iM λ _ _ _ _ _ _ _ _=>rfl);have im:=dG l.prog w base X G D12 (ye D12.F Z GA mt) (tG λ _ _ _ _ _ _ _ _ _=>rfl);have tz:=dG l.prog w base X G D13 (GG D13.F Z) (iM λ _ _ _ _ _ _ _ _=>rfl);have ul:=dG l.prog w base X G D14 (sM D14.F Z GA tz) (iM λ _ _ _ _ _ _ _ _=>rfl);have ut:=dG l.prog w base X G D15 (EL D15.F Z GA ul mt) (iM λ _ _ _ _ _ _ _ _=>rfl);have io:=dG l.prog w base X G D16 (vr D16.F Z GA cr ii dL im) (iM λ _ _ _ _ _ _ _ _=>rfl);have v4:=dG l.prog w base X G D17 (GH D17.F Z io cr) (iM λ _ _ _ _ _ _ _ _=>rfl);have v6:=dG l.prog w base X G D18 (GI D18.F Z kw) (jI λ _ _ _ _ _ _ _=>rfl);have no:=Bo l.prog w base X G aCCR mkCR kcCR D19 (vt D19.F Z TR) (iM λ _ _ _ _ _ _ _ _=>rfl);have nM:=ja l.prog w base mg TR.cl D20 (vw D20.F Z TR) (iM λ _ _ _ _ _ _ _ _=>rfl);have v8:=dG l.prog w base X G D21 (CN D21.F Z cr) (jI λ _ _ _ _ _ _ _=>rfl);have wf:=dG l.prog w base X G D22 (GJ D22.F Z v8 cr) (jI λ _ _ _ _ _ _ _=>rfl);have wn:=dG l.prog w base X G D23 (Ad D23.F Z) (KS λ _ _ _ _ _ _ _ _ _ _=>rfl);have ww:=dG l.prog w base X G D24 (EM D24.F Z lf) (iM λ _ _ _ _ _ _ _ _=>rfl);have wP:=dG l.prog w base X G D25 (Ae D25.F Z oS TR wf v6 no nM ut v4 wn ww) (iM λ _ _ _ _ _ _ _ _=>rfl);have ld:=dG l.prog w base X G D26 (wI D26.F Z TR no nM cr lf) (iM λ _ _ _ _ _ _ _ _=>rfl);have kS:=dG l.prog w base X G D27 (CO D27.F Z lf) (jI λ _ _ _ _ _ _ _=>rfl);have dR:=dG l.prog w base X G D28 (vy D28.F Z) (jI λ _ _ _ _ _ _ _=>rfl);have wS:=dG l.prog w base X G D29 (CP D29.F Z cr) (jI λ _ _ _ _ _ _ _=>rfl);have xz:=dG l.prog w base X G D30 (sN D30.F Z dR kS) (jI λ _ _ _ _ _ _ _=>rfl);have gt:=dG l.prog w base X G D31 (GK D31.F Z wS xz dR) (jI λ _ _ _ _ _ _ _=>rfl);have xL:=dG l.prog w base X G D32 (EN D32.F Z gt ld) (jI λ _ _ _ _ _ _ _=>rfl);have zn:=dG l.prog w base X G D33 (zP D33.F Z dL) (tG λ _ _ _ _ _ _ _ _ _=>rfl);have nN:=ja l.prog w base mg T.cl D34 (wJ D34.F Z T) (iM λ _ _ _ _ _ _ _ _=>rfl);have At:=ja l.prog w base mg T.cl D35 (vz D35.F Z T) (jI λ _ _ _ _ _ _ _=>rfl);have AC:=ja l.prog w base mg T.cl D36 (oW D36.F Z T At) (jI λ _ _ _ _ _ _ _=>rfl);have AT:=ja l.prog w base mg T.cl D37 (uq D37.F Z T AC) (jI λ _ _ _ _ _ _ _=>rfl);have BT:=ja l.prog w base mg T.cl D38 (pZ D38.F Z T) (jI λ _ _ _ _ _ _ _=>rfl);have Ch:=ja l.prog w base mg T.cl D39 (ur D39.F Z T nN BT) (iM λ _ _ _ _ _ _ _ _=>rfl);have Cl:=ja l.prog w base mg T.cl D40 (uu D40.F Z T) (iM λ _ _ _ _ _ _ _ _=>rfl);have Da:=ja l.prog w base mg T.cl D41 (vA D41.F Z T nN Cl zn) (iM λ _ _ _ _ _ _ _ _=>rfl);have Db:=ja l.prog w base mg T.cl D42 (uv D42.F Z T Ch Da) (jI λ _ _ _ _ _ _ _=>rfl);have o0:=Bo l.prog w base X G aCC mkC kcC D43 (sO D43.F Z T) (KU λ _ _ _ _ _ _ _ _ _ _ _=>rfl);have on:=dG l.prog w base X G D44 (GL D44.F Z T AT Db) (iM λ _ _ _ _ _ _ _ _=>rfl);have Do:=dG l.prog w base X G D45 (EO D45.F Z T o0 on) (KU λ _ _ _ _ _ _ _ _ _ _ _=>rfl);have E2:=dG l.prog w base X G D46 (J9 D46.F Z Do) (tG λ _ _ _ _ _ _ _ _ _=>rfl);have Ev:=dG l.prog w base X G D47 (IP D47.F Z T o0 on) (tG λ _ _ _ _ _ _ _ _ _=>rfl);have EQ:=dG l.prog w base X G D48 (CQ D48.F Z) (iM λ _ _ _ _ _ _ _ _=>rfl);have db:=dG l.prog w base X G D49 (Af D49.F Z) (iM λ _ _ _ _ _ _ _ _=>rfl);have or:=dG l.prog w base X G D50 (zQ D50.F Z db) (jI λ _ _ _ _ _ _ _=>rfl);have li:=dG l.prog w base X G D51 (yf D51.F Z db) (jI λ _ _ _ _ _ _ _=>rfl);have lm:=dG l.prog w base X G D52 (Ag D52.F Z db li) (iM λ _ _ _ _ _ _ _ _=>rfl);have ln:=dG l.prog w base X G D53 (CS D53.F Z db li) (tG λ _ _ _ _ _ _ _ _ _=>rfl);have oK:=dG l.prog w base X G D54 (Ah D54.F Z db or lm ln) (tG λ _ _ _ _ _ _ _ _ _=>rfl);have oN:=dG l.prog w base X G D55 (Ai D55.F Z) (jI λ _ _ _ _ _ _ _=>rfl);have F0:=dG l.prog w base X G D56 (wK D56.F Z db) (tG λ _ _ _ _ _ _ _ _ _=>rfl);have Fa:=dG l.prog w base X G D57 (uw D57.F Z oK db oN) (iM λ _ _ _ _ _ _ _ _=>rfl);have Fk:=dG l.prog w base X G D58 (ux D58.F Z or db lm ln oN) (iM λ _ _ _ _ _ _ _ _=>rfl);have Fr:=dG l.prog w base X G D59 (uy D59.F Z db lm ln) (iM λ _ _ _ _ _ _ _ _=>rfl);have FB:=dG l.prog w base X G D60 (vB D60.F Z db oK Fa Fk Fr F0) (iM λ _ _ _ _ _ _ _ _=>rfl);have FM:=dG l.prog w base X G D61 (Aj D61.F Z) (tG λ _ _ _ _ _ _ _ _ _=>rfl);have FS:=dG l.prog w base X G D62 (Ak D62.F Z FM) (tG λ _ _ _ _ _ _ _ _ _=>rfl);have Gc:=dG l.prog w base X G D63 (zR D63.F Z db li) (jI λ _ _ _ _ _ _ _=>rfl);exact Ka D64.F Z TR EQ db FB Gc FS wP xL gt E2 Ev
theorem walk {l:PySem.W.OpenLaw}{q:Program}{loose:List Str}{XP:(Str->Option Value)->Heap->Prop}{YP:World->Heap->Prop}{d:DefRec}{K:Params->LV}(hn:l.most=some 63)(hdf:d.params.defaults=[])
  (hY:∀(w:World) (h:Heap),YP w h->(K w.params).In h)
  (F:∀(w:World) (mg:Z2) (fa:Addr) (h:Heap),(K w.params).In h->h.Ns mainGlobals mg->mg d.name=some (.ref fa) ->
   ∃fd:FuncData,(∀(s:Shared) (u:Value),BindsTo s fd ⟨[u],[]⟩ [("script",u)])/\∀base:Heap,(K w.params).In base->base.Ns mainGlobals mg->dB l.prog w (K w.params) mg base d7 12 fa fd ["script"] (yj (K w.params))) :
  PySem.W.WalkO q loose XP YP l.row.toRowW d [] (λ f vs=>PySem.call f vs) :=
 L2.HH (n:=63) (k:=12) (x := "script") (CX:=λ _=>d7) (sp:=λ w=>yj (K w.params)) hn ⋯ hdf ⟨rfl,by decide,by decide⟩ hY F (λ _ _ a ns hl _ hS=>⟨a,ns,rfl,hS,hl,λ _=>rfl⟩) λ _ _ _ _ _ z=>z
end My
namespace PySem.W.Fast
theorem tw9592297824692664150:1=1:=rfl
theorem tw9038168342528972481:1=1:=rfl
theorem tw4689715864778967749:1=1:=rfl
theorem tw10634622358420341308:1=1:=rfl
theorem tw6212274558580413686:1=1:=rfl
theorem tw12540138183878346490:1=1:=rfl
theorem tw355276615929963661:1=1:=rfl
theorem tw11115445215623621966:1=1:=rfl
theorem tw9546151363643793554:1=1:=rfl
theorem tw13281219327500265447:1=1:=rfl
theorem tw2771644186953334568:1=1:=rfl
theorem tw16965837862319630803:1=1:=rfl
theorem tw5768744463530519595:1=1:=rfl
theorem tw299297386739066101:1=1:=rfl
theorem tw17663393010084812421:1=1:=rfl
theorem tw11552590413474079580:1=1:=rfl
theorem tw12169944797854427690:1=1:=rfl
theorem tw13977232625441130988:1=1:=rfl
theorem tw12262484188012672254:1=1:=rfl
theorem tw17395518929722891039:1=1:=rfl
theorem tw2504652793654782923:1=1:=rfl
theorem tw11455529920467358293:1=1:=rfl
theorem tw13793796235808625888:1=1:=rfl
theorem tw3190096589476505444:1=1:=rfl
theorem tw14635186391575065796:1=1:=rfl
theorem tw18335560051128480522:1=1:=rfl
theorem tw15710465824046776712:1=1:=rfl
theorem tw9701824875893257623:1=1:=rfl
theorem tw17723979936042007188:1=1:=rfl
theorem tw15804168115601196504:1=1:=rfl
theorem tw2080632756146108477:1=1:=rfl
theorem tw254072219237430946:1=1:=rfl
theorem tw6430899041405623710:1=1:=rfl
theorem tw16236854320179222646:1=1:=rfl
theorem tw1022491574339069153:1=1:=rfl
theorem tw5425694001488064351:1=1:=rfl
theorem tw3586491320469788717:1=1:=rfl
theorem tw2235841964894771755:1=1:=rfl
theorem tw5954940337678791222:1=1:=rfl
theorem tw2592199349598414995:1=1:=rfl
theorem tw8774469211182552893:1=1:=rfl
theorem tw14512827471013160220:1=1:=rfl
theorem tw10213966853254516182:1=1:=rfl
theorem tw17164938023013140673:1=1:=rfl
theorem tw10382710472157839412:1=1:=rfl
theorem tw12827922075290075908:1=1:=rfl
theorem tw8649810125331998282:1=1:=rfl
theorem tw16646985603505858772:1=1:=rfl
theorem tw13336279396241298183:1=1:=rfl
theorem tw8587625682804542329:1=1:=rfl
theorem tw10218108390620666920:1=1:=rfl
theorem tw13825332209379261722:1=1:=rfl
theorem tw11856698982459322906:1=1:=rfl
theorem tw11303890532149943529:1=1:=rfl
theorem tw11193172651255760315:1=1:=rfl
theorem tw2954878554453273595:1=1:=rfl
theorem tw3155267954211378348:1=1:=rfl
theorem tw3728440778335218561:1=1:=rfl
theorem tw13552230143795665217:1=1:=rfl
theorem tw5696874869663536623:1=1:=rfl
theorem tw10645078775343507009:1=1:=rfl
theorem tw14528677745302899355:1=1:=rfl
theorem tw17795694133585849091:1=1:=rfl
theorem tw17032780265323980592:1=1:=rfl
theorem tw9093367136749678419:1=1:=rfl
theorem tw3792119535188631765:1=1:=rfl
theorem tw2880631697933263570:1=1:=rfl
theorem tw13670894943347387129:1=1:=rfl
theorem tw18306280265384439520:1=1:=rfl
theorem tw9127827981493724229:1=1:=rfl
theorem tw6935558508186879020:1=1:=rfl
theorem tw13113277721958679986:1=1:=rfl
theorem tw16304625137411085234:1=1:=rfl
theorem tw7545921738085353678:1=1:=rfl
theorem tw3093213794353911569:1=1:=rfl
theorem tw3054508557510927358:1=1:=rfl
theorem tw9999231269511241943:1=1:=rfl
theorem tw16054801525156239931:1=1:=rfl
theorem tw3486677639472335059:1=1:=rfl
theorem tw7402261299494703181:1=1:=rfl
theorem tw9021100885165370665:1=1:=rfl
theorem tw2087974681070667933:1=1:=rfl
theorem tw9968319387352391763:1=1:=rfl
theorem tw8255055044574706401:1=1:=rfl
theorem tw15539225728267051596:1=1:=rfl
theorem tw4051582114333120876:1=1:=rfl
theorem tw16163365262359772062:1=1:=rfl
theorem tw17281497363983474002:1=1:=rfl
theorem tw8506841533332005852:1=1:=rfl
theorem tw6014989208180139021:1=1:=rfl
theorem tw9616622274686739394:1=1:=rfl
theorem tw2324952961842370313:1=1:=rfl
theorem tw4886762690950064483:1=1:=rfl
theorem tw637842140971292928:1=1:=rfl
theorem tw2420153424497608277:1=1:=rfl
theorem tw13536254188379056162:1=1:=rfl
theorem tw18048094028075902796:1=1:=rfl
theorem tw16955933635203230075:1=1:=rfl
theorem tw1364671125874530616:1=1:=rfl
theorem tw3557697006148913394:1=1:=rfl
theorem tw10607847748322770047:1=1:=rfl
theorem tw14348112684858412710:1=1:=rfl
theorem tw11758492706223051532:1=1:=rfl
theorem tw15361166031048626074:1=1:=rfl
theorem tw2461398711554453130:1=1:=rfl
theorem tw16272466570532674380:1=1:=rfl
theorem tw306114336343184639:1=1:=rfl
theorem tw10058450586638570299:1=1:=rfl
theorem tw17091592898845951116:1=1:=rfl
theorem tw7754703121650928668:1=1:=rfl
theorem tw8126211151203794784:1=1:=rfl
theorem tw3343335422373775562:1=1:=rfl
end PySem.W.Fast
open PySem PySem.W PyProof.Rows
set_option maxRecDepth 100000 in
set_option maxHeartbeats 0 in
theorem PySem.Challenge.cw_ledpast_k42_whole_joined_tells_the_same_holds : PySem.Challenge.rw_ledpast_k42_whole_joined_tells_the_same.Holds := by
 w_on; o_law; k_head; (case hw => w_witness2)
 k_fill
 refine My.walk (l := PySem.Challenge.rw_ledpast_k42_whole_joined_tells_the_same) rfl rfl (fun w h Y => PySem.W.kIn_of Y) ?F
 case F =>
  intro w mg fa h KX G hmg
  refine' My.all_mk KX G hmg ?z_len ?z_zip ?z_tuple ?z_sorted ?z_set ?z_dict ?z_min ?z_max ?z_range ?z_list ?z_int ?z_enumerate ?gA ?lA ?g_MOST_TO_LEAD ?gE ?lE ?qE0 ?qE1 ?qE2 ?qE3 ?gD ?lD ?qD0 ?qD1 ?qD2 ?qD3 ?qD4 ?aCC ?pgC ?hdC ?poC ?saC ?mkC ?kcC ?nC_pieces ?nC_passed ?nC_place ?nC_worths ?nC_numbers ?nC_taken ?nC_spoken ?nC_over ?aCCR ?pgCR ?hdCR ?poCR ?saCR ?mkCR ?kcCR ?nCR_members ?nCR_places (L2.def_mk ?a0 ?l0 ?c0 ?k0) (L2.def_mk ?a1 ?l1 ?c1 ?k1) (L2.def_mk ?a2 ?l2 ?c2 ?k2) (L2.def_mk ?a3 ?l3 ?c3 ?k3) (L2.def_mk ?a4 ?l4 ?c4 ?k4) (L2.def_mk ?a5 ?l5 ?c5 ?k5) (L2.def_mk ?a6 ?l6 ?c6 ?k6) (L2.def_mk ?a7 ?l7 ?c7 ?k7) (L2.def_mk ?a8 ?l8 ?c8 ?k8) (L2.def_mk ?a9 ?l9 ?c9 ?k9) (L2.def_mk ?a10 ?l10 ?c10 ?k10) (L2.def_mk ?a11 ?l11 ?c11 ?k11) (L2.def_mk ?a12 ?l12 ?c12 ?k12) (L2.def_mk ?a13 ?l13 ?c13 ?k13) (L2.def_mk ?a14 ?l14 ?c14 ?k14) (L2.def_mk ?a15 ?l15 ?c15 ?k15) (L2.def_mk ?a16 ?l16 ?c16 ?k16) (L2.def_mk ?a17 ?l17 ?c17 ?k17) (L2.def_mk ?a18 ?l18 ?c18 ?k18) (L2.met_mk ?a19 ?i19 ?l19 ?c19 ?k19) (L2.met_mk ?a20 ?i20 ?l20 ?c20 ?k20) (L2.def_mk ?a21 ?l21 ?c21 ?k21) (L2.def_mk ?a22 ?l22 ?c22 ?k22) (L2.def_mk ?a23 ?l23 ?c23 ?k23) (L2.def_mk ?a24 ?l24 ?c24 ?k24) (L2.def_mk ?a25 ?l25 ?c25 ?k25) (L2.def_mk ?a26 ?l26 ?c26 ?k26) (L2.def_mk ?a27 ?l27 ?c27 ?k27) (L2.def_mk ?a28 ?l28 ?c28 ?k28) (L2.def_mk ?a29 ?l29 ?c29 ?k29) (L2.def_mk ?a30 ?l30 ?c30 ?k30) (L2.def_mk ?a31 ?l31 ?c31 ?k31) (L2.def_mk ?a32 ?l32 ?c32 ?k32) (L2.def_mk ?a33 ?l33 ?c33 ?k33) (L2.met_mk ?a34 ?i34 ?l34 ?c34 ?k34) (L2.met_mk ?a35 ?i35 ?l35 ?c35 ?k35) (L2.met_mk ?a36 ?i36 ?l36 ?c36 ?k36) (L2.met_mk ?a37 ?i37 ?l37 ?c37 ?k37) (L2.met_mk ?a38 ?i38 ?l38 ?c38 ?k38) (L2.met_mk ?a39 ?i39 ?l39 ?c39 ?k39) (L2.met_mk ?a40 ?i40 ?l40 ?c40 ?k40) (L2.met_mk ?a41 ?i41 ?l41 ?c41 ?k41) (L2.met_mk ?a42 ?i42 ?l42 ?c42 ?k42) (L2.met_mk ?a43 ?i43 ?l43 ?c43 ?k43) (L2.def_mk ?a44 ?l44 ?c44 ?k44) (L2.def_mk ?a45 ?l45 ?c45 ?k45) (L2.def_mk ?a46 ?l46 ?c46 ?k46) (L2.def_mk ?a47 ?l47 ?c47 ?k47) (L2.def_mk ?a48 ?l48 ?c48 ?k48) (L2.def_mk ?a49 ?l49 ?c49 ?k49) (L2.def_mk ?a50 ?l50 ?c50 ?k50) (L2.def_mk ?a51 ?l51 ?c51 ?k51) (L2.def_mk ?a52 ?l52 ?c52 ?k52) (L2.def_mk ?a53 ?l53 ?c53 ?k53) (L2.def_mk ?a54 ?l54 ?c54 ?k54) (L2.def_mk ?a55 ?l55 ?c55 ?k55) (L2.def_mk ?a56 ?l56 ?c56 ?k56) (L2.def_mk ?a57 ?l57 ?c57 ?k57) (L2.def_mk ?a58 ?l58 ?c58 ?k58) (L2.def_mk ?a59 ?l59 ?c59 ?k59) (L2.def_mk ?a60 ?l60 ?c60 ?k60) (L2.def_mk ?a61 ?l61 ?c61 ?k61) (L2.def_mk ?a62 ?l62 ?c62 ?k62) (L2.def_mk ?a63 ?l63 ?c63 ?k63) (L2.def_mk ?a64 ?l64 ?c64 ?k64)
  case gA | lA | g_MOST_TO_LEAD | gE | lE | qE0 | qE1 | qE2 | qE3 | gD | lD | qD0 | qD1 | qD2 | qD3 | qD4 | aCC | pgC | hdC | poC | saC | mkC | kcC | nC_pieces | nC_passed | nC_place | nC_worths | nC_numbers | nC_taken | nC_spoken | nC_over | aCCR | pgCR | hdCR | poCR | saCR | mkCR | kcCR | nCR_members | nCR_places | a0 | l0 | c0 | k0 | a1 | l1 | c1 | k1 | a2 | l2 | c2 | k2 | a3 | l3 | c3 | k3 | a4 | l4 | c4 | k4 | a5 | l5 | c5 | k5 | a6 | l6 | c6 | k6 | a7 | l7 | c7 | k7 | a8 | l8 | c8 | k8 | a9 | l9 | c9 | k9 | a10 | l10 | c10 | k10 | a11 | l11 | c11 | k11 | a12 | l12 | c12 | k12 | a13 | l13 | c13 | k13 | a14 | l14 | c14 | k14 | a15 | l15 | c15 | k15 | a16 | l16 | c16 | k16 | a17 | l17 | c17 | k17 | a18 | l18 | c18 | k18 | a19 | i19 | l19 | c19 | k19 | a20 | i20 | l20 | c20 | k20 | a21 | l21 | c21 | k21 | a22 | l22 | c22 | k22 | a23 | l23 | c23 | k23 | a24 | l24 | c24 | k24 | a25 | l25 | c25 | k25 | a26 | l26 | c26 | k26 | a27 | l27 | c27 | k27 | a28 | l28 | c28 | k28 | a29 | l29 | c29 | k29 | a30 | l30 | c30 | k30 | a31 | l31 | c31 | k31 | a32 | l32 | c32 | k32 | a33 | l33 | c33 | k33 | a34 | i34 | l34 | c34 | k34 | a35 | i35 | l35 | c35 | k35 | a36 | i36 | l36 | c36 | k36 | a37 | i37 | l37 | c37 | k37 | a38 | i38 | l38 | c38 | k38 | a39 | i39 | l39 | c39 | k39 | a40 | i40 | l40 | c40 | k40 | a41 | i41 | l41 | c41 | k41 | a42 | i42 | l42 | c42 | k42 | a43 | i43 | l43 | c43 | k43 | a44 | l44 | c44 | k44 | a45 | l45 | c45 | k45 | a46 | l46 | c46 | k46 | a47 | l47 | c47 | k47 | a48 | l48 | c48 | k48 | a49 | l49 | c49 | k49 | a50 | l50 | c50 | k50 | a51 | l51 | c51 | k51 | a52 | l52 | c52 | k52 | a53 | l53 | c53 | k53 | a54 | l54 | c54 | k54 | a55 | l55 | c55 | k55 | a56 | l56 | c56 | k56 | a57 | l57 | c57 | k57 | a58 | l58 | c58 | k58 | a59 | l59 | c59 | k59 | a60 | l60 | c60 | k60 | a61 | l61 | c61 | k61 | a62 | l62 | c62 | k62 | a63 | l63 | c63 | k63 | a64 | l64 | c64 | k64 | z_len | z_zip | z_tuple | z_sorted | z_set | z_dict | z_min | z_max | z_range | z_list | z_int | z_enumerate => k_is
