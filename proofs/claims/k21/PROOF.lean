import PyProof.Rows.All
import Wide.All
import OpenK.AllK
import Wide.FinOn
import Lean
import PyProof.EqAt
import PyProof.EqKinds
import PyProof.TupleCall
import PyProof.NeData
import KE.KIntText
import PyProof.StrLawsIn
import PyProof.StrLawsIdx
import Wide.Seal
import PyProof.ListMulRoad
import PyProof.CallStr
import PyProof.EnumMake
import PyProof.Draws
import PySem.Challenge.RW_ledpast_k21_plans_there_and_back
set_option maxHeartbeats 8000000
set_option Elab.async false
set_option linter.all false
set_option maxRecDepth 100000
namespace L2
open PySem PySem.Spec PyProof.Rows
abbrev Key:=Sum Int Str
def pJ:Key->Value->Bool
 | .inl k,v=>Value.isInt k v
 | .inr x,v=>Value.isStrOf x v
def tR (w:World):Key->Int
 | .inl k=>hashInt k
 | .inr x=>hashStr w x
theorem bF:∀ {k:Key} {v:Value},pJ k v=true->(∃ i t,k=Sum.inl i/\v=Value.int i t)\/(∃ x t,k=Sum.inr x/\v=Value.str x t)
 | .inl i,v,h=>by
  obtain⟨t,e⟩:=Value.isInt_shape (k:=i) (v:=v) h
  exact .inl ⟨i,t,rfl,e⟩
 | .inr x,v,h=>by
  obtain⟨t,e⟩:=Value.isStrOf_shape (x:=x) (v:=v) h
  exact .inr ⟨x,t,rfl,e⟩
theorem qZ (a b:Int):decide ((Sum.inl a:Key)=Sum.inl b)=(a == b):=by
 by_cases e:a=b
 ·subst e;simp
 ·have h:¬ (Sum.inl a:Key)=Sum.inl b:=fun q=>e (Sum.inl.inj q)
  rw [decide_eq_false h]
  exact (beq_eq_false_iff_ne.mpr e).symm
theorem q8 (a b:Str):decide ((Sum.inr a:Key)=Sum.inr b)=decide (a=b):=by
 by_cases e:a=b
 ·subst e;simp
 ·have h:¬ (Sum.inr a:Key)=Sum.inr b:=fun q=>e (Sum.inr.inj q)
  rw [decide_eq_false h,decide_eq_false e]
theorem q9 (a:Int) (b:Str):decide ((Sum.inl a:Key)=Sum.inr b)=false:=decide_eq_false (fun q=>nomatch q)
theorem rf (a:Str) (b:Int):decide ((Sum.inr a:Key)=Sum.inl b)=false:=decide_eq_false (fun q=>nomatch q)
def lp (prog:Program) (w:World):PySem.KeyKind prog w Key where
 is:=pJ
 hash:=tR w
 inj:=fun v a b ha hb=>by
  rcases bF ha with ⟨i,t,rfl,rfl⟩ | ⟨x,t,rfl,rfl⟩
  ·rcases bF hb with ⟨j,u,rfl,e⟩ | ⟨y,u,rfl,e⟩
   ·injection e with e1 _;rw [e1]
   ·exact nomatch e
  ·rcases bF hb with ⟨j,u,rfl,e⟩ | ⟨y,u,rfl,e⟩
   ·exact nomatch e
   ·injection e with e1 _;rw [e1]
 byValue:=fun k v h=>by
  rcases bF h with ⟨i,t,rfl,rfl⟩ | ⟨x,t,rfl,rfl⟩ <;> rfl
 pyHash:=fun hv h=>by
  rcases bF hv with ⟨i,t,rfl,rfl⟩ | ⟨x,t,rfl,rfl⟩
  ·exact wpAny_pyHash_int h
  ·exact wpAny_pyHash_str h
 eqBool:=fun hu hv h=>by
  rcases bF hu with ⟨i,t,rfl,rfl⟩ | ⟨x,t,rfl,rfl⟩
  ·rcases bF hv with ⟨j,u,rfl,rfl⟩ | ⟨y,u,rfl,rfl⟩
   ·rw [qZ] at h;exact wpAny_eqBool_int h
   ·rw [q9] at h;exact SeqAt.EqAt.int_str i t y u _ _ _ _ h
  ·rcases bF hv with ⟨j,u,rfl,rfl⟩ | ⟨y,u,rfl,rfl⟩
   ·rw [rf] at h;exact SeqAt.EqAt.str_int x t j u _ _ _ _ h
   ·rw [q8] at h;exact wpAny_eqBool_str h
 «strs»:=fun k x t v h=>by
  rcases bF h with ⟨i,u,rfl,e⟩ | ⟨y,u,rfl,e⟩
  ·exact nomatch e
  ·injection e with e1 _
   subst e1
   cases v <;> rfl
inductive V where
 | aO | bl (b:Bool) | int (i:Int) | str (x:Str) | fQ (b:Array UInt8) | jQ (b:UInt64) | ref (a:Addr) | ty (n:String)
 deriving DecidableEq
def RelV:V->Value->Prop
 | .aO,u=>u=Value.none
 | .bl b,u=>u=Value.bool b
 | .int i,u=>∃ t,u=Value.int i t
 | .str x,u=>∃ t,u=Value.str x t
 | .fQ b,u=>∃ t,u=Value.bytes b t
 | .jQ b,u=>∃ t,u=Value.float b t
 | .ref a,u=>u=Value.ref a
 | .ty n,u=>u=Value.type n
abbrev Vals:List V->List Value->Prop:=Paired RelV
theorem Vals.length {xs:List V} {us:List Value} (r:Vals xs us):xs.length=us.length:=Paired.length r
theorem Vals.get:∀ {xs:List V} {us:List Value} {i:Nat} {x:V},Vals xs us->xs[i]? = some x->∃ u,us[i]? = some u/\RelV x u
 | _,_,_,_,.nil,e=>by simp at e
 | _,_,0,_,.cons r _,e=>by simp at e;subst e;exact⟨_,rfl,r⟩
 | _,_,i+1,x,.cons _ t,e=>by
  obtain⟨u,h1,h2⟩:=Vals.get (i:=i) (x:=x) t (by simpa using e)
  exact⟨u,by simpa using h1,h2⟩
theorem Vals.set {x:V} {u:Value} (r:RelV x u):∀ {xs:List V} {us:List Value} (i:Nat),Vals xs us->Vals (xs.set i x) (us.set i u)
 | _,_,_,.nil=>.nil
 | _,_,0,.cons _ t=>.cons r t
 | _,_,i+1,.cons q t=>.cons q (Vals.set r i t)
theorem Vals.append:∀ {xs ys:List V} {us ws:List Value},Vals xs us->Vals ys ws->Vals (xs++ys) (us++ws)
 | _,_,_,_,.nil,s=>s
 | _,_,_,_,.cons r t,s=>.cons r (Vals.append t s)
theorem Vals.take:∀ {xs:List V} {us:List Value} (n:Nat),Vals xs us->Vals (xs.take n) (us.take n)
 | _,_,0,_=>.nil
 | _,_,_+1,.nil=>.nil
 | _,_,n+1,.cons r t=>.cons r (Vals.take n t)
theorem Vals.drop:∀ {xs:List V} {us:List Value} (n:Nat),Vals xs us->Vals (xs.drop n) (us.drop n)
 | _,_,0,r=>r
 | _,_,_+1,.nil=>.nil
 | _,_,n+1,.cons _ t=>Vals.drop n t
def ox:Option V->Option Value->Prop
 | some v,some u=>RelV v u
 | none,none=>True
 | _,_=>False
def KV {κ : Type}:List (κ × V)->List (κ × Value)->Prop:=Paired fun (p:κ × V) (q:κ × Value)=>p.1=q.1/\RelV p.2 q.2
def kV:Key->V
 | .inl i=>.int i
 | .inr x=>.str x
inductive HO where
 | lst (xs:List V)
 | tup (xs:List V)
 | dK (kvs:List (Key × V)) | dT (kvs:List (List Key × V))
 | set (S:Int->Bool) (n:Nat)
 | ins (C dx:Addr) (fs:List (Str × V))
 | own (x:Addr)
 | xd (fs:List (Str × V))
 | met (f x:Addr)
 | rg (lo hi:Int)
 | eI (o:Obj) (u:HO)
 | jR (ps:Array Value)
 | ext (φ : Heap->Prop)
abbrev Hp:=Addr->Option HO
def upd (H:Hp) (a:Addr) (o:HO):Hp:=fun b=>if b=a then some o else H b
theorem U {H:Hp} {a:Addr} {o:HO}:upd H a o a=some o:=by unfold upd;rw [if_pos rfl]
theorem ao {H:Hp} {a b:Addr} {o:HO} (h:b ≠ a):upd H a o b=H b:=by unfold upd;rw [if_neg h]
theorem fu {H:Hp} {a b:Addr} {o u:HO} (h:H a=some o) (h':H b=some u) (d:o ≠ u):a ≠ b:=by
 intro e;subst e;rw [h] at h';exact d (Option.some.inj h')
theorem aZ {H:Hp} {a b:Addr} {o:HO} (h:H a=some o) (h':H b=none):a ≠ b:=by
 intro e;subst e;rw [h] at h';cases h'
section
variable (P:Program) (w:World)
def bA (H:Hp) (h:Heap) (a:Addr):HO->Prop
 | .lst xs=>xs.length<=sizeLine/\∃ (its:List Value) (n:Nat),Vals xs its/\h.get? a=some { cls:=.type "list",data:=.seq its.toArray n }
 | .tup xs=>xs.length<=sizeLine/\∃ its:List Value,Vals xs its/\∃ o,h.get? a=some o/\o.cls=.type "tuple" /\ ∃ n,o.data=.seq its.toArray n/\o.dict=none
 | .dK kvs=>kvs.length<=sizeLine/\(a == sysModules)=false/\∃ vs,KV kvs vs/\h.DictOf (lp P w) a vs
 | .dT kvs=>kvs.length<=sizeLine/\(a == sysModules)=false/\∃ xs:List (List Key × Addr × Value),
   Paired (fun (p:List Key × V) (q:List Key × Addr × Value)=>p.1=q.1/\H q.2.1=some (.tup (p.1.map kV))/\RelV p.2 q.2.2) kvs xs /\
   ∃ o es ep,h.get? a=some o/\o.ExactDict/\o.data=.dict es ep/\es.toList=xs.map (entryOfKey (tupleKind (lp P w)))/\(xs.map (·.1)).Nodup
 | .set S n=>h.SetOf (intKind P w) a S n
 | .ins C dx fs=>H dx=some (.own a)/\fs.length<=1000/\dx ≠ a/\h.get? a=some (PySem.W.instObj C dx) /\
   ∃ mA,h.Ns1 dx mA/\(∀ f,ox (fs.lookup f) (mA f))/\PySem.Within mA (fs.map (·.1))
 | .own _=>∃ o,h.get? a=some o
 | .xd fs=>∃ mA,h.Ns1 a mA/\∀ f,ox (fs.lookup f) (mA f)
 | .rg lo hi=>∃ t u v,h.get? a=some { cls:=.type "range",data:=.fields #[.int lo t,.int hi u,.int 1 v] }
 | .eI o u=>h.get? a=some o/\bA H h a u
 | .jR ps=>h.get? a=some { cls:=.none,data:=.fields ps }
 | .met f x=>h.get? a=some (PySem.W.methodObj (.ref f) (.ref x))
 | .ext φ=>φ h/\(∃ o,h.get? a=some o)/\∀ h1 h2:Heap,φ h1->(∀ o,h1.get? a=some o->h2.get? a=some o)->φ h2
def bX (H:Hp) (h:Heap):Prop:=∀ a o,H a=some o->bA P w H h a o
end
section
variable {P:Program} {w:World} {H H':Hp} {h h':Heap} {a:Addr} {o:HO}
theorem bA.lt (x:bA P w H h a o):a < h.objs.size:=by
 cases o with
 | lst xs=>obtain⟨_,_,_,_,e⟩:=x;exact Heap.lt_size e
 | tup xs=>obtain⟨_,_,_,p⟩:=x;exact (let ⟨o,e,_⟩:=p;Heap.lt_size e)
 | dK kvs=>obtain⟨_,_,_,_,o,_,_,e,_⟩:=x;exact Heap.lt_size e
 | dT kvs=>obtain⟨_,_,_,_,o,_,_,e,_⟩:=x;exact Heap.lt_size e
 | set S n=>obtain⟨o,_,_,_,e,_⟩:=x;exact Heap.lt_size e
 | ins C dx fs=>obtain⟨_,_,_,e,_⟩:=x;exact Heap.lt_size e
 | own y=>obtain⟨_,e⟩:=x;exact Heap.lt_size e
 | xd fs=>obtain⟨_,⟨_,_,_,e,_⟩,_⟩:=x;exact Heap.lt_size e
 | rg lo hi=>obtain⟨_,_,_,e⟩:=x;exact Heap.lt_size e
 | eI ob u=>obtain⟨e,_⟩:=x;exact Heap.lt_size e
 | jR ps=>exact Heap.lt_size (show h.get? a=some _ from x)
 | met f y=>exact Heap.lt_size (show h.get? a=some _ from x)
 | ext φ=>obtain⟨_,⟨_,e⟩,_⟩:=x;exact Heap.lt_size e
theorem Paired.rh {α β : Type} {F G:α->β->Prop}:∀ {l₁ : List α} {l₂ : List β},Paired F l₁ l₂->(∀ a b,F a b->G a b)->Paired G l₁ l₂
 | _,_,.nil,_=>.nil
 | _,_,.cons r t,f=>.cons (f _ _ r) (Paired.rh t f)
theorem bA.iW (x:bA P w H h a o) (k:∀ b u,(b=a\/H b=some (.own a))->h.get? b=some u->h'.get? b=some u)
  (ho:∀ b,H b=some (.own a)->H' b=some (.own a)) (ht:∀ b xs,H b=some (.tup xs)->H' b=some (.tup xs)):bA P w H' h' a o:=by
 induction o with
 | lst xs=>obtain⟨z,its,n,r,e⟩:=x;exact⟨z,its,n,r,k _ _ (.inl rfl) e⟩
 | tup xs=>obtain⟨z,its,r,ob,e,c⟩:=x;exact⟨z,its,r,ob,k _ _ (.inl rfl) e,c⟩
 | dK kvs=>obtain⟨z,y,vs,r,ob,es,ep,e,c⟩:=x;exact⟨z,y,vs,r,ob,es,ep,k _ _ (.inl rfl) e,c⟩
 | dT kvs =>
  obtain⟨z,y,xs,r,ob,es,ep,e,c⟩:=x
  exact⟨z,y,xs,Paired.rh r fun p q z=>⟨z.1,ht _ _ z.2.1,z.2.2⟩,ob,es,ep,k _ _ (.inl rfl) e,c⟩
 | set S n=>obtain⟨ob,es,ep,t,e,c⟩:=x;exact⟨ob,es,ep,t,k _ _ (.inl rfl) e,c⟩
 | ins C dx fs =>
  obtain⟨d,z,ne,e,mA,⟨od,es,ep,e2,c⟩,r⟩:=x
  exact⟨ho _ d,z,ne,k _ _ (.inl rfl) e,mA,⟨od,es,ep,k _ _ (.inr d) e2,c⟩,r⟩
 | own y=>obtain⟨ob,e⟩:=x;exact⟨ob,k _ _ (.inl rfl) e⟩
 | xd fs=>obtain⟨mA,⟨od,es,ep,e,c⟩,r⟩:=x;exact⟨mA,⟨od,es,ep,k _ _ (.inl rfl) e,c⟩,r⟩
 | rg lo hi=>obtain⟨t,u,v,e⟩:=x;exact⟨t,u,v,k _ _ (.inl rfl) e⟩
 | eI ob u ih=>obtain⟨e,q⟩:=x;exact⟨k _ _ (.inl rfl) e,ih q⟩
 | jR ps =>
  have e:h.get? a=some { cls:=.none,data:=.fields ps }:=x
  show h'.get? a=some { cls:=.none,data:=.fields ps }
  exact k a _ (.inl rfl) e
 | met f y =>
  have e:h.get? a=some (PySem.W.methodObj (.ref f) (.ref y)):=x
  show h'.get? a=some (PySem.W.methodObj (.ref f) (.ref y))
  exact k a _ (.inl rfl) e
 | ext φ=>obtain⟨p,⟨o,e⟩,st⟩:=x;exact⟨st _ _ p fun o q=>k _ _ (.inl rfl) q,⟨o,k _ _ (.inl rfl) e⟩,st⟩
theorem bX.lt (x:bX P w H h) (e:H a=some o):a < h.objs.size:=(x a o e).lt
theorem bX.fresh (x:bX P w H h) (e:h.objs.size<=a):H a=none:=by
 cases q:H a with
 | none=>rfl
 | some u=>exact absurd (Nat.lt_of_lt_of_le (x.lt q) e) (Nat.lt_irrefl _)
theorem bX.kept (x:bX P w H h) (k:∀ b u,h.get? b=some u->h'.get? b=some u):bX P w H h':=fun a o e =>
 (x a o e).iW (fun b u _ q=>k b u q) (fun _ q=>q) fun _ _ q=>q
theorem bX.laid (x:bX P w H h) (k:∀ b u,h.get? b=some u->h'.get? b=some u) (hp:h.objs.size<=a) (new:bA P w (upd H a o) h' a o):bX P w (upd H a o) h':=fun b u e=>by
 have hn:=x.fresh hp
 by_cases hb:b=a
 ·subst hb;rw [U] at e;cases e;exact new
 ·rw [ao hb] at e
  exact (x b u e).iW (fun c v _ q=>k c v q) (fun c q=>by rw [ao (aZ q hn)];exact q) fun c xs q=>by rw [ao (aZ q hn)];exact q
end
def Rd (H:Hp) (a:Addr) (u:HO):Prop:=H a=some u\/∃ o,H a=some (.eI o u)
theorem Rd.ok {P:Program} {w:World} {H:Hp} {h:Heap} {a:Addr} {u:HO} (r:Rd H a u) (x:bX P w H h):bA P w H h a u:=by
 rcases r with r | ⟨o,r⟩
 ·exact x a u r
 ·obtain⟨_,q⟩:=x a _ r
  exact q
def pK:Option HO->Prop
 | some (.lst _)=>True
 | some (.dK _)=>True
 | some (.dT _)=>True
 | some (.set _ _)=>True
 | some (.ins _ _ _)=>True
 | some (.ext _)=>True
 | _=>False
section
variable {P:Program} {w:World} {H:Hp} {h h':Heap} {x e:Addr} {o':HO}
theorem bX.write (ok:bX P w H h) (mu:pK (H x)) (he:e=x\/H e=some (.own x)) (k:∀ b u,b ≠ e->h.get? b=some u->h'.get? b=some u) (heo:∃ u,h'.get? e=some u)
  (new:bA P w (upd H x o') h' x o'):bX P w (upd H x o') h':=fun b u q=>by
 have nown:∀ c y,H c=some (.own y)->c ≠ x:=fun c y r z=>by subst z;rw [r] at mu;exact mu
 have ntup:∀ c xs,H c=some (.tup xs)->c ≠ x:=fun c xs r z=>by subst z;rw [r] at mu;exact mu
 by_cases hb:b=x
 ·subst hb;rw [U] at q;cases q;exact new
 ·rw [ao hb] at q
  by_cases hbe:b=e
  ·have q':H b=some (.own x):=by
    rcases he with z | z
    ·exact absurd (hbe.trans z) hb
    ·rw [hbe];exact z
   rw [q] at q';cases q'
   obtain⟨v,hv⟩:=heo
   exact⟨v,by rw [hbe];exact hv⟩
  ·refine (ok b u q).iW (fun c v hc r=>k c v ?_ r) (fun c r=>by rw [ao (nown c b r)];exact r) fun c xs r=>by rw [ao (ntup c xs r)];exact r
   rcases hc with rfl | hc
   ·exact hbe
   ·rintro rfl
    rcases he with z | z
    ·exact nown c b hc z
    ·rw [hc] at z;cases z;exact hb rfl
end
structure Un (fs ex:List Addr) (H H':Hp) (h h':Heap):Prop where
 keep:∀ b o,h.get? b=some o->H b=none->b ∉ fs->b ∉ ex->h'.get? b=some o
 slot:∀ b o,h.get? b=some o->H b=none->b ∈ fs->b ∉ ex->∃ sl,h'.get? b=some { o with slots:=sl }
 free:∀ b o,h.get? b=some o->H b=none->b ∉ ex->H' b=none
 there:∀ b o,h.get? b=some o->b ∉ ex->∃ o',h'.get? b=some o'
 bR:∀ b xs,H b=some (.tup xs)->H' b=some (.tup xs)
 fv:∀ b o u,H b=some (.eI o u)->H' b=some (.eI o u)
 fW:∀ b ps,H b=some (.jR ps)->∃ more,H' b=some (.jR (ps++more))
section
variable {fs fs' ex ex':List Addr} {H H1 H2:Hp} {h h1 h2 h':Heap} {a x e:Addr} {o:HO}
theorem Un.any (u:Un fs ex H H1 h h1) {b:Addr} {ob:Obj} (q:h.get? b=some ob) (n:H b=none) (hx:b ∉ ex):∃ sl,h1.get? b=some { ob with slots:=sl }:=by
 by_cases hb:b ∈ fs
 ·exact u.slot b ob q n hb hx
 ·exact⟨ob.slots,u.keep b ob q n hb hx⟩
theorem Un.kept (k:∀ b u,h.get? b=some u->h'.get? b=some u):Un fs ex H H h h' :=
 ⟨fun b ob q _ _ _=>k b ob q,fun b ob q _ _ _=>⟨ob.slots,k b ob q⟩,fun _ _ _ n _=>n,fun b ob q _=>⟨ob,k b ob q⟩,fun _ _ q=>q,fun _ _ _ q=>q,fun _ ps q=>⟨#[],by rw [q];simp⟩⟩
theorem Un.refl:Un fs ex H H h h:=Un.kept fun _ _ q=>q
theorem Un.laid (k:∀ b u,h.get? b=some u->h'.get? b=some u) (hp:h.objs.size<=a) (hn:H a=none):Un fs ex H (upd H a o) h h' where
 keep:=fun b u q _ _ _=>k b u q
 slot:=fun b u q _ _ _=>⟨u.slots,k b u q⟩
 free:=fun b u q n _=>by rw [ao (Nat.ne_of_lt (Nat.lt_of_lt_of_le (Heap.lt_size q) hp))];exact n
 there:=fun b u q _=>⟨u,k b u q⟩
 bR:=fun b xs q=>by rw [ao (aZ q hn)];exact q
 fv:=fun b u xs q=>by rw [ao (aZ q hn)];exact q
 fW:=fun b ps q=>⟨#[],by rw [ao (aZ q hn),q];simp⟩
theorem Un.write (mu:pK (H x)) (he:e=x\/H e=some (.own x)) (k:∀ b u,b ≠ e->h.get? b=some u->h'.get? b=some u) (heo:∃ u,h'.get? e=some u):Un fs ex H (upd H x o) h h':=by
  have hx:∀ b,H b=none->b ≠ x:=fun b n z=>by subst z;rw [n] at mu;exact mu
  have hb:∀ b,H b=none->b ≠ e:=fun b n z=>by
    subst z
    rcases he with r | r
    · exact hx b n r
    · rw [n] at r;cases r
  have hm:∀ b u,H b=some u->¬ pK (some u)->b ≠ x:=fun b u q nm z=>by subst z;rw [q] at mu;exact nm mu
  refine⟨fun b u q n _ _=>k b u (hb b n) q,fun b u q n _ _=>⟨u.slots,k b u (hb b n) q⟩,fun b u q n _=>by rw [ao (hx b n)];exact n,fun b u q _=>?_,
    fun b xs q=>by rw [ao (hm b _ q fun z=>z)];exact q,fun b u xs q=>by rw [ao (hm b _ q fun z=>z)];exact q,fun b ps q=>⟨#[],by rw [ao (hm b _ q fun z=>z),q];simp⟩⟩
  by_cases hbe:b=e
  · subst hbe;exact heo
  · exact⟨u,k b u hbe q⟩
end
def pL (h:Heap) (H:Hp):List Addr:=(List.range h.objs.size).filter fun a=>(H a).isSome
def fw (h:Heap) (H:Hp):Heap:=PySem.W.hideAll h (pL h H)
theorem m3 (h:Heap) (H:Hp):(fw h H).objs.size=h.objs.size:=PySem.W.hideAll_size _ _
theorem oy {h:Heap} {H:Hp} {b:Addr} {o:Obj} (e:h.get? b=some o) (n:H b=none):(fw h H).get? b=some o :=
 PySem.W.hideAll_get _ e fun hm=>by
  have q:(H b).isSome=true:=(List.mem_filter.mp hm).2
  rw [n] at q;simp at q
theorem qe {h:Heap} {H:Hp} {b:Addr} {o:Obj} (e:(fw h H).get? b=some o):h.get? b=some o/\H b=none:=by
 have e':h.get? b=some o:=PySem.W.of_hideAll (pL h H) e
 refine⟨e',?_⟩
 cases q:H b with
 | none=>rfl
 | some x =>
  have hm:b ∈ pL h H:=List.mem_filter.mpr ⟨List.mem_range.mpr (Heap.lt_size e'),by simp [q]⟩
  have z:(fw h H).get? b=none:=PySem.W.hideAll_none (pL h H) hm
  rw [z] at e;cases e
def qf (g h:Heap) (L:Addr):List (Addr × Obj):=(List.range h.objs.size).filterMap fun a=>if a=L\/(g.get? a).isSome=true then none else (h.get? a).map fun o=>(a,o)
def rest (g h:Heap) (L d:Addr):List (Addr × Obj):=(qf g h L).filter fun p=>decide (p.1 ≠ d)
structure Mod (K:PySem.W.Frag) (mg:Str->Option Value) (base:Heap):Prop where
 rl:K.In base
 glob:base.Ns mainGlobals mg
 blt:∃ mb,base.Ns builtinsNs mb/\∀ x:Str,x ≠ "__name__" -> mb x=bootBuiltins x
 nolimit:base.NoLimit
structure Cx where
 prog:Program
 w:World
 K:PySem.W.Frag
 mg:Str->Option Value
 base:Heap
 A:Around
 N:List Str
 bO:Shared
 jS:Hp
 env:Env
 outer:List Env
 stack:List Env
 ex:List Addr
 fn:Str->Bool
 calm:Bool
 pn:List (Addr × Obj)
 xe:Value->Shared->Prop
def fX (l:List Env):List Addr:=l.filterMap (·.frame)
abbrev Cx.fs (X:Cx):List Addr:=fX X.outer
def rm (sc:Scope) (x:Str):Prop:=sc.names.lookup x=some .local\/sc.names.lookup x=some .cell\/sc.names.lookup x=some .free
def Loc (sc:Scope) (x:Str):Prop:=sc.names.lookup x=some .local\/sc.names.lookup x=some .cell
def Look (env:Env) (h:Heap) (m:Str->Option Value) (x:Str) (u:Value):Prop :=
 (env.kindOf x=some .local/\m x=some u)\/((env.kindOf x=some .cell\/env.kindOf x=some .free)/\∃ c,env.cells.lookup x=some c/\h.IsCell c (some u))
structure Cx.Ok (X:Cx):Prop where
 mod:Mod X.K X.mg X.base
 kind:X.env.scope.kind=.function
 glob:X.env.globals=mainGlobals
 blt:X.env.builtins=builtinsNs
 above:X.bO.heap.objs.size<=X.env.locals
 inj:∀ x y c,X.env.cells.lookup x=some c->X.env.cells.lookup y=some c->x=y
 has:∀ x,(X.env.kindOf x=some .cell\/X.env.kindOf x=some .free)->∃ c,X.env.cells.lookup x=some c
 m4:∀ x c,X.fn x=true->X.env.cells.lookup x=some c->X.bO.heap.objs.size<=c
 hd:X.calm=true->X.A.handled=none
 frames:X.A.frames=some X.stack
 pM:X.stack=X.outer\/(X.stack=X.env :: X.outer/\X.env.frame=some X.env.locals)
 tH:∀ b ∈ X.ex,b ≠ X.env.locals/\∀ x c,X.env.cells.lookup x=some c->c ≠ b
 bs:∀ b o,X.base.get? b=some o->X.bO.heap.get? b=some o/\X.jS b=none
 jc:X.base.objs.size<=X.bO.heap.objs.size
 jT:∀ b o,X.base.get? b=some o->b ∉ X.ex
 mv:∀ b ∈ X.ex,b ∉ X.fs
 dW:X.bO.heap.FunFrames X.base X.outer
 lq:∀ b ∈ X.fs,X.jS b=none
structure Inv (X:Cx) (pins:List (Addr × Obj)) (σ : List (Option V)) (H:Hp) (s:Shared):Prop where
 ok:X.Ok
 os:s.os=X.bO.os
 bare:AllBare s.gens
 base:Un X.fs X.ex X.jS H X.bO.heap s.heap
 loc:∃ m,s.heap.Ns X.env.locals m/\∀ (i:Nat) (x:Str) (v:V),X.N[i]? = some x->σ[i]? = some (some v)->rm X.env.scope x->∃ u,RelV v u/\Look X.env s.heap m x u
 cell:∀ x c,X.env.cells.lookup x=some c->∃ v,s.heap.IsCell c v
 free:H X.env.locals=none
 cP:∀ x c,X.env.cells.lookup x=some c->H c=none
 pin:∀ p ∈ X.pn++pins,s.heap.get? p.1=some p.2/\H p.1=none/\p.1 ≠ X.env.locals/\p.1 ∉ X.fs/\∀ v,p.2.data ≠ .cell v
 ai:bX X.prog X.w H s.heap
 len:σ.length=X.N.length
section
variable {X:Cx} {pins:List (Addr × Obj)} {σ : List (Option V)} {H H':Hp} {s:Shared} {h':Heap}
theorem Cx.Ok.tS (ok:X.Ok) {b:Addr} {o:Obj} (e:X.base.get? b=some o):b ∉ X.fs:=fun hb=>by
 have:=(ok.dW.mem hb).1
 rw [e] at this;cases this
theorem Inv.bs (I:Inv X pins σ H s):∀ b o,X.base.get? b=some o->s.heap.get? b=some o/\H b=none:=fun b o e =>
 ⟨I.base.keep b o (I.ok.bs b o e).1 (I.ok.bs b o e).2 (I.ok.tS e) (I.ok.jT b o e),I.base.free b o (I.ok.bs b o e).1 (I.ok.bs b o e).2 (I.ok.jT b o e)⟩
theorem Inv.bk (I:Inv X pins σ H s):∀ b o,X.base.get? b=some o->s.heap.get? b=some o:=fun b o e=>(I.bs b o e).1
theorem Inv.mod (I:Inv X pins σ H s):Mod X.K X.mg X.base:=I.ok.mod
theorem Inv.cQ (I:Inv X pins σ H s):X.K.In s.heap:=I.ok.mod.rl.keeps I.bk
theorem Inv.lt (I:Inv X pins σ H s):X.env.locals < s.heap.objs.size:=let ⟨_,hn,_⟩:=I.loc;hn.lt
theorem Inv.sz (I:Inv X pins σ H s):X.bO.heap.objs.size<=s.heap.objs.size:=Nat.le_trans I.ok.above (Nat.le_of_lt I.lt)
theorem Inv.tT (I:Inv X pins σ H s) {a:Addr} (h:s.heap.objs.size<=a):a ∉ X.fs:=fun hb=>by
 obtain⟨_,o,ho,_⟩:=I.ok.dW.mem hb
 exact absurd (Nat.lt_of_lt_of_le (Heap.lt_size ho) (Nat.le_trans I.sz h)) (Nat.lt_irrefl _)
theorem Inv.jU (I:Inv X pins σ H s):∀ x c,X.env.cells.lookup x=some c->c ≠ X.env.locals:=fun x c e z=>by
 obtain⟨v,o,ho,hd⟩:=I.cell x c e
 obtain⟨m,⟨o',es,ep,ho',hd',_⟩,_⟩:=I.loc
 rw [z,ho'] at ho;cases ho;rw [hd'] at hd;cases hd
theorem Inv.dW (I:Inv X pins σ H s):s.heap.FunFrames X.base X.outer:=by
 have all:∀ (l:List Env),(∀ b ∈ fX l,b ∈ X.fs)->X.bO.heap.FunFrames X.base l->s.heap.FunFrames X.base l:=by
  intro l
  induction l with
  | nil=>intro _ _;trivial
  | cons env r ih =>
   intro hs hl
   obtain⟨hk,⟨L,o,hf,hn,ho,hd⟩,hr⟩:=hl
   have hL:L ∈ X.fs:=hs L (by unfold fX;rw [List.filterMap_cons,hf];exact List.mem_cons_self)
   obtain⟨sl,e⟩:=I.base.slot L o ho (I.ok.lq L hL) hL fun z=>I.ok.mv L z hL
   exact⟨hk,⟨L,_,hf,hn,e,hd⟩,ih (fun b hb=>hs b (by unfold fX;rw [List.filterMap_cons,hf];exact List.mem_cons_of_mem _ hb)) hr⟩
 exact all X.outer (fun _ hb=>hb) I.ok.dW
theorem Inv.stack (I:Inv X pins σ H s):s.heap.FunFrames X.base X.stack:=by
 rcases I.ok.pM with e | ⟨e,hf⟩
 ·rw [e];exact I.dW
 ·rw [e]
  obtain⟨m,hn,_⟩:=I.loc
  refine .cons (by rw [I.ok.kind];decide) hf hn ?_ I.dW
  exact Heap.get?_none_of_le (Nat.le_trans I.ok.jc I.ok.above)
theorem Inv.ir (I:Inv X pins σ H s):∀ b ∈ fX X.stack,b ∈ X.env.locals :: X.fs:=fun b hb=>by
 rcases I.ok.pM with e | ⟨e,hf⟩
 ·rw [e] at hb;exact List.mem_cons_of_mem _ hb
 ·rw [e] at hb
  unfold fX at hb
  rw [List.filterMap_cons,hf] at hb
  exact hb
theorem Inv.lr (I:Inv X pins σ H s):∀ b ∈ fX X.stack,H b=none:=fun b hb=>by
 rcases List.mem_cons.mp (I.ir b hb) with e | hb
 ·rw [e];exact I.free
 ·obtain⟨_,o,ho,_⟩:=I.ok.dW.mem hb
  exact I.base.free b o ho (I.ok.lq b hb) fun z=>I.ok.mv b z hb
theorem Inv.step {g':Array GenState} {t':Nat} {d':Drawn} {ch:List Addr} (I:Inv X pins σ H s)
  (hch:∀ b ∈ ch,(b ∈ X.ex\/X.bO.heap.objs.size<=b)/\b ≠ X.env.locals/\(∀ x c,X.env.cells.lookup x=some c->c ≠ b)/\∀ p ∈ X.pn++pins,p.1 ≠ b)
  (keep:∀ b o,b ≠ X.env.locals->b ∉ X.fs->b ∉ ch->s.heap.get? b=some o->H b=none->h'.get? b=some o)
  (slot:∀ b o,b ≠ X.env.locals->b ∈ X.fs->b ∉ ch->s.heap.get? b=some o->H b=none->∃ sl,h'.get? b=some { o with slots:=sl }) (free:∀ b o,b ∉ ch->s.heap.get? b=some o->H b=none->H' b=none)
  (there:∀ b o,b ∉ ch->s.heap.get? b=some o->∃ o',h'.get? b=some o')
  (bR:∀ b xs,H b=some (.tup xs)->H' b=some (.tup xs)) (fv:∀ b o u,H b=some (.eI o u)->H' b=some (.eI o u)) (fW:∀ b ps,H b=some (.jR ps)->∃ more,H' b=some (.jR (ps++more)))
  (ns:∀ m,s.heap.Ns X.env.locals m->h'.Ns X.env.locals m) (ai:bX X.prog X.w H' h') (hg:AllBare g') :
  Inv X pins σ H' { s with heap:=h',gens:=g',drawn:=d',toks:=t' }:=by
 have neL:∀ b o,X.bO.heap.get? b=some o->b ≠ X.env.locals:=fun b o e=>Nat.ne_of_lt (Nat.lt_of_lt_of_le (Heap.lt_size e) I.ok.above)
 have neC:∀ b o,X.bO.heap.get? b=some o->b ∉ X.ex->b ∉ ch:=fun b o e hx hb=>by
  rcases (hch b hb).1 with z | z
  ·exact hx z
  ·exact absurd (Nat.lt_of_lt_of_le (Heap.lt_size e) z) (Nat.lt_irrefl _)
 have cellK:∀ x c,X.env.cells.lookup x=some c->∀ v,s.heap.IsCell c v->h'.IsCell c v:=fun x c e v ⟨o,ho,hd⟩=>by
  have nch:c ∉ ch:=fun z=>(hch c z).2.2.1 x c e rfl
  by_cases hc:c ∈ X.fs
  ·obtain⟨sl,q⟩:=slot c o (I.jU x c e) hc nch ho (I.cP x c e)
   exact⟨_,q,hd⟩
  ·exact⟨o,keep c o (I.jU x c e) hc nch ho (I.cP x c e),hd⟩
 refine⟨I.ok,I.os,hg,⟨fun b o e n hb hx=>?_,fun b o e n hb hx=>?_,fun b o e n hx=>?_,fun b o e hx=>?_,fun b xs e=>bR b xs (I.base.bR b xs e),fun b o xs e=>fv b o xs (I.base.fv b o xs e),fun b ps e=>?_⟩,?_,fun x c e=>?_,?_,fun x c e=>?_,fun p hp=>?_,ai,I.len⟩
 ·exact keep b o (neL b o e) hb (neC b o e hx) (I.base.keep b o e n hb hx) (I.base.free b o e n hx)
 ·obtain⟨sl,e1⟩:=I.base.slot b o e n hb hx
  obtain⟨sl',e2⟩:=slot b _ (neL b o e) hb (neC b o e hx) e1 (I.base.free b o e n hx)
  exact⟨sl',e2⟩
 ·obtain⟨o',e1⟩:=I.base.there b o e hx
  exact free b o' (neC b o e hx) e1 (I.base.free b o e n hx)
 ·obtain⟨o',e1⟩:=I.base.there b o e hx
  exact there b o' (neC b o e hx) e1
 ·obtain⟨m1,e1⟩:=I.base.fW b ps e
  obtain⟨m2,e2⟩:=fW b _ e1
  exact⟨m1++m2,by rw [e2,Array.append_assoc]⟩
 ·obtain⟨m,hn,hl⟩:=I.loc
  refine⟨m,ns m hn,fun i x v e1 e2 e3=>?_⟩
  obtain⟨u,r,l⟩:=hl i x v e1 e2 e3
  refine⟨u,r,?_⟩
  rcases l with l | ⟨k,c,e,z⟩
  ·exact .inl l
  ·exact .inr ⟨k,c,e,cellK x c e _ z⟩
 ·obtain⟨v,z⟩:=I.cell x c e
  exact⟨v,cellK x c e v z⟩
 ·obtain⟨m,⟨o,_,_,ho,_⟩,_⟩:=I.loc
  exact free _ o (fun z=>(hch _ z).2.1 rfl) ho I.free
 ·obtain⟨v,o,ho,hd⟩:=I.cell x c e
  exact free c o (fun z=>(hch c z).2.2.1 x c e rfl) ho (I.cP x c e)
 ·obtain⟨e,n,ne,nf,d⟩:=I.pin p hp
  have nch:p.1 ∉ ch:=fun z=>(hch p.1 z).2.2.2 p hp rfl
  exact⟨keep p.1 p.2 ne nf nch e n,free p.1 p.2 nch e n,ne,nf,d⟩
theorem Inv.un {t':Nat} (I:Inv X pins σ H s) (u:Un X.fs [] H H' s.heap h') (ai:bX X.prog X.w H' h'):Inv X pins σ H' { s with heap:=h',toks:=t' }:=by
  obtain⟨m,⟨o,es,ep,ho,r⟩,_⟩:=id I.loc
  obtain⟨sl,hL⟩:=u.any ho I.free (by simp)
  exact I.step (g':=s.gens) (d':=s.drawn) (ch:=[]) (fun _ z=>nomatch z) (fun b o _ hb _ e n=>u.keep b o e n hb (by simp)) (fun b o _ hb _ e n=>u.slot b o e n hb (by simp)) (fun b o _ e n=>u.free b o e n (by simp)) (fun b o _ e=>u.there b o e (by simp)) u.bR u.fv u.fW (fun m' hm=>by
    obtain⟨o',es',ep',ho',r'⟩:=hm
    rw [ho] at ho';cases ho'
    exact⟨_,es',ep',hL,r'⟩) ai I.bare
theorem Inv.call {g':Array GenState} {t':Nat} {d':Drawn} {ch:List Addr} (I:Inv X pins σ H s) (u:Un (fX X.stack) ch H H' s.heap h') (ai:bX X.prog X.w H' h') (hg:AllBare g')
  (hch:∀ b ∈ ch,(b ∈ X.ex\/X.bO.heap.objs.size<=b)/\b ≠ X.env.locals/\(∀ x c,X.env.cells.lookup x=some c->c ≠ b)/\∀ p ∈ X.pn++pins,p.1 ≠ b) :
  Inv X pins σ H' { s with heap:=h',gens:=g',drawn:=d',toks:=t' }:=by
 obtain⟨m,⟨o,es,ep,ho,r⟩,_⟩:=id I.loc
 obtain⟨sl,hL⟩:=u.any ho I.free fun z=>(hch _ z).2.1 rfl
 exact I.step (ch:=ch) hch (fun b o hL hb hc e n=>u.keep b o e n (fun z=>(List.mem_cons.mp (I.ir b z)).elim hL hb) hc) (fun b o _ _ hc e n=>u.any e n hc) (fun b o hc e n=>u.free b o e n hc) (fun b o hc e=>u.there b o e hc) u.bR u.fv u.fW (fun m' hm=>by
  obtain⟨o',es',ep',ho',r'⟩:=hm
  rw [ho] at ho';cases ho'
  exact⟨_,es',ep',hL,r'⟩) ai hg
theorem Inv.turned {t':Nat} {it:Addr} (I:Inv X pins σ H s) (k:∀ b o,b ≠ it->s.heap.get? b=some o->h'.get? b=some o) (hn:H it=none) (hL:it ≠ X.env.locals)
  (h1:it ∈ X.ex\/X.bO.heap.objs.size<=it) (h2:∀ x c,X.env.cells.lookup x=some c->c ≠ it) (h3:∀ p ∈ X.pn++pins,p.1 ≠ it):Inv X pins σ H { s with heap:=h',toks:=t' }:=by
 have nit:∀ b u,H b=some u->b ≠ it:=fun b u e z=>by rw [z,hn] at e;cases e
 refine I.step (g':=s.gens) (d':=s.drawn) (ch:=[it]) (fun b hb=>?_) (fun b o _ _ hc e _=>k b o (fun z=>hc (by simp [z])) e) (fun b o _ _ hc e _=>⟨o.slots,k b o (fun z=>hc (by simp [z])) e⟩) (fun _ _ _ _ n=>n)
  (fun b o hc e=>⟨o,k b o (fun z=>hc (by simp [z])) e⟩) (fun _ _ e=>e) (fun _ _ _ e=>e) (fun b ps e=>⟨#[],by rw [e];simp⟩) (fun m hm=>?_) (fun b u e=>?_) I.bare
 ·have e:b=it:=by simpa using hb
  subst e
  exact⟨h1,hL,h2,h3⟩
 ·obtain⟨o,es,ep,ho,r⟩:=hm
  exact⟨o,es,ep,k _ o (Ne.symm hL) ho,r⟩
 ·refine (I.ai b u e).iW (fun c v hc q=>k c v ?_ q) (fun _ q=>q) fun _ _ q=>q
  rcases hc with z | z
  ·rw [z];exact nit b u e
  ·exact nit c _ z
theorem Inv.tok (I:Inv X pins σ H s) (t:Nat):Inv X pins σ H { s with toks:=t }:=I.un (h':=s.heap) (t':=t) Un.refl I.ai
theorem Inv.kept {t':Nat} (I:Inv X pins σ H s) (k:∀ b u,s.heap.get? b=some u->h'.get? b=some u):Inv X pins σ H { s with heap:=h',toks:=t' }:=I.un (Un.kept k) (I.ai.kept k)
theorem Inv.laid {a:Addr} {o:HO} {t':Nat} (I:Inv X pins σ H s) (k:∀ b u,s.heap.get? b=some u->h'.get? b=some u) (hp:s.heap.objs.size<=a) (new:bA X.prog X.w (upd H a o) h' a o) :
  Inv X pins σ (upd H a o) { s with heap:=h',toks:=t' }:=I.un (Un.laid k hp (I.ai.fresh hp)) (I.ai.laid k hp new)
theorem Inv.write {x e:Addr} {o:HO} {t':Nat} (I:Inv X pins σ H s) (mu:pK (H x)) (he:e=x\/H e=some (.own x)) (k:∀ b u,b ≠ e->s.heap.get? b=some u->h'.get? b=some u) (heo:∃ u,h'.get? e=some u)
  (new:bA X.prog X.w (upd H x o) h' x o):Inv X pins σ (upd H x o) { s with heap:=h',toks:=t' }:=I.un (Un.write mu he k heo) (I.ai.write mu he k heo new)
theorem Inv.lu {pins':List (Addr × Obj)} (I:Inv X pins σ H s) (h:∀ p ∈ pins',s.heap.get? p.1=some p.2/\H p.1=none/\p.1 ≠ X.env.locals/\p.1 ∉ X.fs/\∀ v,p.2.data ≠ .cell v):Inv X pins' σ H s :=
 ⟨I.ok,I.os,I.bare,I.base,I.loc,I.cell,I.free,I.cP,fun p hp=>(List.mem_append.mp hp).elim (fun z=>I.pin p (List.mem_append_left _ z)) (h p),I.ai,I.len⟩
theorem jV {N:List Str} (hN:N.Nodup) {i j:Nat} {x:Str} (a:N[i]? = some x) (b:N[j]? = some x):i=j:=by
 obtain⟨h1,e1⟩:=List.getElem?_eq_some_iff.mp a
 obtain⟨h2,e2⟩:=List.getElem?_eq_some_iff.mp b
 exact (List.getElem_inj hN).mp (e1.trans e2.symm)
theorem jd {M:Model} {A:Around} {E:Value->Shared->Prop} {i:Nat} {x:Str} {v:V} {u:Value} {Q:Unit->Shared->Prop} (I:Inv X pins σ H s) (hN:X.N.Nodup) (hi:X.N[i]? = some x) (hx:Loc X.env.scope x) (r:RelV v u)
  (h:∀ s',Inv X pins (σ.set i (some v)) H s'->(∃ a,Heap.SameBut a s.heap s'.heap/\(a=X.env.locals\/X.env.cells.lookup x=some a))->Q () s') (hf:X.fn x=true\/X.env.scope.names.lookup x=some .local:=by first | exact .inl rfl | exact .inr rfl | assumption):wpAny M A (storeName X.env x u) Q E s:=by
 obtain⟨m,hn,hl⟩:=id I.loc
 have hcls:(X.env.scope.kind == .class || (X.env.scope.kind == .module && X.env.locals != X.env.globals))=false:=by rw [I.ok.kind];rfl
 have hiσ : i < σ.length:=by rw [I.len];exact (List.getElem?_eq_some_iff.mp hi).1
 have jU:=I.jU
 have tracked:∀ {a:Addr} {h':Heap},(∃ o,s.heap.get? a=some o/\H a=none)->Heap.SameBut a s.heap h'->bX X.prog X.w H h':=fun {a h'} ha hs b ob e=>by
  obtain⟨_,_,hfree⟩:=ha
  refine (I.ai b ob e).iW (fun c w' hc q=>(hs.2 c ?_).trans q) (fun _ q=>q) fun _ _ q=>q
  rintro rfl
  rcases hc with rfl | hc
  ·rw [hfree] at e;cases e
  ·rw [hfree] at hc;cases hc
 rcases hx with hk | hk
 ·refine wpAny_storeName_local hk hn (fun h' hn' hs=>?_) hcls
  obtain⟨oL,_,_,hoL,_⟩:=id hn
  refine h _ ⟨I.ok,I.os,I.bare,⟨fun b o e n hb hx=>?_,fun b o e n hb hx=>?_,I.base.free,fun b o e hx=>?_,I.base.bR,I.base.fv,I.base.fW⟩,⟨_,hn',fun j y v' e1 e2 e3=>?_⟩,fun y c e=>?_,I.free,I.cP,fun p hp=>?_,tracked ⟨oL,hoL,I.free⟩ hs,by simpa using I.len⟩ ⟨_,hs,.inl rfl⟩
  ·exact (hs.2 b (Nat.ne_of_lt (Nat.lt_of_lt_of_le (Heap.lt_size e) I.ok.above))).trans (I.base.keep b o e n hb hx)
  ·obtain⟨sl,e1⟩:=I.base.slot b o e n hb hx
   exact⟨sl,(hs.2 b (Nat.ne_of_lt (Nat.lt_of_lt_of_le (Heap.lt_size e) I.ok.above))).trans e1⟩
  ·obtain⟨o',e1⟩:=I.base.there b o e hx
   exact⟨o',(hs.2 b (Nat.ne_of_lt (Nat.lt_of_lt_of_le (Heap.lt_size e) I.ok.above))).trans e1⟩
  ·by_cases hj:j=i
   ·subst hj
    rw [hi] at e1;cases e1
    rw [List.getElem?_set_self hiσ] at e2
    cases e2
    exact⟨u,r,.inl ⟨hk,by simp⟩⟩
   ·rw [List.getElem?_set_ne (Ne.symm hj)] at e2
    obtain⟨u',r',q⟩:=hl j y v' e1 e2 e3
    refine⟨u',r',?_⟩
    rcases q with ⟨k,e⟩ | ⟨k,c,e,z⟩
    ·refine .inl ⟨k,?_⟩
     have:y ≠ x:=fun e=>hj (jV hN e1 (e ▸ hi))
     simp [this,e]
    ·exact .inr ⟨k,c,e,z.sameBut hs (jU y c e)⟩
  ·obtain⟨w',z⟩:=I.cell y c e
   exact⟨w',z.sameBut hs (jU y c e)⟩
  ·obtain⟨e,n,ne,nf,d⟩:=I.pin p hp
   exact⟨(hs.2 p.1 ne).trans e,n,ne,nf,d⟩
 ·have hfn:X.fn x=true:=by
   rcases hf with z | z
   ·exact z
   ·rw [z] at hk;cases hk
  obtain⟨c,hc⟩:=I.ok.has x (.inl hk)
  obtain⟨w',z⟩:=I.cell x c hc
  refine wpAny_storeName_cell I.ok.kind hk hc z (fun h' hc' hs=>?_)
  obtain⟨oc,hoc,hocd⟩:=id z
  refine h { s with heap:=h' } ⟨I.ok,I.os,I.bare,⟨fun b o e n hb hx=>?_,fun b o e n hb hx=>?_,I.base.free,fun b o e hx=>?_,I.base.bR,I.base.fv,I.base.fW⟩,⟨m,hn.sameBut hs (Ne.symm (jU x c hc)),fun j y v' e1 e2 e3=>?_⟩,fun y c' e=>?_,I.free,I.cP,fun p hp=>?_,tracked ⟨oc,hoc,I.cP x c hc⟩ hs,by simpa using I.len⟩ ⟨c,hs,.inr hc⟩
  ·exact (hs.2 b (Nat.ne_of_lt (Nat.lt_of_lt_of_le (Heap.lt_size e) (I.ok.m4 x c hfn hc)))).trans (I.base.keep b o e n hb hx)
  ·obtain⟨sl,e1⟩:=I.base.slot b o e n hb hx
   exact⟨sl,(hs.2 b (Nat.ne_of_lt (Nat.lt_of_lt_of_le (Heap.lt_size e) (I.ok.m4 x c hfn hc)))).trans e1⟩
  ·obtain⟨o',e1⟩:=I.base.there b o e hx
   exact⟨o',(hs.2 b (Nat.ne_of_lt (Nat.lt_of_lt_of_le (Heap.lt_size e) (I.ok.m4 x c hfn hc)))).trans e1⟩
  ·by_cases hj:j=i
   ·subst hj
    rw [hi] at e1;cases e1
    rw [List.getElem?_set_self hiσ] at e2
    cases e2
    exact⟨u,r,.inr ⟨.inl hk,c,hc,hc'⟩⟩
   ·rw [List.getElem?_set_ne (Ne.symm hj)] at e2
    obtain⟨u',r',q⟩:=hl j y v' e1 e2 e3
    refine⟨u',r',?_⟩
    rcases q with q | ⟨k,c',e,z'⟩
    ·exact .inl q
    ·refine .inr ⟨k,c',e,z'.sameBut hs ?_⟩
     rintro rfl
     exact hj (jV hN e1 (I.ok.inj _ _ _ e hc ▸ hi))
  ·by_cases hcc:c' = c
   ·subst hcc;exact⟨_,hc'⟩
   ·obtain⟨w2,z2⟩:=I.cell y c' e
    exact⟨w2,z2.sameBut hs hcc⟩
  ·obtain⟨e,n,ne,nf,d⟩:=I.pin p hp
   refine⟨(hs.2 p.1 ?_).trans e,n,ne,nf,d⟩
   intro q
   rw [q,hoc] at e
   have q':oc=p.2:=Option.some.inj e
   exact d w' (by rw [<-q'];exact hocd)
theorem jW {M:Model} {A:Around} {E:Value->Shared->Prop} {i:Nat} {x:Str} {v:V} {u:Value} {Q:Unit->Shared->Prop} (I:Inv X pins σ H s) (hN:X.N.Nodup) (hi:X.N[i]? = some x) (hx:Loc X.env.scope x) (r:RelV v u)
  (h:∀ s',Inv X pins (σ.set i (some v)) H s'->Q () s') (hf:X.fn x=true\/X.env.scope.names.lookup x=some .local:=by first | exact .inl rfl | exact .inr rfl | assumption):wpAny M A (storeName X.env x u) Q E s :=
 jd I hN hi hx r (fun s' I' _=>h s' I') hf
theorem Inv.sI {s':Shared} {ch:List Addr} (I:Inv X pins σ H s) (ho:s'.os=s.os) (u:Un (fX X.stack) ch H H' s.heap s'.heap) (ai:bX X.prog X.w H' s'.heap) (hg:AllBare s'.gens)
  (hch:∀ b ∈ ch,(b ∈ X.ex\/X.bO.heap.objs.size<=b)/\b ≠ X.env.locals/\(∀ x c,X.env.cells.lookup x=some c->c ≠ b)/\∀ p ∈ X.pn++pins,p.1 ≠ b):Inv X pins σ H' s':=by
 obtain⟨h',g',d',t',o'⟩:=s'
 have e:o' = s.os:=ho
 subst e
 exact I.call (g':=g') (t':=t') (d':=d') u ai hg hch
end
abbrev XK:=Value->Option Addr->Hp->Prop
abbrev St:=List (Option V)
abbrev VK:=V->Hp->Prop
abbrev TE:=St->Hp->VK->Prop
abbrev TT:=St->Hp->(Bool->Hp->Prop)->Prop
abbrev TA:=St->Hp->(List V->Hp->Prop)->Prop
structure Ends where
 nx:St->Hp->Prop
 rt:VK
 bk:St->Hp->Prop:=fun _ _=>False
 ct:St->Hp->Prop:=fun _ _=>False
abbrev TS:=Ends->St->Hp->Prop
def EP (X:Cx) (pins:List (Addr × Obj)) (σ : St) (Q:VK) (u:Value) (s':Shared):Prop:=∃ v H',Inv X pins σ H' s'/\RelV v u/\Q v H'
def TP (X:Cx) (pins:List (Addr × Obj)) (σ : St) (Q:Bool->Hp->Prop) (b:Bool) (s':Shared):Prop:=∃ H',Inv X pins σ H' s'/\Q b H'
def AP (X:Cx) (pins:List (Addr × Obj)) (σ : St) (Q:List V->Hp->Prop) (us:List Value) (s':Shared):Prop:=∃ vs H',Inv X pins σ H' s'/\Vals vs us/\Q vs H'
def SP (X:Cx) (pins:List (Addr × Obj)) (D:Ends) (f:Flow) (s':Shared):Prop :=
 match f with
 | .next=>∃ σ' H',Inv X pins σ' H' s'/\D.nx σ' H'
 | .brk=>∃ σ' H',Inv X pins σ' H' s'/\D.bk σ' H'
 | .cont=>∃ σ' H',Inv X pins σ' H' s'/\D.ct σ' H'
 | .ret u=>∃ v σ' H',Inv X pins σ' H' s'/\RelV v u/\D.rt v H'
def PE (X:Cx) (e:Expr) (t:TE):Prop :=
 ∀ (pins:List (Addr × Obj)) (s:Shared) (σ : St) (H:Hp) (Q:VK),Inv X pins σ H s->t σ H Q->wpAny (model X.prog X.w) X.A (eval e X.env) (EP X pins σ Q) X.xe s
def PT (X:Cx) (e:Expr) (t:TT):Prop :=
 ∀ (pins:List (Addr × Obj)) (s:Shared) (σ : St) (H:Hp) (Q:Bool->Hp->Prop),Inv X pins σ H s->t σ H Q->wpAny (model X.prog X.w) X.A (isTrue e X.env (eval e X.env)) (TP X pins σ Q) X.xe s
def PW (X:Cx) (e:Expr) (t:TT):Prop :=
 ∀ (whole:Sem Value) (pins:List (Addr × Obj)) (s:Shared) (σ : St) (H:Hp) (Q:Bool->Hp->Prop),Inv X pins σ H s->t σ H Q->wpAny (model X.prog X.w) X.A (isTrue e X.env whole) (TP X pins σ Q) X.xe s
theorem PW.pt {X:Cx} {e:Expr} {t:TT} (h:PW X e t):PT X e t:=h _
def PA (X:Cx) (es:List Expr) (t:TA):Prop :=
 ∀ (pos:Pos) (pins:List (Addr × Obj)) (s:Shared) (σ : St) (H:Hp) (Q:List V->Hp->Prop),Inv X pins σ H s->t σ H Q->wpAny (model X.prog X.w) X.A (spliced (backTo pos (starEach es X.env))) (AP X pins σ Q) X.xe s
def PS (X:Cx) (st:Stmt) (t:TS):Prop :=
 ∀ (pins:List (Addr × Obj)) (s:Shared) (σ : St) (H:Hp) (D:Ends),Inv X pins σ H s->t D σ H->wpAny (model X.prog X.w) X.A (exec st X.env) (SP X pins D) X.xe s
def fR (X:Cx) (st:List Stmt) (t:TS):Prop :=
 ∀ (pins:List (Addr × Obj)) (s:Shared) (σ : St) (H:Hp) (D:Ends),Inv X pins σ H s->t D σ H->wpAny (model X.prog X.w) X.A (execs st X.env) (SP X pins D) X.xe s
theorem aB {α : Type} {t:Sem α} {Q Q':α->Shared->Prop} {M:Model} {A:Around} {E:Value->Shared->Prop} {s:Shared} (h:wpAny M A t Q E s) (hQ:∀ a s,Q a s->Q' a s):wpAny M A t Q' E s:=wpAny_mono h hQ fun _ _ x=>x
section
variable {X:Cx}
inductive rn (i:Nat) (σ : St) (H:Hp) (Q:VK):Prop
 | mk (v:_) (_:σ[i]? = some (some v)) (_:Q v H)
def tC (v:V):TE:=fun _ H Q=>Q v H
theorem rq {i:Nat} {x:Str} {pos:Pos} (hN:X.N[i]? = some x) (hv:rm X.env.scope x) (hd:(x == ("__debug__" : Str))=false:=by decide) (hcd:(x == ("__classdict__" : Str))=false:=by decide):PE X (.Name x pos) (rn i):=by
 intro pins s σ H Q I h
 obtain⟨v,e,h⟩:=h
 obtain⟨m,hn,hl⟩:=I.loc
 obtain⟨u,r,l⟩:=hl i x v hN e hv
 have fin:EP X pins σ Q u s:=⟨v,H,I,r,h⟩
 rcases l with ⟨hk,hm⟩ | ⟨hk,c,hc,hcell⟩
 ·exact wpAny_Name (wpAny_loadName_local I.ok.kind hk hn hm fin) hd
 ·rcases hk with hk | hk
  ·exact wpAny_Name (wpAny_loadName_cell I.ok.kind hk hc hcell fin) hd
  ·exact wpAny_Name (wpAny_loadName_free I.ok.kind hk hc hcell fin hcd) hd
theorem aa {i j pos}:PE X (.Constant (.int i) j pos) (tC (.int i)):=fun _ _ _ H _ I h=>wpAny_Constant_int ⟨.int i,H,I.tok _,⟨_,rfl⟩,h⟩
theorem fz {b j pos}:PE X (.Constant (.bool b) j pos) (tC (.bl b)):=fun _ _ _ H _ I h=>Constant_bool ⟨.bl b,H,I,rfl,h⟩
theorem iu {j pos}:PE X (.Constant .none j pos) (tC .aO):=fun _ _ _ H _ I h=>Constant_none ⟨.aO,H,I,rfl,h⟩
theorem aF {x j pos}:PE X (.Constant (.str x) j pos) (tC (.str x)):=fun _ _ _ H _ I h=>Calls.Constant_str ⟨.str x,H,I.tok _,⟨_,rfl⟩,h⟩
def Gl (X:Cx) (x:Str):Prop:=X.env.kindOf x=some .globalImplicit
theorem lA {E:Value->Shared->Prop} {pins:List (Addr × Obj)} {s:Shared} {σ : St} {H:Hp} {x:Str} {u:Value} {pos:Pos} {Q:Value->Shared->Prop} (I:Inv X pins σ H s) (hg:Gl X x) (hm:X.mg x=some u) (h:Q u s)
  (hd:(x == ("__debug__" : Str))=false:=by decide):wpAny (model X.prog X.w) X.A (eval (.Name x pos) X.env) Q E s :=
 Calls.Name_function_global I.ok.kind hg (Calls.loadGlobal_global (by rw [I.ok.glob];exact I.mod.glob.keeps I.bk) hm h) hd
theorem fg {E:Value->Shared->Prop} {pins:List (Addr × Obj)} {s:Shared} {σ : St} {H:Hp} {x:Str} {u:Value} {pos:Pos} {Q:Value->Shared->Prop} (I:Inv X pins σ H s) (hg:Gl X x) (hm:X.mg x=none) (hv:bootBuiltins x=some u) (h:Q u s)
  (hn:x ≠ "__name__" := by decide) (hd:(x == ("__debug__" : Str))=false:=by decide):wpAny (model X.prog X.w) X.A (eval (.Name x pos) X.env) Q E s:=by
 obtain⟨mb,h1,h2⟩:=I.mod.blt
 exact Calls.Name_function_global I.ok.kind hg (Calls.loadGlobal_builtin (by rw [I.ok.glob];exact I.mod.glob.keeps I.bk) hm (by rw [I.ok.blt];exact h1.keeps I.bk) ((h2 x hn).trans hv) h) hd
theorem fh {x:Str} {v:V} {u:Value} {pos:Pos} (hg:Gl X x) (hm:X.mg x=some u) (r:RelV v u) (hd:(x == ("__debug__" : Str))=false:=by decide):PE X (.Name x pos) (tC v) :=
 fun _ _ _ H _ I h=>lA I hg hm ⟨v,H,I,r,h⟩ hd
theorem de {x:Str} {v:V} {u:Value} {pos:Pos} (hg:Gl X x) (hm:X.mg x=none) (hv:bootBuiltins x=some u) (r:RelV v u) (hn:x ≠ "__name__" := by decide) (hd:(x == ("__debug__" : Str))=false:=by decide):PE X (.Name x pos) (tC v) :=
 fun _ _ _ H _ I h=>fg I hg hm hv ⟨v,H,I,r,h⟩ hn hd
variable {a b:Expr} {ta tb:TE} {pos:Pos}
def PC (X:Cx) (op:CmpOp) (a b:Expr) (t:TE):Prop :=
 ∀ (pins:List (Addr × Obj)) (s:Shared) (σ : St) (H:Hp) (Q:VK),Inv X pins σ H s->t σ H Q ->
  wpAny (model X.prog X.w) X.A (eval a X.env) (fun v s₁=>wpAny (model X.prog X.w) X.A (eval b X.env) (fun u s₂=>wpAny (model X.prog X.w) X.A (compareOp op v u) (EP X pins σ Q) X.xe s₂) X.xe s₁) X.xe s
theorem oz (b:Expr) {op:CmpOp} (h:op ≠ .In) (h2:op ≠ .NotIn):behindInMarks op b=false:=by
 have e1:(op == CmpOp.In)=false:=by cases op <;> first | rfl | exact absurd rfl h
 have e2:(op == CmpOp.NotIn)=false:=by cases op <;> first | rfl | exact absurd rfl h2
 cases b <;> simp [behindInMarks,e1,e2]
def tU (ta:TE):TE:=fun σ H Q=>ta σ H fun x H1=>Q (.bl (decide (x=.aO))) H1
theorem RelV.oA {x:V} {v:Value} (r:RelV x v):(v == Value.none)=decide (x=.aO):=by
 cases x with
 | aO=>cases r;rfl
 | bl _=>cases r;rfl
 | int _=>obtain⟨t,rfl⟩:=r;rfl
 | str _=>obtain⟨t,rfl⟩:=r;rfl
 | fQ _=>obtain⟨t,rfl⟩:=r;rfl
 | jQ _=>obtain⟨t,rfl⟩:=r;rfl
 | ref _=>cases r;rfl
 | ty _=>cases r;rfl
theorem m5 {j pos'} (ha:PE X a ta):PC X .Is a (.Constant .none j pos') (tU ta):=by
 intro pins s σ H Q I h
 refine aB (ha pins s σ H _ I h) fun v s1 ⟨x,H1,I1,r1,q1⟩=>?_
 exact Constant_none (is_none_gen ⟨.bl _,H1,I1,by rw [r1.oA];rfl,q1⟩)
inductive sJ (Q:(Bool->Hp->Prop)) (x:V) (H1:Hp):Prop
 | mk (c:_) (_:x=.bl c) (_:Q c H1)
def tB (t:TE):TT:=fun σ H Q=>t σ H fun x H1=>sJ Q x H1
theorem m6 {op:CmpOp} {t:TE} (h:PC X op a b t) (h1:behindInMarks op b=false:=by first | exact oz _ (by decide) (by decide) | rfl):PT X (.Compare a [op] [b] pos) (tB t):=by
 intro pins s σ H Q I hw
 refine wpAny_isTrue_Compare1 (aB (h pins s σ H _ I hw) fun v s1 h1=>aB h1 fun u s2 h2=>aB h2 fun c s3 ⟨x,H1,I1,r1,q1⟩=>?_) h1
 obtain⟨d,rfl,q⟩:=q1
 cases r1
 exact wpAny_truthy_bool ⟨H1,I1,q⟩
theorem dn {e:Expr} {t:TE} (h:PE X e t) (he:∀ whole,isTrue e X.env whole=(do let v <-whole;standAt e.pos;holding [v] (truthy v)):=by intro _;rfl):PT X e (tB t):=by
 intro pins s σ H Q I hw
 refine isTrue_plain (aB (h pins s σ H _ I hw) fun v s1 ⟨x,H1,I1,r1,q1⟩=>?_) (he _)
 obtain⟨d,rfl,q⟩:=q1
 cases r1
 exact wpAny_truthy_bool ⟨H1,I1,q⟩
variable {tA tB':TT} {rest:List Expr}
def tV (t u:TT):TT:=fun σ H Q=>t σ H fun c H1=>if c=true then u σ H1 Q else Q false H1
def uH (t u:TT):TT:=fun σ H Q=>t σ H fun c H1=>if c=true then Q true H1 else u σ H1 Q
def tW (t:TT):TT:=fun σ H Q=>t σ H fun c H1=>Q (!c) H1
theorem iX (ha:PT X a tA):PW X (.BoolOp .And [a] pos) tA:=by
 intro wh pins s σ H Q I h
 refine isTrue_and (aB (ha pins s σ H Q I h) fun c s1 e=>?_)
 cases c with
 | true=>exact isTrue_and_nil e
 | false=>exact e
theorem fY (ha:PT X a tA):PW X (.BoolOp .Or [a] pos) tA:=by
 intro wh pins s σ H Q I h
 refine isTrue_or (aB (ha pins s σ H Q I h) fun c s1 e=>?_)
 cases c with
 | false=>exact isTrue_or_nil e
 | true=>exact e
theorem iw (ha:PT X a tA) (hb:PW X (.BoolOp .And (b :: rest) pos) tB'):PW X (.BoolOp .And (a :: b :: rest) pos) (tV tA tB'):=by
 intro wh pins s σ H Q I h
 refine isTrue_and (aB (ha pins s σ H _ I h) fun c s1 ⟨H1,I1,q1⟩=>?_)
 cases c with
 | true=>exact hb wh pins s1 σ H1 Q I1 q1
 | false=>exact⟨H1,I1,q1⟩
theorem ix (ha:PT X a tA) (hb:PW X (.BoolOp .Or (b :: rest) pos) tB'):PW X (.BoolOp .Or (a :: b :: rest) pos) (uH tA tB'):=by
 intro wh pins s σ H Q I h
 refine isTrue_or (aB (ha pins s σ H _ I h) fun c s1 ⟨H1,I1,q1⟩=>?_)
 cases c with
 | true=>exact⟨H1,I1,q1⟩
 | false=>exact hb wh pins s1 σ H1 Q I1 q1
theorem dX (ha:PT X a tA):PT X (.UnaryOp .Not a pos) (tW tA):=by
 intro pins s σ H Q I h
 exact isTrue_not (ha pins s σ H (fun c H1=>Q (!c) H1) I h)
inductive oB (tb:TE) (σ : St) (Q:VK) (x:V) (H1:Hp):Prop
 | mk (c:_) (_:x=.bl c) (_:if c=true then tb σ H1 Q else Q (.bl false) H1)
def sL (ta tb:TE):TE:=fun σ H Q=>ta σ H fun x H1=>oB tb σ Q x H1
inductive qg (tb:TE) (σ : St) (Q:VK) (x:V) (H1:Hp):Prop
 | mk (c:_) (_:x=.bl c) (_:if c=true then Q (.bl true) H1 else tb σ H1 Q)
def tX (ta tb:TE):TE:=fun σ H Q=>ta σ H fun x H1=>qg tb σ Q x H1
inductive oC (Q:VK) (x:V) (H1:Hp):Prop
 | mk (c:_) (_:x=.bl c) (_:Q (.bl (!c)) H1)
def sM (ta:TE):TE:=fun σ H Q=>ta σ H fun x H1=>oC Q x H1
theorem iy {op} {t:TE} (h:PE X a t):PE X (.BoolOp op [a] pos) t:=fun pins s σ H Q I hw=>BoolOp_one (h pins s σ H Q I hw)
theorem jX (ha:PE X a ta) (hb:PE X (.BoolOp .And (b :: rest) pos) tb):PE X (.BoolOp .And (a :: b :: rest) pos) (sL ta tb):=by
 intro pins s σ H Q I h
 refine BoolOp_and (aB (ha pins s σ H _ I h) fun v s1 ⟨x,H1,I1,r1,q1⟩=>?_)
 obtain⟨c,rfl,q1⟩:=q1
 cases r1
 refine wpAny_truthy_bool ?_
 cases c with
 | true=>exact hb pins s1 σ H1 Q I1 q1
 | false=>exact⟨.bl false,H1,I1,rfl,q1⟩
theorem sN (ha:PE X a ta) (hb:PE X (.BoolOp .Or (b :: rest) pos) tb):PE X (.BoolOp .Or (a :: b :: rest) pos) (tX ta tb):=by
 intro pins s σ H Q I h
 refine BoolOp_or (aB (ha pins s σ H _ I h) fun v s1 ⟨x,H1,I1,r1,q1⟩=>?_)
 obtain⟨c,rfl,q1⟩:=q1
 cases r1
 refine wpAny_truthy_bool ?_
 cases c with
 | false=>exact hb pins s1 σ H1 Q I1 q1
 | true=>exact⟨.bl true,H1,I1,rfl,q1⟩
theorem rz (ha:PE X a ta):PE X (.UnaryOp .Not a pos) (sM ta):=by
 intro pins s σ H Q I h
 refine UnaryOp_ (aB (ha pins s σ H _ I h) fun v s1 ⟨x,H1,I1,r1,q1⟩=>?_)
 obtain⟨c,rfl,q1⟩:=q1
 cases r1
 exact not_of (wpAny_truthy_bool ⟨.bl (!c),H1,I1,rfl,q1⟩)
def uI (t:TT) (ta tb:TE):TE:=fun σ H Q=>t σ H fun c H1=>if c=true then ta σ H1 Q else tb σ H1 Q
theorem jY {c:Expr} (hc:PT X c tA) (ha:PE X a ta) (hb:PE X b tb):PE X (.IfExp c a b pos) (uI tA ta tb):=by
 intro pins s σ H Q I h
 refine wpAny_IfExp (aB (hc pins s σ H _ I h) fun d s1 ⟨H1,I1,q1⟩=>?_)
 cases d with
 | true=>exact ha pins s1 σ H1 Q I1 q1
 | false=>exact hb pins s1 σ H1 Q I1 q1
end
def ax (K:PySem.W.Frag) (H:Hp) (a:Addr) (xs:List V):Prop :=
 Rd H a (.lst xs) \/
  ∃ (o:Obj) (its:Array Value) (n:Nat),K.lookup a=some o/\o.cls=.type "list" /\ o.dict=none/\o.data=.seq its n/\its.size<=sizeLine/\Vals xs its.toList
def aJ (K:PySem.W.Frag) (H:Hp) (a:Addr) (xs:List V):Prop :=
 Rd H a (.tup xs) \/
  ∃ (o:Obj) (its:Array Value) (n:Nat),K.lookup a=some o/\o.cls=.type "tuple" /\ o.data=.seq its n/\its.size<=sizeLine/\Vals xs its.toList
def tY:Value->Option V
 | .none=>some .aO
 | .bool b=>some (.bl b)
 | .int i _=>some (.int i)
 | .str x _=>some (.str x)
 | .bytes b _=>some (.fQ b)
 | .float b _=>some (.jQ b)
 | .ref a=>some (.ref a)
 | .type n=>some (.ty n)
 | _=>none
theorem RelV.abs {x:V} {u:Value} (r:RelV x u):tY u=some x:=by
 cases x with
 | aO=>cases r;rfl
 | bl _=>cases r;rfl
 | int _=>obtain⟨t,rfl⟩:=r;rfl
 | str _=>obtain⟨t,rfl⟩:=r;rfl
 | fQ _=>obtain⟨t,rfl⟩:=r;rfl
 | jQ _=>obtain⟨t,rfl⟩:=r;rfl
 | ref _=>cases r;rfl
 | ty _=>cases r;rfl
theorem RelV.inj {x y:V} {u:Value} (r:RelV x u) (q:RelV y u):x=y:=Option.some.inj (r.abs.symm.trans q.abs)
theorem Vals.inj:∀ {xs ys:List V} {us:List Value},Vals xs us->Vals ys us->xs=ys
 | _,_,_,.nil,.nil=>rfl
 | _,_,_,.cons r t,.cons r' t'=>by rw [r.inj r',Vals.inj t t']
section
variable {X:Cx} {pins:List (Addr × Obj)} {σ : St} {H:Hp} {s:Shared} {a:Addr} {xs ys:List V}
theorem ax.of {K:PySem.W.Frag} (h:H a=some (.lst xs)):ax K H a xs:=.inl (.inl h)
theorem aJ.of {K:PySem.W.Frag} (h:H a=some (.tup xs)):aJ K H a xs:=.inl (.inl h)
theorem Inv.list (I:Inv X pins σ H s) (h:ax X.K H a xs):∃ its:List Value,Vals xs its/\PlainL s.heap a its.toArray/\xs.length<=sizeLine:=by
 rcases h with h | ⟨o,its,n,hk,hc,hd,hs,hz,r⟩
 ·obtain⟨z,its,n,r,e⟩:=h.ok I.ai
  exact⟨its,r,⟨_,n,e,rfl,rfl,rfl⟩,z⟩
 ·refine⟨its.toList,r,⟨o,n,I.cQ a o hk,hc,hd,by simpa using hs⟩,?_⟩
  have e:=r.length
  simp only [Array.length_toList] at e
  omega
theorem Inv.tuple (I:Inv X pins σ H s) (h:aJ X.K H a xs):∃ its:List Value,Vals xs its/\IsTup s.heap a its.toArray/\xs.length<=sizeLine:=by
 rcases h with h | ⟨o,its,n,hk,hc,hs,hz,r⟩
 ·obtain⟨z,its,r,o,e,c,n,d,_⟩:=h.ok I.ai
  exact⟨its,r,⟨o,e,c,n,d⟩,z⟩
 ·refine⟨its.toList,r,⟨o,I.cQ a o hk,hc,n,by simpa using hs⟩,?_⟩
  have e:=r.length
  simp only [Array.length_toList] at e
  omega
theorem Inv.jZ (I:Inv X pins σ H s) (h:ax X.K H a xs) (h':ax X.K H a ys):xs=ys:=by
 obtain⟨its,r,⟨o,n,e,_,_,d⟩,_⟩:=I.list h
 obtain⟨its',r',⟨o',n',e',_,_,d'⟩,_⟩:=I.list h'
 rw [e] at e';cases e'
 rw [d] at d'
 injection d' with d1 _
 have:its=its':=by simpa using congrArg Array.toList d1
 subst this
 exact r.inj r'
theorem Inv.eJ (I:Inv X pins σ H s) (h:aJ X.K H a xs) (h':aJ X.K H a ys):xs=ys:=by
 obtain⟨its,r,⟨o,e,_,n,d⟩,_⟩:=I.tuple h
 obtain⟨its',r',⟨o',e',_,n',d'⟩,_⟩:=I.tuple h'
 rw [e] at e';cases e'
 rw [d] at d'
 injection d' with d1 _
 have:its=its':=by simpa using congrArg Array.toList d1
 subst this
 exact r.inj r'
end
abbrev Cx.eR (X:Cx) (E:Value->Shared->Prop):Cx:={ X with xe:=E }
abbrev Cx.pN (X:Cx):Cx:=X.eR fun _ _=>False
theorem Cx.Ok.eR {X:Cx} (ok:X.Ok) (E:Value->Shared->Prop):(X.eR E).Ok :=
 ⟨ok.mod,ok.kind,ok.glob,ok.blt,ok.above,ok.inj,ok.has,ok.m4,ok.hd,ok.frames,ok.pM,ok.tH,ok.bs,ok.jc,ok.jT,ok.mv,ok.dW,ok.lq⟩
theorem Cx.Ok.dq {X:Cx} {E:Value->Shared->Prop} (ok:(X.eR E).Ok):X.Ok :=
 ⟨ok.mod,ok.kind,ok.glob,ok.blt,ok.above,ok.inj,ok.has,ok.m4,ok.hd,ok.frames,ok.pM,ok.tH,ok.bs,ok.jc,ok.jT,ok.mv,ok.dW,ok.lq⟩
section
variable {X:Cx} {pins:List (Addr × Obj)} {σ : St} {H:Hp} {s:Shared} {E:Value->Shared->Prop}
theorem Inv.eR (I:Inv X pins σ H s) (E:Value->Shared->Prop):Inv (X.eR E) pins σ H s:=⟨I.ok.eR E,I.os,I.bare,I.base,I.loc,I.cell,I.free,I.cP,I.pin,I.ai,I.len⟩
theorem Inv.dq (I:Inv (X.eR E) pins σ H s):Inv X pins σ H s:=⟨I.ok.dq,I.os,I.bare,I.base,I.loc,I.cell,I.free,I.cP,I.pin,I.ai,I.len⟩
theorem SP.dq {D:Ends} {f:Flow} {s':Shared} (h:SP (X.eR E) pins D f s'):SP X pins D f s':=by
 cases f with
 | next=>obtain⟨σ',H',I,q⟩:=h;exact⟨σ',H',I.dq,q⟩
 | brk=>obtain⟨σ',H',I,q⟩:=h;exact⟨σ',H',I.dq,q⟩
 | cont=>obtain⟨σ',H',I,q⟩:=h;exact⟨σ',H',I.dq,q⟩
 | ret u=>obtain⟨v,σ',H',I,r,q⟩:=h;exact⟨v,σ',H',I.dq,r,q⟩
theorem fR.pN {st:List Stmt} {t:TS} (h:fR X.pN st t):fR X st t:=fun pins s σ H D I hw =>
 wpAny_mono (h pins s σ H D (I.eR _) hw) (fun _ _ q=>q.dq) fun _ _ z=>False.elim z
end
section
variable {X:Cx} {st:Stmt} {rest:List Stmt} {t u:TS} {e:Expr} {te:TE} {pos:Pos}
def sO:TS:=fun D σ H=>D.nx σ H
def tZ (t u:TS):TS:=fun D σ H=>t { D with nx:=u D } σ H
theorem aP:fR X [] sO:=fun _ _ σ H _ I h=>wpAny_execs_nil ⟨σ,H,I,h⟩
theorem ae (h1:PS X st t) (h2:fR X rest u):fR X (st :: rest) (tZ t u):=by
 intro pins s σ H D I h
 refine wpAny_execs_cons (aB (h1 pins s σ H { D with nx:=u D } I h) fun f s1 q=>?_)
 cases f with
 | next =>
  obtain⟨σ',H',I',q⟩:=q
  exact h2 pins s1 σ' H' D I' q
 | ret v=>exact q
 | brk=>exact q
 | cont=>exact q
theorem af (h1:PS X st t):fR X [st] t:=by
 intro pins s σ H D I h
 refine wpAny_execs_cons (aB (h1 pins s σ H D I h) fun f s1 q=>?_)
 cases f with
 | next=>exact wpAny_execs_nil q
 | ret v=>exact q
 | brk=>exact q
 | cont=>exact q
theorem Inv.quiet {pins:List (Addr × Obj)} {σ : St} {H:Hp} {s:Shared} (I:Inv X pins σ H s):interactive X.env=false:=by simp [interactive,I.ok.kind]
def sP (te:TE):TS:=fun D σ H=>te σ H fun _ H1=>D.nx σ H1
theorem lB (he:PE X e te) (hs:swapsWith e none pos.line X.env=pure false:=by rfl):PS X (.Expr e pos) (sP te):=by
 intro pins s σ H D I h
 exact wpAny_Expr_any (aB (he pins s σ H _ I h) fun v s1 ⟨x,H1,I1,r1,q1⟩=>⟨σ,H1,I1,q1⟩) I.quiet hs
def t9 (te:TE):TS:=fun D σ H=>te σ H D.rt
theorem av (he:PE X e te):PS X (.Return (some e) pos) (t9 te):=by
 intro pins s σ H D I h
 exact wpAny_Return_some (aB (he pins s σ H _ I h) fun v s1 ⟨x,H1,I1,r1,q1⟩=>⟨x,σ,H1,I1,r1,q1⟩)
def ua (c:TT) (t u:TS):TS:=fun D σ H=>c σ H fun b H1=>if b=true then t D σ H1 else u D σ H1
theorem bw {c:Expr} {a b:List Stmt} {tc:TT} (hc:PT X c tc) (ha:fR X a t) (hb:fR X b u):PS X (.If c a b pos) (ua tc t u):=by
 intro pins s σ H D I h
 refine wpAny_If (aB (hc pins s σ H _ I h) fun d s1 ⟨H1,I1,q1⟩=>?_)
 cases d with
 | true=>exact ha pins s1 σ H1 D I1 q1
 | false=>exact hb pins s1 σ H1 D I1 q1
def rC:TS:=fun _ _ _=>False
theorem j0:PS X st rC:=fun _ _ _ _ _ _ h=>h.elim
end
abbrev TG:=V->St->Hp->(St->Hp->Prop)->Prop
abbrev j1:=List V->St->Hp->(St->Hp->Prop)->Prop
def PG (X:Cx) (target:Expr) (t:TG):Prop :=
 ∀ (pins:List (Addr × Obj)) (s:Shared) (σ : St) (H:Hp) (v:V) (u:Value) (Q:St->Hp->Prop),Inv X pins σ H s->RelV v u->t v σ H Q ->
  wpAny (model X.prog X.w) X.A (assign target X.env u) (fun _ s'=>∃ σ' H',Inv X pins σ' H' s'/\Q σ' H') X.xe s
def pO (X:Cx) (ts:List Expr) (t:j1):Prop :=
 ∀ (pins:List (Addr × Obj)) (s:Shared) (σ : St) (H:Hp) (vs:List V) (us:List Value) (Q:St->Hp->Prop),Inv X pins σ H s->Vals vs us->t vs σ H Q ->
  wpAny (model X.prog X.w) X.A (assignInOrder ((assignEach ts X.env).map (·.2)) us) (fun _ s'=>∃ σ' H',Inv X pins σ' H' s'/\Q σ' H') X.xe s
abbrev oD:=V->V->V->Hp->(Hp->Prop)->Prop
def rD (X:Cx) (t:oD):Prop :=
 ∀ (pins:List (Addr × Obj)) (s:Shared) (σ : St) (H:Hp) (o i v:V) (ov iv u:Value) (Q:Hp->Prop),Inv X pins σ H s->RelV o ov->RelV i iv->RelV v u->t o i v H Q ->
  wpAny (model X.prog X.w) X.A (setItem ov iv u) (fun _ s'=>∃ H',Inv X pins σ H' s'/\Q H') X.xe s
section
variable {X:Cx} {pos:Pos}
def gN (i:Nat):TG:=fun v σ H Q=>Q (σ.set i (some v)) H
theorem qh {i:Nat} {x:Str} (hN:X.N.Nodup) (hi:X.N[i]? = some x) (hx:Loc X.env.scope x) (hf:X.fn x=true\/X.env.scope.names.lookup x=some .local:=by first | exact .inl rfl | exact .inr rfl | assumption):PG X (.Name x pos) (gN i):=by
 intro pins s σ H v u Q I r h
 exact wpAny_assign_Name (jW I hN hi hx r (fun s' I'=>⟨_,H,I',h⟩) hf)
def ub:j1:=fun vs σ H Q=>vs = []/\Q σ H
inductive sQ (t:TG) (u:j1) (vs:List V) (σ : St) (H:Hp) (Q:(St->Hp->Prop)):Prop
 | mk (v r:_) (_:vs=v :: r) (_:t v σ H fun σ' H'=>u r σ' H' Q)
theorem gO:pO X [] ub:=by
 intro pins s σ H vs us Q I r h
 obtain⟨e,h⟩:=h
 subst e
 cases r
 exact assignInOrder_nil ⟨σ,H,I,h⟩
theorem cc {e:Expr} {es:List Expr} {t:TG} {u:j1} (h1:PG X e t) (h2:pO X es u)
  (hs:(assignEach (e :: es) X.env).map (·.2)=assign e X.env :: (assignEach es X.env).map (·.2):=by rfl):pO X (e :: es) (sQ t u):=by
 intro pins s σ H vs us Q I r h
 obtain⟨v,vr,e1,h⟩:=h
 subst e1
 cases r with
 | cons r rr =>
  rw [hs]
  refine assignInOrder_cons (aB (h1 pins s σ H _ _ _ I r h) fun _ s1 ⟨σ1,H1,I1,q1⟩=>?_)
  exact h2 pins s1 σ1 H1 _ _ Q I1 rr q1
inductive oE (K:PySem.W.Frag) (n:Nat) (t:j1) (v:V) (σ : St) (H:Hp) (Q:(St->Hp->Prop)):Prop
 | mk (a xs:_) (_:v=.ref a) (_:aJ K H a xs) (_:xs.length=n) (_:t xs σ H Q)
theorem iz {es:List Expr} {k:Nat} {t:j1} {n:Nat} (hc:X.calm=true) (h:pO X es t)
  (hn:(assignEach es X.env).length=n:=by rfl) (hst:(assignEach es X.env).findIdx? (·.1)=none:=by rfl):PG X (.Tuple es k pos) (oE X.K n t):=by
 intro pins s σ H v u Q I r hw
 obtain⟨a,xs,e1,hq,hl,hw⟩:=hw
 subst e1
 cases r
 obtain⟨its,rv,ht,hz⟩:=I.tuple hq
 refine assign_Tuple_tuple (I.ok.hd hc) ht (by simp [hn,<-hl,rv.length]) hst fun h' hx=>?_
 have I1:Inv X pins σ H { s with heap:=h' }:=I.kept (t':=s.toks) fun b o e=>hx b o (Nat.ne_of_lt (Heap.lt_size e)) e
 exact h pins _ σ H xs _ Q I1 (by simpa using rv) hw
def uc (to ti:TE) (t:oD):TG:=fun v σ H Q=>to σ H fun o H1=>ti σ H1 fun i H2=>t o i v H2 fun H3=>Q σ H3
theorem j2 {o i:Expr} {to ti:TE} {t:oD} (ho:PE X o to) (hi:PE X i ti) (hs:rD X t)
  (ha:∀ v,assign (.Subscript o i pos) X.env v=(do
   let ov <-holding [v] (eval o X.env)
   let iv <-holding [v,ov] (eval i X.env)
   standAt pos
   holding [v,ov,iv] (setItem ov iv v)
   release [v,ov,iv] []):=by intro _;rfl):PG X (.Subscript o i pos) (uc to ti t):=by
 intro pins s σ H v u Q I r h
 rw [ha]
 refine wpAny_bind (wpAny_holding (aB (ho pins s σ H _ I h) fun ov s1 ⟨x,H1,I1,r1,q1⟩=>?_))
 refine wpAny_bind (wpAny_holding (aB (hi pins s1 σ H1 _ I1 q1) fun iv s2 ⟨y,H2,I2,r2,q2⟩=>?_))
 refine wpAny_bind (wpAny_standAt (wpAny_bind (wpAny_holding (aB (hs pins s2 σ H2 x y v ov iv u _ I2 r1 r2 r q2) fun _ s3 ⟨H3,I3,q3⟩=>?_))))
 exact wpAny_release ⟨σ,H3,I3,q3⟩
def mw (te:TE) (g:TG):TS:=fun D σ H=>te σ H fun x H1=>g x σ H1 D.nx
theorem fZ {tg e:Expr} {te:TE} {g:TG} (he:PE X e te) (hg:PG X tg g) (hs:swapsWithSole [tg] e pos.line X.env=pure false:=by rfl) (hw:swappedStores [tg] e X.env=pure none:=by rfl)
  (h1:(assignEach [tg] X.env).map (·.2) = [assign tg X.env]:=by rfl):PS X (.Assign [tg] e pos) (mw te g):=by
 intro pins s σ H D I h
 refine wpAny_Assign_stores (aB (he pins s σ H _ I h) fun v s1 ⟨x,H1,I1,r1,q1⟩=>?_) hs hw
 rw [h1]
 exact aB (hg pins s1 σ H1 x v _ I1 r1 q1) fun _ s2 q=>q
theorem rE {i:Nat} {x:Str} {e:Expr} {te:TE} {pos':Pos} (hN:X.N.Nodup) (hi:X.N[i]? = some x) (hx:Loc X.env.scope x) (he:PE X e te) (hs:swapsWith e (some (.Name x pos')) pos.line X.env=pure false:=by rfl) (hf:X.fn x=true\/X.env.scope.names.lookup x=some .local:=by first | exact .inl rfl | exact .inr rfl | assumption) :
  PS X (.Assign [.Name x pos'] e pos) (mw te (gN i)):=by
 intro pins s σ H D I h
 refine wpAny_Assign_Name (aB (he pins s σ H _ I h) fun v s1 ⟨y,H1,I1,r1,q1⟩=>?_) hs
 exact jW I1 hN hi hx r1 (fun s2 I2=>⟨_,H1,I2,q1⟩) hf
end
section
variable {X:Cx} {pos:Pos}
end
structure It where
 go:Nat->Hp->Prop
 pP:Nat->Hp->V->Hp->Prop
 stop:Nat->Hp->Prop
def df (X:Cx) (pins:List (Addr × Obj)) (H:Hp) (b:Addr):Prop :=
 H b=none/\b ≠ X.env.locals/\b ∉ X.fs/\(b ∈ X.ex\/X.bO.heap.objs.size<=b)/\(∀ x c,X.env.cells.lookup x=some c->c ≠ b)/\∀ p ∈ X.pn++pins,p.1 ≠ b
theorem Inv.eS {X:Cx} {pins:List (Addr × Obj)} {σ : St} {H H':Hp} {s:Shared} {b:Addr} (I:Inv X pins σ H s) (hb:s.heap.objs.size<=b) (hn:H' b=none):df X pins H' b:=by
 refine⟨hn,Nat.ne_of_gt (Nat.lt_of_lt_of_le I.lt hb),I.tT hb,.inr (Nat.le_trans I.sz hb),fun x c e z=>?_,fun p hp z=>?_⟩
 ·obtain⟨v,q⟩:=I.cell x c e
  exact absurd (Nat.lt_of_lt_of_le q.lt (by rw [z];exact hb)) (Nat.lt_irrefl _)
 ·exact absurd (Nat.lt_of_lt_of_le (Heap.lt_size (I.pin p hp).1) (by rw [z];exact hb)) (Nat.lt_irrefl _)
structure Turn (P:Program) (w:World) (K:PySem.W.Frag) (tg:Expr) (J:It) (fp:List Addr) (it:Addr) (tn:Nat->Heap->Prop):Prop where
 mem:it ∈ fp
 obj:∀ i h,tn i h->∀ b ∈ fp,∃ o,h.get? b=some o/\∀ v,o.data ≠ .cell v
 keep:∀ i h h',tn i h->(∀ b ∈ fp,∀ o,h.get? b=some o->h'.get? b=some o)->tn i h'
 item:∀ (X:Cx),X.prog=P->X.w=w->X.K=K->X.calm=true->∀ (i:Nat) (pins:List (Addr × Obj)) (s:Shared) (σ : St) (H:Hp) (E:Value->Shared->Prop),Inv X pins σ H s->(∀ b ∈ fp,df X pins H b)->tn i s.heap->J.go i H ->
  wpAny (model P w) X.A (pyNext (.ref it)) (fun r s1=>∃ u,r=some u /\
   wpAny (model P w) X.A (letOwnedTupleGo tg (.ref it) u) (fun _ s2=>∃ x H',Inv X pins σ H' s2/\RelV x u/\J.pP i H x H'/\tn (i+1) s2.heap/\∀ b ∈ fp,H' b=none) E s1) E s
 done:∀ (X:Cx),X.prog=P->X.w=w->X.K=K->X.calm=true->∀ (i:Nat) (pins:List (Addr × Obj)) (s:Shared) (σ : St) (H:Hp) (E:Value->Shared->Prop),Inv X pins σ H s->(∀ b ∈ fp,df X pins H b)->tn i s.heap->J.stop i H ->
  wpAny (model P w) X.A (pyNext (.ref it)) (fun r s1=>r=none/\Inv X pins σ H s1) E s
 self:∀ (A:Around) (i:Nat) (s:Shared) (Q:Value->Shared->Prop) (E:Value->Shared->Prop),tn i s.heap->Q (.ref it) s->wpAny (model P w) A (pyIter (.ref it)) Q E s
abbrev TI:=St->Hp->(It->Hp->Prop)->Prop
def tI (X:Cx) (pins:List (Addr × Obj)) (σ : St) (tg:Expr) (R:It->Hp->Prop) (itv:Value) (s2:Shared):Prop :=
 ∃ (it:Addr) (fp:List Addr) (tn:Nat->Heap->Prop) (J:It) (H':Hp),itv=.ref it/\Inv X pins σ H' s2/\Turn X.prog X.w X.K tg J fp it tn/\tn 0 s2.heap/\(∀ b ∈ fp,df X pins H' b)/\R J H'
def PI (X:Cx) (tg iter:Expr) (wi:TI):Prop :=
 ∀ (pins:List (Addr × Obj)) (s:Shared) (σ : St) (H:Hp) (R:It->Hp->Prop),Inv X pins σ H s->wi σ H R ->
  wpAny (model X.prog X.w) X.A (eval iter X.env) (fun v s1=>wpAny (model X.prog X.w) X.A (pyIter v) (tI X pins σ tg R) X.xe s1) X.xe s
theorem jK {M:Model} {A:Around} {E:Value->Shared->Prop} {s:Shared} {tg:Expr} {it:Addr} {u:Value} {o:Obj} {n:String} {vs:Array Value} {Q:Unit->Shared->Prop} (ho:s.heap.get? it=some o) (hc:o.cls=.type n) (hd:o.data=.fields vs)
    (hn:["enumerate", "zip", "dict_itemiterator", "dict_reverseitemiterator", "odict_iterator", "itertools.zip_longest", "itertools.pairwise"].contains n=false) (hQ:Q () s):wpAny M A (letOwnedTupleGo tg (.ref it) u) Q E s:=by
  unfold letOwnedTupleGo
  cases tg <;> first
    | exact wpAny_pure hQ
    | (cases u <;> first
        | exact wpAny_pure hQ
        | (refine wpAny_bind (wpAny_load ho ?_)
           rw [hc,hd]
           show wpAny M A (if (["enumerate", "zip", "dict_itemiterator", "dict_reverseitemiterator", "odict_iterator", "itertools.zip_longest", "itertools.pairwise"].contains n && vs[0]? == some (rawInt _))=true then _ else _) Q E s
           rw [if_neg (by intro h;rw [hn,Bool.false_and] at h;cases h)]
           exact wpAny_pure hQ))
def rF (K:PySem.W.Frag) (a:Addr):It :=
 ⟨fun i H=>∃ xs x,ax K H a xs/\xs[i]? = some x,fun i H x H'=>H' = H/\∀ xs,ax K H a xs->xs[i]? = some x,fun i H=>∃ xs,ax K H a xs/\xs.length<=i⟩
def rG (K:PySem.W.Frag) (a:Addr):It :=
 ⟨fun i H=>∃ xs x,aJ K H a xs/\xs[i]? = some x,fun i H x H'=>H' = H/\∀ xs,aJ K H a xs->xs[i]? = some x,fun i H=>∃ xs,aJ K H a xs/\xs.length<=i⟩
def j3 (lo:Int) (n:Nat):It:=⟨fun i _=>i < n,fun i H x H'=>H' = H/\x=.int (lo+i),fun i _=>n<=i⟩
theorem m7 {P:Program} {w:World} {K:PySem.W.Frag} {tg:Expr} (a it:Addr):Turn P w K tg (rF K a) [it] it (fun i h=>h.IsListIter it a i) where
 mem:=by simp
 obj:=fun i h st b hb=>by
  have e:b=it:=by simpa using hb
  subst e
  obtain⟨o,e,c,d⟩:=st
  exact⟨o,e,fun v z=>by rw [d] at z;cases z⟩
 keep:=fun i h h' st k=>st.at fun o e=>k it (by simp) o e
 item:=by
  intro X hP hw hK hc i pins s σ H E I hf st hg
  subst hP hw hK
  obtain⟨xs,x,hq,hx⟩:=hg
  obtain⟨its,rv,p,hz⟩:=I.list hq
  obtain⟨u,hu,ru⟩:=rv.get hx
  obtain⟨f0,f1,f2,f3,f4,f5⟩:=hf it (by simp)
  refine wpAny_pyNext_list_item st p.isList (x:=u) (by simpa using hu) fun h' st' sb=>?_
  have I1:Inv X pins σ H { s with heap:=h' }:=I.turned (t':=s.toks) (fun b o hb e=>(sb.2 b hb).trans e) f0 f1 f3 f4 f5
  obtain⟨o,e,c,d⟩:=id st'
  exact⟨u,rfl,jK (s:={ s with heap:=h' }) e c d (by decide) ⟨x,H,I1,ru,⟨rfl,fun ys hy=>by rw [I.jZ hy hq];exact hx⟩,st',fun b hb=>(hf b hb).1⟩⟩
 done:=by
  intro X hP hw hK hc i pins s σ H E I hf st hg
  subst hP hw hK
  obtain⟨xs,hq,hx⟩:=hg
  obtain⟨its,rv,p,hz⟩:=I.list hq
  obtain⟨f0,f1,f2,f3,f4,f5⟩:=hf it (by simp)
  have hl:=rv.length
  exact wpAny_pyNext_list_end (I.ok.hd hc) st p.isList (by simp;omega) fun h' eb=>⟨rfl,I.turned (t':=s.toks) (fun b o hb e=>eb b o hb e) f0 f1 f3 f4 f5⟩
 self:=fun _ _ _ _ _ st h=>wpAny_pyIter_listiter st h
theorem mx {P:Program} {w:World} {K:PySem.W.Frag} {tg:Expr} (a it:Addr):Turn P w K tg (rG K a) [it] it (fun i h=>h.IsTupleIter it a i) where
 mem:=by simp
 obj:=fun i h st b hb=>by
  have e:b=it:=by simpa using hb
  subst e
  obtain⟨o,e,c,d⟩:=st
  exact⟨o,e,fun v z=>by rw [d] at z;cases z⟩
 keep:=fun i h h' st k=>st.at fun o e=>k it (by simp) o e
 item:=by
  intro X hP hw hK hc i pins s σ H E I hf st hg
  subst hP hw hK
  obtain⟨xs,x,hq,hx⟩:=hg
  obtain⟨its,rv,p,hz⟩:=I.tuple hq
  obtain⟨u,hu,ru⟩:=rv.get hx
  obtain⟨f0,f1,f2,f3,f4,f5⟩:=hf it (by simp)
  refine wpAny_pyNext_tuple_item st (show s.heap.IsTuple a its.toArray from p) (x:=u) (by simpa using hu) fun h' st' sb=>?_
  have I1:Inv X pins σ H { s with heap:=h' }:=I.turned (t':=s.toks) (fun b o hb e=>(sb.2 b hb).trans e) f0 f1 f3 f4 f5
  obtain⟨o,e,c,d⟩:=id st'
  exact⟨u,rfl,jK (s:={ s with heap:=h' }) e c d (by decide) ⟨x,H,I1,ru,⟨rfl,fun ys hy=>by rw [I.eJ hy hq];exact hx⟩,st',fun b hb=>(hf b hb).1⟩⟩
 done:=by
  intro X hP hw hK hc i pins s σ H E I hf st hg
  subst hP hw hK
  obtain⟨xs,hq,hx⟩:=hg
  obtain⟨its,rv,p,hz⟩:=I.tuple hq
  obtain⟨f0,f1,f2,f3,f4,f5⟩:=hf it (by simp)
  have hl:=rv.length
  exact wpAny_pyNext_tuple_end (I.ok.hd hc) st (show s.heap.IsTuple a its.toArray from p) (by simp;omega) fun h' eb=>⟨rfl,I.turned (t':=s.toks) (fun b o hb e=>eb b o hb e) f0 f1 f3 f4 f5⟩
 self:=fun _ _ _ _ _ st h=>wpAny_pyIter_tupleiter st h
theorem my {P:Program} {w:World} {K:PySem.W.Frag} {tg:Expr} (it:Addr) (lo:Int) (n:Nat):Turn P w K tg (j3 lo n) [it] it (fun i h=>IsRangeIter h it (lo+(i:Nat) * 1) ((n:Int) - (i:Nat)) 1) where
 mem:=by simp
 obj:=fun i h st b hb=>by
  have e:b=it:=by simpa using hb
  subst e
  exact⟨_,st,fun v z=>by
   have z':Data.fields _=Data.cell v:=z
   cases z'⟩
 keep:=fun i h h' st k=>k it (by simp) _ st
 item:=by
  intro X hP hw hK hc i pins s σ H E I hf st hg
  subst hP hw hK
  obtain⟨f0,f1,f2,f3,f4,f5⟩:=hf it (by simp)
  have W:=Walks.range (prog:=X.prog) (w:=X.w) (I.ok.hd hc) it lo 1 n
  refine W.item i s _ _ hg st fun v h' tk hv st' kk=>?_
  obtain⟨t,rfl⟩:=hv
  have I1:Inv X pins σ H { s with heap:=h',toks:=tk }:=I.turned (fun b o hb e=>kk b o (by simpa using hb) e) f0 f1 f3 f4 f5
  refine⟨_,rfl,jK (s:={ s with heap:=h',toks:=tk }) (n := "range_iterator") st' rfl rfl (by decide) ⟨.int (lo+i),H,I1,⟨t,?_⟩,⟨rfl,rfl⟩,st',fun b hb=>(hf b hb).1⟩⟩
  rw [Int.mul_one]
 done:=by
  intro X hP hw hK hc i pins s σ H E I hf st hg
  subst hP hw hK
  obtain⟨f0,f1,f2,f3,f4,f5⟩:=hf it (by simp)
  exact wpAny_pyNext_range_end (I.ok.hd hc) st (by have:n<=i:=hg;omega) fun h' eb=>⟨rfl,I.turned (t':=s.toks) (fun b o hb e=>eb b o hb e) f0 f1 f3 f4 f5⟩
 self:=fun _ _ _ _ _ st h=>wpAny_pyIter_rangeiter st h
section
variable {X:Cx} {tg:Expr}
inductive oF (K:PySem.W.Frag) (R:(It->Hp->Prop)) (x:V) (H1:Hp):Prop
 | mk (a:_) (_:x=.ref a) (_:(∃ xs,ax K H1 a xs)) (_:R (rF K a) H1)
def sR (K:PySem.W.Frag) (tl:TE):TI:=fun σ H R=>tl σ H fun x H1=>oF K R x H1
inductive qi (K:PySem.W.Frag) (R:(It->Hp->Prop)) (x:V) (H1:Hp):Prop
 | mk (a:_) (_:x=.ref a) (_:(∃ xs,aJ K H1 a xs)) (_:R (rG K a) H1)
def rH (K:PySem.W.Frag) (tl:TE):TI:=fun σ H R=>tl σ H fun x H1=>qi K R x H1
theorem iY {l:Expr} {tl:TE} (hl:PE X l tl):PI X tg l (sR X.K tl):=by
 intro pins s σ H R I h
 refine aB (hl pins s σ H _ I h) fun v s1 ⟨x,H1,I1,r1,q1⟩=>?_
 obtain⟨a,e,⟨xs,hq⟩,q⟩:=q1
 subst e
 cases r1
 obtain⟨its,rv,p,hz⟩:=I1.list hq
 refine wpAny_pyIter_list p.isList ?_
 refine⟨s1.heap.objs.size,[s1.heap.objs.size],_,_,H1,rfl,I1.kept (t':=s1.toks) fun b o e=>Heap.get?_push_of_some _ e,m7 a _,⟨_,Heap.get?_push_size _ rfl,rfl,rfl⟩,fun b hb=>?_,q⟩
 have e:b=s1.heap.objs.size:=by simpa using hb
 subst e
 exact I1.eS (Nat.le_refl _) (I1.ai.fresh (Nat.le_refl _))
theorem dY {l:Expr} {tl:TE} (hl:PE X l tl):PI X tg l (rH X.K tl):=by
 intro pins s σ H R I h
 refine aB (hl pins s σ H _ I h) fun v s1 ⟨x,H1,I1,r1,q1⟩=>?_
 obtain⟨a,e,⟨xs,hq⟩,q⟩:=q1
 subst e
 cases r1
 obtain⟨its,rv,p,hz⟩:=I1.tuple hq
 refine wpAny_pyIter_tuple (show s1.heap.IsTuple a its.toArray from p) ?_
 refine⟨s1.heap.objs.size,[s1.heap.objs.size],_,_,H1,rfl,I1.kept (t':=s1.toks) fun b o e=>Heap.get?_push_of_some _ e,mx a _,⟨_,Heap.get?_push_size _ rfl,rfl,rfl⟩,fun b hb=>?_,q⟩
 have e:b=s1.heap.objs.size:=by simpa using hb
 subst e
 exact I1.eS (Nat.le_refl _) (I1.ai.fresh (Nat.le_refl _))
theorem oG {pins:List (Addr × Obj)} {σ : St} {H:Hp} {s:Shared} {R:It->Hp->Prop} {E:Value->Shared->Prop} {lo hi:Int} {t u v:Tok} {tk:Nat} (I:Inv X pins σ H s) (h1:-(2 ^ 62)<=lo) (h2:lo < 2 ^ 62) (h3:-(2 ^ 62)<=hi) (h4:hi < 2 ^ 62)
  (q:R (j3 lo (hi - lo).toNat) H):wpAny (model X.prog X.w) X.A (pyIter (.ref s.heap.objs.size)) (tI X pins σ tg R) E { s with heap:=s.heap.push { cls:=.type "range",data:=.fields #[.int lo t,.int hi u,.int 1 v] },toks:=tk }:=by
 refine wpAny_pyIter_range (IsRange.new ..) (small_one h1 h2 h3 h4) ?_
 have I1:Inv X pins σ H { s with heap:=s.heap.push { cls:=.type "range",data:=.fields #[.int lo t,.int hi u,.int 1 v] },toks:=tk }:=I.kept fun b o e=>Heap.get?_push_of_some _ e
 refine⟨(s.heap.push { cls:=.type "range",data:=.fields #[.int lo t,.int hi u,.int 1 v] }).objs.size,[(s.heap.push { cls:=.type "range",data:=.fields #[.int lo t,.int hi u,.int 1 v] }).objs.size],_,_,H,rfl,
  I1.kept (t':=tk) fun b o e=>Heap.get?_push_of_some _ e,my _ lo (hi - lo).toNat,?_,fun b hb=>?_,q⟩
 ·have e1:lo+((0:Nat):Int) * 1=lo:=by simp
  have e2:(((hi - lo).toNat:Nat):Int) - ((0:Nat):Int)=Builtin.Range.rangeSize lo hi 1:=by rw [rangeSize_one];split <;> omega
  show IsRangeIter _ _ (lo+((0:Nat):Int) * 1) ((((hi - lo).toNat:Nat):Int) - ((0:Nat):Int)) 1
  rw [e1,e2]
  exact Heap.get?_push_size _ rfl
 ·have e:b=(s.heap.push { cls:=.type "range",data:=.fields #[.int lo t,.int hi u,.int 1 v] }).objs.size:=by simpa using hb
  subst e
  exact I1.eS (Nat.le_refl _) (I1.ai.fresh (Nat.le_refl _))
inductive oH (R:(It->Hp->Prop)) (vs:List V) (H1:Hp):Prop
 | mk (j:Int) (_:vs = [.int j]) (_:-(2 ^ 62)<=j) (_:j < 2 ^ 62) (_:R (j3 0 j.toNat) H1)
def sS (ta:TA):TI:=fun σ H R=>ta σ H fun vs H1=>oH R vs H1
theorem eM {a:Expr} {ta:TA} {p pos:Pos} (hg:Gl X "range") (hm:X.mg "range" = none) (ha:PA X [a] ta) (hs:starEach [a] X.env = [(false,eval a X.env)]:=by rfl):PI X tg (.Call (.Name "range" p) [a] [] pos) (sS ta):=by
 intro pins s σ H R I h
 refine Call_ (fg I hg hm boot_range (PyProof.Rows.callWith_type1 (aB (ha pos pins s σ H _ I h) fun us s1 ⟨vs,H1,I1,r1,q1⟩=>?_) hs rfl))
 obtain⟨j,e,q1,q2,q⟩:=q1
 subst e
 cases r1 with
 | cons r rr =>
  cases rr
  obtain⟨t,rfl⟩:=r
  exact call_range_1 (oG I1 (by omega) (by omega) q1 q2 (by simpa using q))
def ud (wi:TI) (g:TG) (tb:TS):TS:=fun D σ H=>wi σ H fun J H1=>∃ W:Nat->Nat->St->Hp->Prop,(∃ m,W 0 m σ H1)/\∀ i m σ H,W i m σ H ->
 (J.stop i H/\D.nx σ H)\/(J.go i H/\∃ N:St->Hp->Prop,(∀ σ' H',N σ' H'->∃ m',m' < m/\W (i+1) m' σ' H')/\∀ x H',J.pP i H x H'->g x σ H' fun σ2 H2=>tb { D with nx:=N,ct:=N,bk:=D.nx } σ2 H2)
def gc (fp:List Addr) (h:Heap):List (Addr × Obj):=fp.filterMap fun b=>(h.get? b).map fun o=>(b,o)
theorem dG {fp:List Addr} {h:Heap} {b:Addr} {o:Obj} (hb:b ∈ fp) (e:h.get? b=some o):(b,o) ∈ gc fp h:=List.mem_filterMap.mpr ⟨b,hb,by rw [e];rfl⟩
theorem m8 {fp:List Addr} {h:Heap} {p:Addr × Obj} (hp:p ∈ gc fp h):p.1 ∈ fp/\h.get? p.1=some p.2:=by
 obtain⟨b,hb,e⟩:=List.mem_filterMap.mp hp
 cases q:h.get? b with
 | none=>rw [q] at e;cases e
 | some o =>
  rw [q] at e
  have e':(b,o)=p:=Option.some.inj e
  subst e'
  exact⟨hb,q⟩
theorem Inv.pinned {pins:List (Addr × Obj)} {σ : St} {H:Hp} {s:Shared} {fp:List Addr} (I:Inv X pins σ H s) (hf:∀ b ∈ fp,df X pins H b) (ho:∀ b ∈ fp,∃ o,s.heap.get? b=some o/\∀ v,o.data ≠ .cell v):Inv X (pins++gc fp s.heap) σ H s :=
 I.lu fun p hp=>(List.mem_append.mp hp).elim (fun z=>I.pin p (List.mem_append_right _ z)) fun z=>by
  obtain⟨hb,e⟩:=m8 z
  obtain⟨f0,f1,f2,_⟩:=hf p.1 hb
  obtain⟨o,e',d⟩:=ho p.1 hb
  rw [e] at e';cases e'
  exact⟨e,f0,f1,f2,d⟩
theorem Inv.dZ {pins pl:List (Addr × Obj)} {σ : St} {H:Hp} {s:Shared} (I:Inv X (pins++pl) σ H s):Inv X pins σ H s:=I.lu fun p hp=>I.pin p (List.mem_append_right _ (List.mem_append_left _ hp))
theorem m9 {iter:Expr} {body:List Stmt} {wi:TI} {g:TG} {tb:TS} {pos:Pos} (hp:PassesOwn (model X.prog X.w) X.A X.env X.xe) (hc:X.calm=true) (hi:PI X tg iter wi) (hg:PG X tg g) (hb:fR X body tb)
  (hs:∀ x,foldedSetIterable iter X.env x=pure x:=by intro _;rfl):PS X (.For tg iter body [] pos) (ud wi g tb):=by
 intro pins s σ H D I h
 refine wpAny_For (aB (hi pins s σ H _ I h) fun v s1 h1=>aB h1 fun itv s2 h2=>?_) hs
 obtain⟨it,fp,tn,J,H2,e,I2,T,st2,f2,W,⟨m0,w0⟩,turn⟩:=h2
 subst e
 have stat:∀ {H':Hp},(∀ b ∈ fp,H' b=none)->∀ b ∈ fp,df X pins H' b:=fun hn b hb=>⟨hn b hb,(f2 b hb).2⟩
 refine codeAny_forLoop_any (fun n s'=>∃ i σ' H',Inv X pins σ' H' s'/\tn i s'.heap/\(∀ b ∈ fp,H' b=none)/\W i n σ' H') ?_ m0 ⟨0,σ,H2,I2,st2,fun b hb=>(f2 b hb).1,w0⟩
 rintro n s3 ⟨i,σ3,H3,I3,st3,fr3,w3⟩
 rcases turn i n σ3 H3 w3 with ⟨stop,qn⟩ | ⟨go,N,hN,step⟩
 ·refine wpAny_passesOwn hp (aB (T.done X rfl rfl rfl hc i pins s3 σ3 H3 X.xe I3 (stat fr3) st3 stop) fun r s4 ⟨hr,I4⟩=>?_)
  subst hr
  exact wpAny_execs_nil ⟨σ3,H3,I4,qn⟩
 ·refine wpAny_passesOwn hp (aB (T.item X rfl rfl rfl hc i pins s3 σ3 H3 X.xe I3 (stat fr3) st3 go) fun r s4 ⟨u,hr,h4⟩=>?_)
  subst hr
  refine wpAny_passesOwn hp (aB h4 fun _ s5 ⟨x,H5,I5,r5,y5,st5,fr5⟩=>?_)
  have I5':=I5.pinned (stat fr5) (T.obj _ _ st5)
  refine wpAny_passesOwn hp (aB (hg _ s5 σ3 H5 x u _ I5' r5 (step x H5 y5)) fun _ s6 ⟨σ6,H6,I6,q6⟩=>?_)
  refine wpAny_passesOwn hp (aB (hb _ s6 σ6 H6 _ I6 q6) fun f s7 q7=>?_)
  have again:∀ {σ7:St} {H7:Hp},Inv X (pins++gc fp s5.heap) σ7 H7 s7->N σ7 H7->∃ m,m < n/\∃ i σ' H',Inv X pins σ' H' s7/\tn i s7.heap/\(∀ b ∈ fp,H' b=none)/\W i m σ' H':=fun {σ7 H7} I7 n7=>by
   obtain⟨m',hm,w7⟩:=hN σ7 H7 n7
   refine⟨m',hm,i+1,σ7,H7,I7.dZ,T.keep _ _ _ st5 fun b hb o e=>(I7.pin (b,o) (List.mem_append_right _ (List.mem_append_right _ (dG hb e)))).1,fun b hb=>?_,w7⟩
   obtain⟨o,e,d⟩:=T.obj _ _ st5 b hb
   exact (I7.pin (b,o) (List.mem_append_right _ (List.mem_append_right _ (dG hb e)))).2.1
  cases f with
  | next=>obtain⟨σ7,H7,I7,n7⟩:=q7;exact again I7 n7
  | cont=>obtain⟨σ7,H7,I7,n7⟩:=q7;exact again I7 n7
  | brk=>obtain⟨σ7,H7,I7,q7⟩:=q7;exact⟨σ7,H7,I7.dZ,q7⟩
  | ret v=>obtain⟨x7,σ7,H7,I7,r7,q7⟩:=q7;exact⟨x7,σ7,H7,I7.dZ,r7,q7⟩
end
theorem je {lo:Int} {n:Nat} {g:TG} {tb:TS} {D:Ends} {σ : St} {H:Hp} (Pv:Nat->St->Hp->Prop) (h0:Pv 0 σ H)
  (hs:∀ i σ H,i < n->Pv i σ H->g (.int (lo+i)) σ H fun σ2 H2=>tb { D with nx:=Pv (i+1),ct:=Pv (i+1),bk:=D.nx } σ2 H2) (hd:∀ σ H,Pv n σ H->D.nx σ H) :
  ∃ W:Nat->Nat->St->Hp->Prop,(∃ m,W 0 m σ H)/\∀ i m σ H,W i m σ H ->
   ((j3 lo n).stop i H/\D.nx σ H)\/((j3 lo n).go i H/\∃ N:St->Hp->Prop,(∀ σ' H',N σ' H'->∃ m',m' < m/\W (i+1) m' σ' H')/\∀ x H',(j3 lo n).pP i H x H'->g x σ H' fun σ2 H2=>tb { D with nx:=N,ct:=N,bk:=D.nx } σ2 H2):=by
 refine⟨fun i m σ H=>m=n - i/\i<=n/\Pv i σ H,⟨n,by simp,Nat.zero_le _,h0⟩,?_⟩
 rintro i m σ H ⟨rfl,hi,p⟩
 by_cases hlt:i < n
 ·refine .inr ⟨hlt,Pv (i+1),fun σ' H' p'=>⟨n - (i+1),by omega,rfl,hlt,p'⟩,fun x H' y=>?_⟩
  obtain⟨e,y⟩:=y
  subst e y
  exact hs i σ _ hlt p
 ·have e:i=n:=by omega
  subst e
  exact .inl ⟨Nat.le_refl _,hd σ H p⟩
abbrev R2:=V->V->Hp->VK->Prop
def bT (X:Cx) (f:Value->Value->Sem Value) (r:R2):Prop :=
 ∀ (pins:List (Addr × Obj)) (s:Shared) (σ : St) (H:Hp) (x y:V) (v u:Value) (Q:VK),Inv X pins σ H s->RelV x v->RelV y u->r x y H Q ->
  wpAny (model X.prog X.w) X.A (f v u) (EP X pins σ Q) X.xe s
def rJ (X:Cx) (f:Value->Sem Value) (r:V->Hp->VK->Prop):Prop :=
 ∀ (pins:List (Addr × Obj)) (s:Shared) (σ : St) (H:Hp) (x:V) (v:Value) (Q:VK),Inv X pins σ H s->RelV x v->r x H Q ->
  wpAny (model X.prog X.w) X.A (f v) (EP X pins σ Q) X.xe s
def cm (X:Cx) (f:Value) (r:List V->Hp->VK->Prop):Prop :=
 ∀ (pins:List (Addr × Obj)) (s:Shared) (σ : St) (H:Hp) (xs:List V) (us:List Value) (Q:VK),Inv X pins σ H s->Vals xs us->r xs H Q ->
  wpAny (model X.prog X.w) X.A (call f us) (EP X pins σ Q) X.xe s
def nc (r:R2) (ta tb:TE):TE:=fun σ H Q=>ta σ H fun x H1=>tb σ H1 fun y H2=>r x y H2 Q
def uJ (r:V->Hp->VK->Prop) (ta:TE):TE:=fun σ H Q=>ta σ H fun x H1=>r x H1 Q
inductive rI (C:Int->Int->Prop) (g:Int->Int->V) (x:V) (y:V) (H:Hp) (Q:VK):Prop
 | mk (i j:_) (_:x=.int i) (_:y=.int j) (_:C i j) (_:Q (g i j) H)
inductive j4 (g:Int->Int->V) (x:V) (y:V) (H:Hp) (Q:VK):Prop
 | mk (i j:_) (_:x=.int i) (_:y=.int j) (_:Q (g i j) H)
inductive rU (g:Int->V) (x:V) (H:Hp) (Q:VK):Prop
 | mk (i:_) (_:x=.int i) (_:Q (g i) H)
section
variable {X:Cx} {a b c:Expr} {ta tb tc:TE} {pos:Pos}
theorem oI (ha:PE X a ta) (hb:PE X b tb) {pins:List (Addr × Obj)} {s:Shared} {σ : St} {H:Hp} {R:V->V->Hp->Prop} (I:Inv X pins σ H s)
  (h:ta σ H fun x H1=>tb σ H1 fun y H2=>R x y H2) {Q:Value->Shared->Prop} {f:Value->Value->Sem Value}
  (hf:∀ v u s2 x y H2,Inv X pins σ H2 s2->RelV x v->RelV y u->R x y H2->wpAny (model X.prog X.w) X.A (f v u) Q X.xe s2) :
  wpAny (model X.prog X.w) X.A (eval a X.env) (fun v s₁=>wpAny (model X.prog X.w) X.A (eval b X.env) (fun u s₂=>wpAny (model X.prog X.w) X.A (f v u) Q X.xe s₂) X.xe s₁) X.xe s:=by
 refine aB (ha pins s σ H _ I h) fun v s1 ⟨x,H1,I1,r1,q1⟩=>?_
 refine aB (hb pins s1 σ H1 _ I1 q1) fun u s2 ⟨y,H2,I2,r2,q2⟩=>?_
 exact hf v u s2 x y H2 I2 r1 r2 q2
theorem aM {op:Operator} {r:R2} (ho:bT X (binaryOp op) r) (ha:PE X a ta) (hb:PE X b tb):PE X (.BinOp a op b pos) (nc r ta tb):=by
 intro pins s σ H Q I h
 exact wpAny_BinOp (oI ha hb I h fun v u s2 x y H2 I2 rx ry q=>ho pins s2 σ H2 x y v u Q I2 rx ry q)
theorem pQ {op:UnaryOp} {r:V->Hp->VK->Prop} (ho:rJ X (unaryOp op) r) (ha:PE X a ta):PE X (.UnaryOp op a pos) (uJ r ta):=by
 intro pins s σ H Q I h
 exact UnaryOp_ (aB (ha pins s σ H _ I h) fun v s1 ⟨x,H1,I1,r1,q1⟩=>ho pins s1 σ H1 x v Q I1 r1 q1)
theorem lC {f:Value->Value->Sem Value} {C:Int->Int->Prop} {g:Int->Int->Int}
  (rule:∀ (i j:Int) (t u:Tok) (s:Shared) (Q:Value->Shared->Prop) (E:Value->Shared->Prop),C i j->Q (.int (g i j) s.toks) { s with toks:=s.toks+1 }->wpAny (model X.prog X.w) X.A (f (.int i t) (.int j u)) Q E s) :
  bT X f (rI C fun i j=>.int (g i j)):=by
 intro pins s σ H x y v u Q I rx ry h
 obtain⟨i,j,rfl,rfl,hc,q⟩:=h
 obtain⟨t,rfl⟩:=rx
 obtain⟨t',rfl⟩:=ry
 exact rule i j t t' s _ _ hc ⟨.int (g i j),H,I.tok _,⟨_,rfl⟩,q⟩
theorem rK {f:Value->Value->Sem Value} {g:Int->Int->Int}
  (rule:∀ (i j:Int) (t u:Tok) (s:Shared) (Q:Value->Shared->Prop) (E:Value->Shared->Prop),Q (.int (g i j) s.toks) { s with toks:=s.toks+1 }->wpAny (model X.prog X.w) X.A (f (.int i t) (.int j u)) Q E s) :
  bT X f (j4 fun i j=>.int (g i j)):=by
 intro pins s σ H x y v u Q I rx ry h
 obtain⟨i,j,rfl,rfl,q⟩:=h
 obtain⟨t,rfl⟩:=rx
 obtain⟨t',rfl⟩:=ry
 exact rule i j t t' s _ _ ⟨.int (g i j),H,I.tok _,⟨_,rfl⟩,q⟩
theorem oJ {f:Value->Value->Sem Value} {g:Int->Int->Bool}
  (rule:∀ (i j:Int) (t u:Tok) (s:Shared) (Q:Value->Shared->Prop) (E:Value->Shared->Prop),Q (.bool (g i j)) s->wpAny (model X.prog X.w) X.A (f (.int i t) (.int j u)) Q E s) :
  bT X f (j4 fun i j=>.bl (g i j)):=by
 intro pins s σ H x y v u Q I rx ry h
 obtain⟨i,j,rfl,rfl,q⟩:=h
 obtain⟨t,rfl⟩:=rx
 obtain⟨t',rfl⟩:=ry
 exact rule i j t t' s _ _ ⟨.bl (g i j),H,I,rfl,q⟩
def ue (i j:Int):Prop:=0 < j/\j < 1073741824
def uf (i j:Int):Prop:=0<=j/\j<=1000000/\i.natAbs < 2 ^ 64
def oK (i j:Int):Prop:=(-(2 ^ 64) < i/\i < 2 ^ 64)\/(-(2 ^ 64) < j/\j < 2 ^ 64)
theorem oK.ok {i j:Int} (h:oK i j):IntMulOk i j:=by
 rcases h with ⟨h1,h2⟩ | ⟨h1,h2⟩
 ·exact .of_left (intBits_le_64 h1 h2)
 ·exact .of_right (intBits_le_64 h1 h2)
theorem cA:bT X (binaryOp .Add) (j4 fun i j=>.int (i+j)):=rK fun _ _ _ _ _ _ _ q=>add_int q
theorem iA:bT X (binaryOp .Sub) (j4 fun i j=>.int (i - j)):=rK fun _ _ _ _ _ _ _ q=>sub_int q
theorem fi:bT X (binaryOp .Mult) (rI oK fun i j=>.int (i * j)):=lC fun _ _ _ _ _ _ _ hc q=>mul_int q hc.ok
theorem lF:bT X (binaryOp .FloorDiv) (rI ue fun i j=>.int (i / j)):=lC fun i j _ _ _ _ _ hc q=>by
 have h1:(0:Int) < j:=hc.1
 have h2:j < 1073741824:=hc.2
 exact floordiv_int (by omega) (by rw [Int.fdiv_eq_ediv_of_nonneg i (by omega)];exact q) (.inl (PyProof.noPylong_small (by omega)))
theorem d5:bT X (binaryOp .Mod) (rI (fun _ j=>0 < j) fun i j=>.int (i % j)):=lC fun i j _ _ _ _ _ hc q=>by
 have h1:(0:Int) < j:=hc
 exact mod_int' (by omega) (by rw [Int.fmod_eq_emod_of_nonneg i (by omega)];exact q)
theorem iB:bT X (binaryOp .Pow) (rI uf fun i j=>.int (i ^ j.toNat)):=lC fun _ _ _ _ _ _ _ hc q=>pow_int_small hc.1 hc.2.1 hc.2.2 q
theorem uK {f:Value->Sem Value} {g:Int->Int}
  (rule:∀ (i:Int) (t:Tok) (s:Shared) (Q:Value->Shared->Prop) (E:Value->Shared->Prop),Q (.int (g i) s.toks) { s with toks:=s.toks+1 }->wpAny (model X.prog X.w) X.A (f (.int i t)) Q E s) :
  rJ X f (rU fun i=>.int (g i)):=by
 intro pins s σ H x v Q I rx h
 obtain⟨i,rfl,q⟩:=h
 obtain⟨t,rfl⟩:=rx
 exact rule i t s _ _ ⟨.int (g i),H,I.tok _,⟨_,rfl⟩,q⟩
theorem ng:rJ X (unaryOp .USub) (rU fun i=>.int (-i)):=uK fun _ _ _ _ _ q=>neg_int q
end
def rL:V->V->Bool
 | .aO,.aO=>true | .aO,.int _=>true | .int _,.aO=>true | .aO,.bl _=>true | .bl _,.aO=>true | .aO,.str _=>true | .str _,.aO=>true
 | .int _,.int _=>true | .bl _,.bl _=>true | .str _,.str _=>true | .fQ _,.fQ _=>true
 | .int _,.str _=>true | .str _,.int _=>true | .bl _,.str _=>true | .str _,.bl _=>true
 | _,_=>false
def uL:R2:=fun x y H Q=>rL x y=true/\Q (.bl (decide (x=y))) H
def uM:R2:=fun x y H Q=>rL x y=true/\Q (.bl (!decide (x=y))) H
theorem lG {i j:Int}:decide (V.int i=V.int j)=(i == j):=by
 rw [Bool.eq_iff_iff]
 simp
theorem nh {i j:Bool}:decide (V.bl i=V.bl j)=(i == j):=by
 rw [Bool.eq_iff_iff]
 simp
theorem lH {i j:Str}:decide (V.str i=V.str j)=(i == j):=by
 rw [Bool.eq_iff_iff]
 simp
theorem lI {i j:Array UInt8}:decide (V.fQ i=V.fQ j)=(i.toList == j.toList):=by
 rw [Bool.eq_iff_iff]
 cases i
 cases j
 simp
section
variable {X:Cx} {a b c:Expr} {ta tb tc:TE} {pos:Pos}
theorem aN {pins:List (Addr × Obj)} {σ : St} {H:Hp} {s:Shared} {Q:VK} {k k':Bool} (I:Inv X pins σ H s) (q:Q (.bl k) H) (e:k=k'):EP X pins σ Q (.bool k') s:=by
 subst e
 exact⟨.bl k,H,I,rfl,q⟩
theorem dH:bT X (compareOp .Eq) uL:=by
 intro pins s σ H x y v u Q I rx ry h
 obtain⟨hs,q⟩:=h
 cases x with
 | aO =>
  cases rx
  cases y with
  | aO=>cases ry;exact PySem.EqNone.eq_none_none (aN I q (by simp))
  | bl j=>cases ry;exact PySem.EqNone.eq_none_bool (aN I q (by simp))
  | int j=>obtain⟨t',rfl⟩:=ry;exact PySem.EqNone.eq_none_int (aN I q (by simp))
  | str j=>obtain⟨t',rfl⟩:=ry;exact PySem.EqNone.eq_none_str (aN I q (by simp))
  | _=>exact absurd (show false=true from hs) Bool.false_ne_true
 | bl i =>
  cases rx
  cases y with
  | aO=>cases ry;exact PySem.EqNone.eq_bool_none (aN I q (by simp))
  | bl j=>cases ry;exact eq_bool (aN I q nh)
  | str j=>obtain⟨t',rfl⟩:=ry;exact PySem.EqMixed.eq_bool_str (aN I q (by simp))
  | _=>exact absurd (show false=true from hs) Bool.false_ne_true
 | int i =>
  obtain⟨t,rfl⟩:=rx
  cases y with
  | aO=>cases ry;exact PySem.EqNone.eq_int_none (aN I q (by simp))
  | int j=>obtain⟨t',rfl⟩:=ry;exact eq_int (aN I q lG)
  | str j=>obtain⟨t',rfl⟩:=ry;exact PySem.EqMixed.eq_int_str (aN I q (by simp))
  | _=>exact absurd (show false=true from hs) Bool.false_ne_true
 | str i =>
  obtain⟨t,rfl⟩:=rx
  cases y with
  | aO=>cases ry;exact PySem.EqNone.eq_str_none (aN I q (by simp))
  | bl j=>cases ry;exact PySem.EqMixed.eq_str_bool (aN I q (by simp))
  | int j=>obtain⟨t',rfl⟩:=ry;exact PySem.EqMixed.eq_str_int (aN I q (by simp))
  | str j=>obtain⟨t',rfl⟩:=ry;exact eq_str (aN I q lH)
  | _=>exact absurd (show false=true from hs) Bool.false_ne_true
 | fQ i =>
  obtain⟨t,rfl⟩:=rx
  cases y with
  | fQ j=>obtain⟨t',rfl⟩:=ry;exact PySem.W.eq_bytes (aN I q lI)
  | _=>exact absurd (show false=true from hs) Bool.false_ne_true
 | _=>cases y <;> exact absurd (show false=true from hs) Bool.false_ne_true
theorem jL:bT X (compareOp .NotEq) uM:=by
 intro pins s σ H x y v u Q I rx ry h
 obtain⟨hs,q⟩:=h
 cases x with
 | aO =>
  cases rx
  cases y with
  | aO=>cases ry;exact PySem.EqNone.ne_none_none (aN I q (by simp))
  | bl j=>cases ry;exact PySem.EqNone.ne_none_bool (aN I q (by simp))
  | int j=>obtain⟨t',rfl⟩:=ry;exact PySem.EqNone.ne_none_int (aN I q (by simp))
  | str j=>obtain⟨t',rfl⟩:=ry;exact PySem.EqNone.ne_none_str (aN I q (by simp))
  | _=>exact absurd (show false=true from hs) Bool.false_ne_true
 | bl i =>
  cases rx
  cases y with
  | aO=>cases ry;exact PySem.EqNone.ne_bool_none (aN I q (by simp))
  | bl j=>cases ry;exact ne_bool (aN I q (congrArg not nh))
  | str j=>obtain⟨t',rfl⟩:=ry;exact PySem.EqMixed.ne_bool_str (aN I q (by simp))
  | _=>exact absurd (show false=true from hs) Bool.false_ne_true
 | int i =>
  obtain⟨t,rfl⟩:=rx
  cases y with
  | aO=>cases ry;exact PySem.EqNone.ne_int_none (aN I q (by simp))
  | int j=>obtain⟨t',rfl⟩:=ry;exact ne_int (aN I q (congrArg not lG))
  | str j=>obtain⟨t',rfl⟩:=ry;exact PySem.EqMixed.ne_int_str (aN I q (by simp))
  | _=>exact absurd (show false=true from hs) Bool.false_ne_true
 | str i =>
  obtain⟨t,rfl⟩:=rx
  cases y with
  | aO=>cases ry;exact PySem.EqNone.ne_str_none (aN I q (by simp))
  | bl j=>cases ry;exact PySem.EqMixed.ne_str_bool (aN I q (by simp))
  | int j=>obtain⟨t',rfl⟩:=ry;exact PySem.EqMixed.ne_str_int (aN I q (by simp))
  | str j=>obtain⟨t',rfl⟩:=ry;exact ne_str (aN I q (congrArg not lH))
  | _=>exact absurd (show false=true from hs) Bool.false_ne_true
 | fQ i =>
  obtain⟨t,rfl⟩:=rx
  cases y with
  | fQ j=>obtain⟨t',rfl⟩:=ry;exact PySem.W.ne_bytes (aN I q (congrArg not lI))
  | _=>exact absurd (show false=true from hs) Bool.false_ne_true
 | _=>cases y <;> exact absurd (show false=true from hs) Bool.false_ne_true
theorem jM:bT X (compareOp .Lt) (j4 fun i j=>.bl (decide (i < j))):=oJ fun _ _ _ _ _ _ _ q=>lt_int q
theorem gP:bT X (compareOp .LtE) (j4 fun i j=>.bl (decide (i<=j))):=oJ fun _ _ _ _ _ _ _ q=>le_int q
theorem iC:bT X (compareOp .Gt) (j4 fun i j=>.bl (decide (j < i))):=oJ fun _ _ _ _ _ _ _ q=>gt_int q
theorem aV (b:Expr) {op:CmpOp} (h:op ≠ .In:=by decide) (h2:op ≠ .NotIn:=by decide):behindInMarks op b=false:=by
 have e1:(op == CmpOp.In)=false:=by cases op <;> first | rfl | exact absurd rfl h
 have e2:(op == CmpOp.NotIn)=false:=by cases op <;> first | rfl | exact absurd rfl h2
 cases b <;> simp [behindInMarks,e1,e2]
theorem iZ {op:CmpOp} {r:R2} (ho:bT X (compareOp op) r) (ha:PE X a ta) (hb:PE X b tb) (hm:behindInMarks op b=false):PE X (.Compare a [op] [b] pos) (nc r ta tb):=by
 intro pins s σ H Q I h
 exact wpAny_Compare1 (oI ha hb I h fun v u s2 x y H2 I2 rx ry q=>ho pins s2 σ H2 x y v u Q I2 rx ry q) hm
inductive oM (Q:(Bool->Hp->Prop)) (x:V) (H':Hp):Prop
 | mk (k:_) (_:x=.bl k) (_:Q k H')
def pR (t:TE):TT:=fun σ H Q=>t σ H fun x H'=>oM Q x H'
theorem aR {op:CmpOp} {r:R2} (ho:bT X (compareOp op) r) (ha:PE X a ta) (hb:PE X b tb) (hm:behindInMarks op b=false):PT X (.Compare a [op] [b] pos) (pR (nc r ta tb)):=by
 intro pins s σ H Q I h
 refine wpAny_isTrue_Compare1 (aB (ha pins s σ H _ I h) fun v s1 ⟨x,H1,I1,r1,q1⟩=>aB (hb pins s1 σ H1 _ I1 q1) fun u s2 ⟨y,H2,I2,r2,q2⟩ =>
  aB (ho pins s2 σ H2 x y v u _ I2 r1 r2 q2) fun c s3 ⟨z,H3,I3,r3,k,e,q3⟩=>?_) hm
 subst e
 cases r3
 exact wpAny_truthy_bool ⟨H3,I3,q3⟩
inductive ni (r':R2) (tc:TE) (σ : St) (Q:VK) (y:V) (z:V) (H3:Hp):Prop
 | mk (k:_) (_:z=.bl k) (_:(if k=true then tc σ H3 fun w' H4=>r' y w' H4 Q else Q (.bl false) H3))
def nj (r r':R2) (ta tb tc:TE):TE:=fun σ H Q=>ta σ H fun x H1=>tb σ H1 fun y H2=>r x y H2 fun z H3=>ni r' tc σ Q y z H3
theorem hZ {op op':CmpOp} {r r':R2} (ho:bT X (compareOp op) r) (ho':bT X (compareOp op') r') (ha:PE X a ta) (hb:PE X b tb) (hc:PE X c tc)
  (hm:lastMarks [op,op'] [b,c] = false:=by with_unfolding_all rfl):PE X (.Compare a [op,op'] [b,c] pos) (nj r r' ta tb tc):=by
 intro pins s σ H Q I h
 refine Compare_chain (aB (ha pins s σ H _ I h) fun v s1 ⟨x,H1,I1,r1,q1⟩=>chain_link (aB (hb pins s1 σ H1 _ I1 q1) fun u s2 ⟨y,H2,I2,r2,q2⟩ =>
  aB (ho pins s2 σ H2 x y v u _ I2 r1 r2 q2) fun d s3 ⟨z,H3,I3,r3,k,e,q3⟩=>?_)) hm
 subst e
 cases r3
 refine wpAny_truthy_bool ?_
 cases k with
 | false=>exact ite_ff ⟨.bl false,H3,I3,rfl,q3⟩
 | true=>exact ite_tt (chain_last (aB (hc pins s3 σ H3 _ I3 q3) fun w' s4 ⟨z',H4,I4,r4,q4⟩=>ho' pins s4 σ H4 y z' u w' Q I4 r2 r4 q4))
theorem j5 {op op':CmpOp} {r r':R2} (ho:bT X (compareOp op) r) (ho':bT X (compareOp op') r') (ha:PE X a ta) (hb:PE X b tb) (hc:PE X c tc)
  (hm:lastMarks [op,op'] [b,c] = false:=by with_unfolding_all rfl):PT X (.Compare a [op,op'] [b,c] pos) (pR (nj r r' ta tb tc)):=by
 intro pins s σ H Q I h
 refine isTrue_chain (aB (ha pins s σ H _ I h) fun v s1 ⟨x,H1,I1,r1,q1⟩=>test_link (aB (hb pins s1 σ H1 _ I1 q1) fun u s2 ⟨y,H2,I2,r2,q2⟩ =>
  aB (ho pins s2 σ H2 x y v u _ I2 r1 r2 q2) fun d s3 ⟨z,H3,I3,r3,k,e,q3⟩=>?_)) hm
 subst e
 cases r3
 refine wpAny_truthy_bool ?_
 cases k with
 | false =>
  obtain⟨k',e',q'⟩:=q3
  cases e'
  exact ite_ff ⟨H3,I3,q'⟩
 | true =>
  refine ite_tt (test_last (aB (hc pins s3 σ H3 _ I3 q3) fun w' s4 ⟨z',H4,I4,r4,q4⟩=>aB (ho' pins s4 σ H4 y z' u w' _ I4 r2 r4 q4) fun d' s5 ⟨z2,H5,I5,r5,k2,e2,q5⟩=>?_))
  subst e2
  cases r5
  exact wpAny_truthy_bool ⟨H5,I5,q5⟩
theorem fj:(sizeLine:Nat) < 2 ^ 63:=by rw [sizeLine_eq];decide
theorem vals1 {x:V} {us:List Value} (r:Vals [x] us):∃ u,us = [u]/\RelV x u:=by
 cases r with
 | cons r1 r2=>cases r2;exact⟨_,rfl,r1⟩
theorem vals2 {x y:V} {us:List Value} (r:Vals [x,y] us):∃ u w',us = [u,w']/\RelV x u/\RelV y w':=by
 cases r with
 | cons r1 r2 =>
  cases r2 with
  | cons r3 r4=>cases r4;exact⟨_,_,rfl,r1,r3⟩
theorem nq (hc:X.calm=true):cm X (.builtin "min") (fun xs H Q=>∃ i j,xs = [.int i,.int j]/\Q (.int (if j < i then j else i)) H):=by
 intro pins s σ H xs us Q I r h
 obtain⟨i,j,rfl,q⟩:=h
 obtain⟨u,w',rfl,⟨t,rfl⟩,⟨t',rfl⟩⟩:=vals2 r
 refine min_two_ints (I.ok.hd hc) fun h' tk k=>⟨_,H,I.kept k,?_,q⟩
 by_cases hj:j < i
 ·rw [if_pos hj,if_pos hj];exact⟨_,rfl⟩
 ·rw [if_neg hj,if_neg hj];exact⟨_,rfl⟩
theorem jf:cm X (.type "int") (fun xs H Q=>(∃ i,xs = [.int i]/\Q (.int i) H)\/∃ k,xs = [.bl k]/\Q (.int (if k then 1 else 0)) H):=by
 intro pins s σ H xs us Q I r h
 rcases h with ⟨i,rfl,q⟩ | ⟨k,rfl,q⟩
 ·obtain⟨u,rfl,t,rfl⟩:=vals1 r
  exact call_int_int ⟨.int i,H,I,⟨_,rfl⟩,q⟩
 ·obtain⟨u,rfl,r1⟩:=vals1 r
  cases r1
  exact call_int_bool ⟨.int (if k then 1 else 0),H,I.tok _,⟨_,rfl⟩,q⟩
end
structure oN (h:Heap) (x dx C:Addr) (mA:Str->Option Value):Prop where
 obj:h.get? x=some (PySem.W.instObj C dx)
 ns:h.Ns1 dx mA
 ne:dx ≠ x
theorem nr {h:Heap} {dx:Addr} {mA:Str->Option Value} (n:h.Ns1 dx mA):∃ od,h.get? dx=some od/\∀ name,PySem.W.lookIn name od=some (mA name):=by
 obtain⟨o,es,ep,ho,hd,hk,_,hm⟩:=n
 refine⟨o,ho,fun name=>?_⟩
 have e:=hm name
 unfold nsFind findBy at e
 rw [<-Array.find?_toList] at e
 unfold PySem.W.lookIn
 rw [hd]
 dsimp only
 split
 ·rename_i y q
  rw [q] at e
  exact congrArg some e
 ·rename_i q
  rw [q] at e
  have a:es.toList.any (·.refKey)=false:=by
   rw [List.any_eq_false]
   intro y hy
   obtain⟨z,t,hkey⟩:=hk y (Array.mem_toList_iff.mp hy)
   simp [DictEntry.refKey,hkey]
  have a':¬ es.toList.any (·.refKey)=true:=by rw [a];exact Bool.false_ne_true
  rw [if_neg a']
  exact congrArg some e
theorem oN.look {h:Heap} {x dx C:Addr} {mA:Str->Option Value} (I:oN h x dx C mA):∃ od,PySem.W.InstAt h x (PySem.W.instObj C dx) C (some od)/\∀ name,PySem.W.lookIn name od=some (mA name) :=
 let ⟨od,ho,hl⟩:=nr I.ns
 ⟨od,⟨I.obj,rfl,rfl,ho⟩,hl⟩
section
variable {prog:Program} {w:World} {A:Around} {E:Value->Shared->Prop} {s:Shared} {K:PySem.W.Frag} {x dx C f:Addr} {mA:Str->Option Value} {name:Str} {v:Value}
end
section
variable {P:Program} {w:World} {H H':Hp} {h h':Heap} {a C dx:Addr} {fs fs':List (Str × V)}
theorem ql (ai:bX P w H h) (e:H a=some (.ins C dx fs)):∃ mA,oN h a dx C mA/\(∀ f,ox (fs.lookup f) (mA f))/\PySem.Within mA (fs.map (·.1))/\fs.length<=1000/\H dx=some (.own a):=by
 obtain⟨d,z,ne,ob,mA,n,r,q⟩:=(show bA P w H h a (.ins C dx fs) from ai a _ e)
 exact⟨mA,⟨ob,n,ne⟩,r,q,z,d⟩
end
structure rM (K:PySem.W.Frag) (C:Addr):Prop where
 pg:PySem.W.plainGet K C Str.empty=true
 hd:PySem.W.hasDictIn K C=true
 po:PySem.W.plainOver K C=true
 sa:PySem.W.findIn K (.ref C) "__setattr__" = some (some (.builtin "object.__setattr__"))
theorem rM.get {K:PySem.W.Frag} {C:Addr} (c:rM K C) (f:Str):PySem.W.plainGet K C f=true:=c.pg
section
variable {X:Cx} {pins:List (Addr × Obj)} {σ : St} {H:Hp} {s:Shared} {a C dx:Addr} {fs:List (Str × V)} {f:Str} {v:V} {A:Around} {E:Value->Shared->Prop}
end
section
variable {X:Cx} {o e value:Expr} {f:Str} {pos pos' tpos:Pos} {ta tv:TE}
end
section
variable {X:Cx} {pins:List (Addr × Obj)} {σ : St} {H:Hp} {s:Shared} {A:Around} {E:Value->Shared->Prop} {Q:Value->Shared->Prop} {c:Value} {b:Bool}
inductive cR (K:PySem.W.Frag) (H:Hp):V->Value->Prop where
 | aO:cR K H .aO (.type "NoneType")
 | bl (x:Bool):cR K H (.bl x) (.type "bool")
 | int (i:Int):cR K H (.int i) (.type "int")
 | str (x:Str):cR K H (.str x) (.type "str")
 | jQ (x:UInt64):cR K H (.jQ x) (.type "float")
 | lst {a:Addr} {xs:List V} (e:H a=some (.lst xs)):cR K H (.ref a) (.type "list")
 | eI {a:Addr} {o:Obj} {xs:List V} (e:H a=some (.eI o (.lst xs))):cR K H (.ref a) (.type "list")
 | tup {a:Addr} {xs:List V} (e:H a=some (.tup xs)):cR K H (.ref a) (.type "tuple")
 | dK {a:Addr} {kvs:List (Key × V)} (e:H a=some (.dK kvs)):cR K H (.ref a) (.type "dict")
 | dT {a:Addr} {kvs:List (List Key × V)} (e:H a=some (.dT kvs)):cR K H (.ref a) (.type "dict")
 | ins {a C dx:Addr} {fs:List (Str × V)} (e:H a=some (.ins C dx fs)) (cl:rM K C) (ha:PySem.W.findIn K (.ref C) "__class__" = some (some (.builtin "object.__class__")))
   (hn:PySem.W.specialIn K (.builtin "object.__class__") "__get__" = some (some (.builtin "getset_descriptor.__get__"))) (htk:PySem.W.takesIn K (.builtin "object.__class__")=some true)
   (hm:PySem.W.mroIn K C (.type "object")=some true):cR K H (.ref a) (.ref C)
theorem nu {x:V} {u t:Value} (I:Inv X pins σ H s) (rx:RelV x u) (ty:cR X.K H x t) (e:PySem.W.kitOne X.K t c=some b) (h:∀ tk,Q (.bool b) { s with toks:=tk }) :
  wpAny (model X.prog X.w) A (call (.builtin "isinstance") [u,c]) Q E s:=by
 cases ty with
 | aO=>cases (show u=Value.none from rx);exact PySem.W.kia_one PySem.W.kitx_none I.cQ True.intro e (fun z=>nomatch z) h
 | bl y=>cases (show u=Value.bool y from rx);exact PySem.W.kia_one PySem.W.kitx_bool I.cQ True.intro e (fun z=>nomatch z) h
 | int i=>obtain⟨t,q⟩:=(show ∃ t,u=Value.int i t from rx);cases q;exact PySem.W.kia_one PySem.W.kitx_int I.cQ True.intro e (fun z=>nomatch z) h
 | str y=>obtain⟨t,q⟩:=(show ∃ t,u=Value.str y t from rx);cases q;exact PySem.W.kia_one PySem.W.kitx_str I.cQ True.intro e (fun z=>nomatch z) h
 | jQ y=>obtain⟨t,q⟩:=(show ∃ t,u=Value.float y t from rx);cases q;exact PySem.W.kia_one PySem.W.kitx_float I.cQ True.intro e (fun z=>nomatch z) h
 | @lst a xs ea =>
  cases (show u=Value.ref a from rx)
  obtain⟨_,_,n,_,h1⟩:=(show bA X.prog X.w H s.heap a (.lst xs) from I.ai a _ ea)
  exact PySem.W.kia_one PySem.W.kitx_list I.cQ ⟨_,h1,rfl⟩ e (fun z=>nomatch z) h
 | @eI a ob xs ea =>
  cases (show u=Value.ref a from rx)
  obtain⟨_,_,_,n,_,h1⟩:=(show bA X.prog X.w H s.heap a (.eI ob (.lst xs)) from I.ai a _ ea)
  exact PySem.W.kia_one PySem.W.kitx_list I.cQ ⟨_,h1,rfl⟩ e (fun z=>nomatch z) h
 | @tup a xs ea =>
  cases (show u=Value.ref a from rx)
  obtain⟨_,_,_,p⟩:=(show bA X.prog X.w H s.heap a (.tup xs) from I.ai a _ ea)
  obtain⟨o,h1,h2,_⟩:=p
  exact PySem.W.kia_one PySem.W.kitx_tuple I.cQ ⟨o,h1,h2⟩ e (fun z=>nomatch z) h
 | @dK a kvs ea =>
  cases (show u=Value.ref a from rx)
  obtain⟨_,_,vs,_,p⟩:=(show bA X.prog X.w H s.heap a (.dK kvs) from I.ai a _ ea)
  obtain⟨o,es,ep,h1,h2,_⟩:=p
  exact PySem.W.kia_one PySem.W.kitx_dict I.cQ ⟨o,h1,h2.1⟩ e (fun z=>nomatch z) h
 | @dT a kvs ea =>
  cases (show u=Value.ref a from rx)
  obtain⟨_,_,xs,_,o,es,ep,h1,h2,_⟩:=(show bA X.prog X.w H s.heap a (.dT kvs) from I.ai a _ ea)
  exact PySem.W.kia_one PySem.W.kitx_dict I.cQ ⟨o,h1,h2.1⟩ e (fun z=>nomatch z) h
 | @ins a C dx fs ea cl ha hn htk hm =>
  cases (show u=Value.ref a from rx)
  obtain⟨mA,O,_⟩:=ql I.ai ea
  obtain⟨od,J,_⟩:=O.look
  exact PySem.W.kia_one (PySem.W.kitx_own (cl.get _) cl.hd ha hn htk hm) I.cQ J e (fun z=>nomatch z) h
end
structure bZ (k:Nat) (A:Around):Prop where
 hd:A.handled=none
 dp:A.depth+3 * k+5 < recursionLimit
 un:A.units+16 * k+200 < cLine
theorem bZ.mono {j k:Nat} {A:Around} (r:bZ k A) (h:j<=k):bZ j A:=⟨r.hd,by have:=r.dp;omega,by have:=r.un;omega⟩
theorem bZ.deeper {k:Nat} {A:Around} (r:bZ (k+1) A) (env:Env):bZ k (A.deeper env) :=
 ⟨r.hd,by have:=r.dp;show A.depth+1+3 * k+5 < _;omega,by have:=r.un;show A.units+3+16 * k+200 < _;omega⟩
theorem bZ.depth {k:Nat} {A:Around} (r:bZ k A):A.depth < recursionLimit:=by have:=r.dp;omega
theorem bZ.units {k:Nat} {A:Around} (r:bZ k A):A.units+64 < cLine:=by have:=r.un;omega
def mz:TA:=fun _ H Q=>Q [] H
def fA (ta:TE) (tr:TA):TA:=fun σ H Q=>ta σ H fun x H1=>tr σ H1 fun xs H2=>Q (x :: xs) H2
section
variable {X:Cx} {e:Expr} {es:List Expr} {te:TE} {t:TA} {pos:Pos}
theorem d6:PA X [] mz:=fun _ _ _ _ H Q I h=>Calls.spliced_nil ⟨[],H,I,.nil,h⟩
theorem br (ha:PE X e te) (hr:PA X es t) (hs:starEach (e :: es) X.env=(false,eval e X.env) :: starEach es X.env:=by rfl):PA X (e :: es) (fA te t):=by
 intro pos pins s σ H Q I h
 rw [hs]
 show wpAny _ _ (spliced ((false,eval e X.env) :: backTo pos (starEach es X.env))) _ _ s
 refine Calls.spliced_cons (aB (ha pins s σ H _ I h) fun u s1 ⟨x,H1,I1,r1,q1⟩=>?_)
 exact aB (hr pos pins s1 σ H1 _ I1 q1) fun us s2 ⟨xs,H2,I2,r2,q2⟩=>⟨x :: xs,H2,I2,.cons r1 r2,q2⟩
def ug (t:TA):TE:=fun σ H Q=>t σ H fun xs H1=>xs.length<=sizeLine/\∀ p,H1 p=none->Q (.ref p) (upd H1 p (.tup xs))
def uh (t:TA):TE:=fun σ H Q=>t σ H fun xs H1=>xs.length<=sizeLine/\∀ p,H1 p=none->Q (.ref p) (upd H1 p (.lst xs))
theorem cB {x1} (h:PA X es t):PE X (.Tuple es x1 pos) (ug t):=by
 intro pins s σ H Q I hq
 refine wpAny_Tuple_spliced (aB (h pos pins s σ H _ I hq) fun us s1 ⟨xs,H1,I1,r,z,q⟩=>⟨by rw [<-r.length];exact z,?_⟩)
 have hf:H1 s1.heap.objs.size=none:=I1.ai.fresh (Nat.le_refl _)
 refine⟨.ref s1.heap.objs.size,upd H1 s1.heap.objs.size (.tup xs),I1.laid (t':=s1.toks) (fun b u e=>Heap.get?_push_of_some _ e) (Nat.le_refl _) ?_,rfl,q _ hf⟩
 exact⟨z,us,r,⟨_,Heap.get?_push_size _ rfl,rfl,_,rfl,rfl⟩⟩
theorem cC (h:PA X es t):PE X (.List es pos) (uh t):=by
 intro pins s σ H Q I hq
 refine wpAny_List_spliced (aB (h pos pins s σ H _ I hq) fun us s1 ⟨xs,H1,I1,r,z,q⟩=>⟨by rw [<-r.length];exact z,?_⟩)
 have hf:H1 s1.heap.objs.size=none:=I1.ai.fresh (Nat.le_refl _)
 refine⟨.ref s1.heap.objs.size,upd H1 s1.heap.objs.size (.lst xs),I1.laid (t':=s1.toks) (fun b u e=>Heap.get?_push_of_some _ e) (Nat.le_refl _) ?_,rfl,q _ hf⟩
 exact⟨z,us,0,r,Heap.get?_push_size _ rfl⟩
end
abbrev Sp:=List V->Hp->VK->XK->Prop
abbrev gd:=List Env->Hp->Shared->XK->Value->Shared->Prop
structure mB (P:Program) (w:World) (K:PySem.W.Frag) (mg:Str->Option Value) (base:Heap) (A:Around) (outer:List Env) (s:Shared) (H:Hp):Prop where
 frames:A.frames=some outer
 mod:Mod K mg base
 bs:∀ b o,base.get? b=some o->s.heap.get? b=some o/\H b=none
 jc:base.objs.size<=s.heap.objs.size
 dW:s.heap.FunFrames base outer
 lq:∀ b ∈ fX outer,H b=none
 ai:bX P w H s.heap
 bare:AllBare s.gens
def CE (outer:List Env) (P:Program) (w:World) (H:Hp) (s:Shared) (Q:VK) (u:Value) (s':Shared):Prop :=
 ∃ v H',s'.os=s.os/\AllBare s'.gens/\Un (fX outer) [] H H' s.heap s'.heap/\bX P w H' s'.heap/\RelV v u/\Q v H'
def CR (CX:gd) (outer:List Env) (P:Program) (w:World) (H:Hp) (s:Shared) (Q:VK) (E:XK) (r:Result) (s':Shared):Prop :=
 match r with
 | .ok (.ret u)=>CE outer P w H s Q u s'
 | .ok _=>False
 | .error e=>CX outer H s E e s'
structure bf (P:Program) (w:World) (K:PySem.W.Frag) (mg:Str->Option Value) (base:Heap) (CX:gd) (k:Nat) (f:Addr) (fd:FuncData) (ps:List Str) (sp:Sp):Prop where
 len:∀ vs H Q E,sp vs H Q E->vs.length=ps.length
 run:∀ (A:Around) (outer:List Env) (s:Shared) (H:Hp) (args:Args) (us:List Value) (vs:List V) (Q:VK) (E:XK),bZ k A->mB P w K mg base A outer s H->BindsTo s fd args (ps.zip us)->Vals vs us->sp vs H Q E ->
  codeAny (model P w) A (.call (.ref f) args) (CR CX outer P w H s Q E) s
section
variable {X:Cx} {pins:List (Addr × Obj)} {σ : St} {H:Hp} {s s':Shared}
theorem Inv.uk (I:Inv X pins σ H s):mB X.prog X.w X.K X.mg X.base X.A X.stack s H :=
 ⟨I.ok.frames,I.ok.mod,I.bs,Nat.le_trans I.ok.jc I.sz,I.stack,I.lr,I.ai,I.bare⟩
theorem Inv.after {Q:VK} {u:Value} (I:Inv X pins σ H s) (h:CE X.stack X.prog X.w H s Q u s'):EP X pins σ Q u s':=by
 obtain⟨v,H',os,bare,un,ai,r,q⟩:=h
 obtain⟨hh,g,d,t,os'⟩:=s'
 obtain rfl:os' = s.os:=os
 exact⟨v,H',I.call (h':=hh) (g':=g) (d':=d) (t':=t) (ch:=[]) un ai bare (fun b z=>absurd z (by simp)),r,q⟩
end
def mC (sp:Sp) (dvs:List V) (E:XK) (t:TA):TE:=fun σ H Q=>t σ H fun vs H1=>sp (vs++dvs) H1 Q E
def Binds (K:PySem.W.Frag) (fd:FuncData) (ps:List Str) (ds:List Value):Prop :=
 ∀ (s:Shared) (us:List Value),K.In s.heap->(us++ds).length=ps.length->BindsTo s fd ⟨us,[]⟩ (ps.zip (us++ds))
theorem Binds.all {K:PySem.W.Frag} {fd:FuncData} {ps:List Str} (h:∀ us:List Value,us.length=ps.length->bindArgs fd ⟨us,[]⟩=pure (ps.zip us)):Binds K fd ps []:=fun s us _ hl=>by
 rw [List.append_nil] at hl ⊢
 exact .of_eq (h us hl)
def Passes (CX:gd) (X:Cx) (E:XK):Prop:=∀ (pins:List (Addr × Obj)) (σ : St) (H:Hp) (s:Shared) (e:Value) (s':Shared),Inv X pins σ H s->CX X.stack H s E e s'->X.xe e s'
section
variable {X:Cx} {CX:gd} {k:Nat} {f C:Addr} {fd:FuncData} {ps:List Str} {sp:Sp} {dvs:List V} {ds:List Value} {E:XK} {x m:Str} {p pos apos:Pos} {e o:Expr} {es:List Expr} {ta:TE} {t:TA}
theorem rN {pins:List (Addr × Obj)} {σ : St} {H:Hp} {s:Shared} {Q:VK} {us:List Value} {vs:List V} (F:bf X.prog X.w X.K X.mg X.base CX k f fd ps sp) (hr:bZ k X.A) (hb:Binds X.K fd ps ds) (hd:Vals dvs ds) (hx:Passes CX X E)
  (I:Inv X pins σ H s) (r:Vals vs us) (h:sp (vs++dvs) H Q E):wpAny (model X.prog X.w) X.A (call (.ref f) us) (EP X pins σ Q) X.xe s:=by
 have r2:Vals (vs++dvs) (us++ds):=r.append hd
 have hl:(us++ds).length=ps.length:=by rw [<-r2.length];exact F.len _ _ _ _ h
 refine wpAny_call (codeAny_mono (F.run X.A X.stack s H ⟨us,[]⟩ (us++ds) (vs++dvs) Q E hr I.uk (hb s us I.cQ hl) r2 h) fun r s' hq=>?_)
 cases r with
 | error e=>exact hx pins σ H s e s' I hq
 | ok fl =>
  cases fl with
  | ret u=>exact I.after hq
  | next=>exact False.elim hq
  | brk=>exact False.elim hq
  | cont=>exact False.elim hq
theorem qm (F:bf X.prog X.w X.K X.mg X.base CX k f fd ps sp) (hr:bZ k X.A) (hg:Gl X x) (hm:X.mg x=some (.ref f)) (hk:PySem.W.keepIn X.K (.ref f)=true) (hb:Binds X.K fd ps ds) (hd:Vals dvs ds) (hx:Passes CX X E)
  (ha:PA X (e :: es) t) (hdb:(x == ("__debug__" : Str))=false:=by decide) (he:starEach (e :: es) X.env=(false,eval e X.env) :: starEach es X.env:=by rfl) (hpl:(backTo pos (starEach es X.env)).any (·.1)=false:=by rfl) :
  PE X (.Call (.Name x p) (e :: es) [] pos) (mC sp dvs E t):=by
 intro pins s σ H Q I h
 refine wpAny_Call_Name_kw (lA I hg hm ?_ hdb)
 refine PySem.W.callWith_K (h₀:=X.base) I.ok.mod.rl hk (aB (ha pos pins s σ H _ I h) fun us s1 ⟨vs,H1,I1,r,q⟩=>⟨I1.cQ,?_⟩) he hpl
 exact rN F hr hb hd hx I1 r q
end
section
variable {X:Cx} {CX:gd} {k:Nat} {f C:Addr} {fd:FuncData} {ps ks:List Str} {sp:Sp} {E:XK} {x m:Str} {p pos apos kpos:Pos} {e o:Expr} {es:List Expr} {kws:List Keyword} {te ta:TE} {t tk:TA} {nm:Option Str}
variable {g:List Value->List Value->List Value} {gV:List V->List V->List V}
end
structure aC (N P:List Str) (sc:Scope):Prop where
 kind:sc.kind=.function
 co:sc.isCoroutine=false
 gen:sc.isGenerator=false
 nd:N.Nodup
 pre:N.take P.length=P
 par:∀ x ∈ P,sc.names.lookup x=some .local\/sc.names.lookup x=some .cell
 rO:∀ y ∈ sc.names,y.2 ≠ .free
theorem jg {kindOf:Str->Option NameKind} {x:Str}:∀ {binds:List (Str × Value)} {m:Str->Option Value},(∀ v,(x,v) ∉ binds)->bindL kindOf binds m x=m x
 | [],_,_=>rfl
 | (n,v) :: r,m,h=>by
  unfold bindL
  rw [jg fun w hw=>h w (List.mem_cons_of_mem _ hw)]
  split
  ·have:x ≠ n:=by rintro rfl;exact h v List.mem_cons_self
   simp [this]
  ·rfl
theorem jh {kindOf:Str->Option NameKind} {x:Str}:∀ {binds:List (Str × Value)} {m:Str->Option Value},(∀ v,(x,v) ∉ binds)->bindC kindOf binds m x=m x
 | [],_,_=>rfl
 | (n,v) :: r,m,h=>by
  unfold bindC
  rw [jh fun w hw=>h w (List.mem_cons_of_mem _ hw)]
  split
  ·rfl
  ·have:x ≠ n:=by rintro rfl;exact h v List.mem_cons_self
   simp [this]
theorem ji {kindOf:Str->Option NameKind} {x:Str} {v:Value}:∀ {P:List Str} {vs:List Value} {i:Nat} {m:Str->Option Value},P.Nodup->P[i]? = some x->vs[i]? = some v->kindOf x=some .local ->
  bindL kindOf (P.zip vs) m x=some v
 | [],_,_,_,_,h,_,_=>by simp at h
 | _ :: _,[],_,_,_,_,h,_=>by simp at h
 | p :: P,w :: vs,0,m,nd,h1,h2,hk=>by
  simp at h1 h2;subst h1;subst h2
  show bindL kindOf ((p,w) :: P.zip vs) m p=_
  unfold bindL
  rw [jg fun v hv=>(List.nodup_cons.mp nd).1 (List.of_mem_zip hv).1,if_pos hk]
  simp
 | p :: P,w :: vs,i+1,m,nd,h1,h2,hk=>by
  show bindL kindOf ((p,w) :: P.zip vs) m x=_
  unfold bindL
  exact ji (i:=i) (List.nodup_cons.mp nd).2 (by simpa using h1) (by simpa using h2) hk
theorem jj {kindOf:Str->Option NameKind} {x:Str} {v:Value}:∀ {P:List Str} {vs:List Value} {i:Nat} {m:Str->Option Value},P.Nodup->P[i]? = some x->vs[i]? = some v->kindOf x ≠ some .local ->
  bindC kindOf (P.zip vs) m x=some v
 | [],_,_,_,_,h,_,_=>by simp at h
 | _ :: _,[],_,_,_,_,h,_=>by simp at h
 | p :: P,w :: vs,0,m,nd,h1,h2,hk=>by
  simp at h1 h2;subst h1;subst h2
  show bindC kindOf ((p,w) :: P.zip vs) m p=_
  unfold bindC
  rw [jh fun v hv=>(List.nodup_cons.mp nd).1 (List.of_mem_zip hv).1,if_neg hk]
  simp
 | p :: P,w :: vs,i+1,m,nd,h1,h2,hk=>by
  show bindC kindOf ((p,w) :: P.zip vs) m x=_
  unfold bindC
  exact jj (i:=i) (List.nodup_cons.mp nd).2 (by simpa using h1) (by simpa using h2) hk
def start (N:List Str) (vs:List V):St:=vs.map some++List.replicate (N.length - vs.length) none
def i0 (CX:gd) (P:Program) (w:World) (K:PySem.W.Frag) (mg:Str->Option Value) (base:Heap) (N:List Str) (qual:Str) (scope:Scope) (f:Addr) (cd:Value) (A:Around) (outer:List Env) (s:Shared) (H:Hp) (E:XK):Cx where
 prog:=P
 w:=w
 K:=K
 mg:=mg
 base:=base
 A:=A.deeper (envOfC qual scope s.heap.objs.size f cd)
 N:=N
 bO:=s
 jS:=H
 env:=envOfC qual scope s.heap.objs.size f cd
 outer:=outer
 stack:=envOfC qual scope s.heap.objs.size f cd :: outer
 ex:=[]
 calm:=true
 fn:=fun _=>true
 pn:=[]
 xe:=fun e s'=>wpAny (model P w) (A.deeper (envOfC qual scope s.heap.objs.size f cd)) (leaving (envOfC qual scope s.heap.objs.size f cd) e) (fun _ s''=>CX outer H s E e s'') (fun e' s''=>CX outer H s E e' s'') s'
theorem j6 {sc:Scope} {n:Nat} {x:Str} (h:sc.names.lookup x=some .cell):∃ c,(cellsFrom n sc.names []).lookup x=some c:=by
 have q:=PySem.W.cellsFrom_some sc.names n [] (.inl h)
 exact Option.isSome_iff_exists.mp q
theorem nv {CX:gd} {P:Program} {w:World} {K:PySem.W.Frag} {mg:Str->Option Value} {base:Heap} {N ps:List Str} {qual:Str} {scope:Scope} {f:Addr} {cd:Value} {A:Around} {outer:List Env} {s s1:Shared} {H:Hp} {E:XK} {us:List Value} {vs:List V}
  (S:aC N ps scope) (hd:A.handled=none) (e0:mB P w K mg base A outer s H) (hl:vs.length=ps.length) (r:Vals vs us)
  (x:InCallC s s.heap.objs.size (bindL (envOfC qual scope s.heap.objs.size f cd).kindOf (ps.zip us) fun _=>none) (cellsFrom (s.heap.objs.size+1) scope.names []) (bindC (envOfC qual scope s.heap.objs.size f cd).kindOf (ps.zip us) fun _=>none) s1) :
  Inv (i0 CX P w K mg base N qual scope f cd A outer s H E) [] (start N vs) H s1:=by
 have hpl:ps.length<=N.length:=by have:=congrArg List.length S.pre;rw [List.length_take] at this;omega
 obtain⟨h1,tk,rfl,hk⟩:=x.done
 have noA:∀ b:Addr,b ∉ (i0 CX P w K mg base N qual scope f cd A outer s H E).ex:=fun b z=>absurd (show b ∈ ([]:List Addr) from z) (by simp)
 refine⟨⟨e0.mod,S.kind,rfl,rfl,Nat.le_refl _,fun y z c h1 h2=>?_,fun y hy=>?_,fun y c _ h=>?_,fun _=>hd,Around.frames_deeper e0.frames,.inr ⟨rfl,rfl⟩,fun b z=>absurd z (noA b),e0.bs,e0.jc,fun b _ _=>noA b,fun b z=>absurd z (noA b),e0.dW,e0.lq⟩,
  rfl,e0.bare,Un.kept hk,⟨_,x.toInCall.ns,fun i y v h1 h2 h3=>?_⟩,fun y c h=>⟨_,x.cell y c h⟩,e0.ai.fresh (Nat.le_refl _),fun y c h=>?_,fun p hp=>absurd (show p ∈ ([]:List (Addr × Obj)) from hp) (by simp),e0.ai.kept hk,?_⟩
 ·exact name_of_addr x.apart (PySem.mem_of_lookup h1) (PySem.mem_of_lookup h2)
 ·have hy:scope.names.lookup y=some .cell\/scope.names.lookup y=some .free:=hy
  rcases hy with hy | hy
  ·exact j6 hy
  ·exact absurd rfl (S.rO _ (PySem.mem_of_lookup hy))
 ·exact Nat.le_of_lt (x.above y c (PySem.mem_of_lookup h))
 ·have hi:i < vs.length:=by
   unfold start at h2
   by_cases hi:i < vs.length
   ·exact hi
   ·rw [List.getElem?_append_right (by simpa using hi)] at h2
    rw [List.getElem?_replicate] at h2
    split at h2 <;> cases h2
  have ha:vs[i]? = some v:=by
   unfold start at h2
   rw [List.getElem?_append_left (by simpa using hi),List.getElem?_map] at h2
   cases e:vs[i]? with
   | none=>rw [e] at h2;cases h2
   | some a=>rw [e] at h2;cases h2;rfl
  obtain⟨u,hu,rv⟩:=r.get ha
  have hp:ps[i]? = some y:=by
   rw [<-S.pre,List.getElem?_take_of_lt (by omega)];exact h1
  have ndP:ps.Nodup:=by rw [<-S.pre];exact S.nd.sublist (List.take_sublist _ _)
  refine⟨u,rv,?_⟩
  rcases S.par y (List.mem_of_getElem? hp) with k | k
  ·exact .inl ⟨k,ji ndP hp hu k⟩
  ·obtain⟨c,e⟩:=j6 (n:=s.heap.objs.size+1) k
   refine .inr ⟨.inl k,c,e,?_⟩
   have q:=x.cell y c e
   rw [jj ndP hp hu (by show scope.names.lookup y ≠ _;rw [k];decide)] at q
   exact q
 ·exact e0.ai.fresh (Nat.le_of_lt (x.above y c (PySem.mem_of_lookup h)))
 ·unfold start
  show _=N.length
  rw [List.length_append,List.length_map,List.length_replicate]
  omega
theorem sT {CX:gd} {P:Program} {w:World} {K:PySem.W.Frag} {mg:Str->Option Value} {base:Heap} {k:Nat} {f:Addr} {name qual:Str} {params:Arguments} {body:List Stmt} {scope:Scope} {dV kV doc pm cdv ct oc:Value} {an od:Option Addr}
  {osl:Array (Option Value)} {N ps:List Str} {sp:Sp} (lk:K.lookup f=some ⟨oc,od,.func (PySem.W.fnOf name qual params body scope dV kV doc pm an cdv ct),osl⟩) (hcd:PySem.W.codeIn K cdv qual=true) (S:aC N ps scope)
  (len:∀ vs H Q E,sp vs H Q E->vs.length=ps.length)
  (hbody:∀ (A:Around) (outer:List Env) (s:Shared) (H:Hp) (vs:List V) (Q:VK) (E:XK),bZ k (A.deeper (envOfC qual scope s.heap.objs.size f cdv))->sp vs H Q E ->
   ∃ t,fR (i0 CX P w K mg base N qual scope f cdv A outer s H E) body t/\t { nx:=fun _ H'=>Q .aO H',rt:=Q } (start N vs) H) :
  bf P w K mg base CX (k+1) f (PySem.W.fnOf name qual params body scope dV kV doc pm an cdv ct) ps sp:=by
 refine⟨len,fun A outer s H args us vs Q E hr e0 hb r hsp=>?_⟩
 have hl:=len _ _ _ _ hsp
 have KX:K.In s.heap:=e0.mod.rl.keeps fun b o e=>(e0.bs b o e).1
 have lim:s.heap.NoLimit:=e0.mod.nolimit.keeps fun b o e=>(e0.bs b o e).1
 have hkind:∀ y ∈ ps.zip us,scope.names.lookup y.1=some .local\/(scope.names.lookup y.1=some .cell/\((cellsFrom (s.heap.objs.size+1) scope.names []).lookup y.1).isSome=true):=fun ⟨n,v⟩ hy=>by
  rcases S.par n (List.of_mem_zip hy).1 with q | q
  ·exact .inl q
  ·exact .inr ⟨q,PySem.W.cellsFrom_some _ _ _ (.inl q)⟩
 refine codeAny_call_function hr.depth (KX _ _ lk) rfl S.co S.gen rfl (PySem.W.codeRec_of KX hcd) (hb _ _ _ _ ?_)
 refine wpAny_newFunctionEnv_cells S.kind hkind fun env he s1 x=>?_
 subst he
 refine⟨lim.keeps x.toInCall.keep,codeAny_func ?_⟩
 obtain⟨t,ht,hq⟩:=hbody A outer s H vs Q E (hr.deeper _) hsp
 have I:Inv (i0 CX P w K mg base N qual scope f cdv A outer s H E) [] (start N vs) H s1:=nv S hr.hd e0 hl r x
 refine wpAny_mono (ht [] s1 (start N vs) H _ I hq) (fun fl s' hs=>?_) fun e s' hs=>hs
 have fin:∀ {σ':St} {H':Hp} {v:V} {u:Value},Inv (i0 CX P w K mg base N qual scope f cdv A outer s H E) [] σ' H' s'->RelV v u->Q v H'->CE outer P w H s Q u s' :=
  fun {σ' H' v u} J rv q=>⟨v,H',J.os,J.bare,J.base,J.ai,rv,q⟩
 cases fl with
 | ret u =>
  obtain⟨v,σ',H',J,rv,q⟩:=hs
  exact fin J rv q
 | next =>
  obtain⟨σ',H',J,q⟩:=hs
  exact fin (v:=V.aO) (u:=Value.none) J rfl q
 | brk =>
  obtain⟨_,_,_,q⟩:=hs
  exact False.elim q
 | cont =>
  obtain⟨_,_,_,q⟩:=hs
  exact False.elim q
section
variable {X:Cx} {x:Str} {p pos:Pos} {e:Expr} {es:List Expr} {t:TA} {id T:String} {r:List V->Hp->VK->Prop}
def tJ (r:List V->Hp->VK->Prop) (t:TA):TE:=fun σ H Q=>t σ H fun vs H1=>r vs H1 Q
theorem aA (hc:cm X (.builtin id) r) (hg:Gl X x) (hm:X.mg x=none) (hv:bootBuiltins x=some (.builtin id)) (ha:PA X (e :: es) t) (hn:x ≠ "__name__" := by decide) (hdb:(x == ("__debug__" : Str))=false:=by decide)
  (he:starEach (e :: es) X.env=(false,eval e X.env) :: starEach es X.env:=by rfl) (hpl:(backTo pos (starEach es X.env)).any (·.1)=false:=by rfl):PE X (.Call (.Name x p) (e :: es) [] pos) (tJ r t):=by
 intro pins s σ H Q I h
 refine wpAny_Call_Name_kw (fg I hg hm hv ?_ hn hdb)
 exact PyProof.Rows.callWith_builtin1 (aB (ha pos pins s σ H _ I h) fun us s1 ⟨vs,H1,I1,r1,q1⟩=>hc pins s1 σ H1 vs us Q I1 r1 q1) he hpl
theorem bC (hc:cm X (.type T) r) (hg:Gl X x) (hm:X.mg x=none) (hv:bootBuiltins x=some (.type T)) (ha:PA X (e :: es) t) (hn:x ≠ "__name__" := by decide) (hdb:(x == ("__debug__" : Str))=false:=by decide)
  (he:starEach (e :: es) X.env=(false,eval e X.env) :: starEach es X.env:=by rfl) (hpl:(backTo pos (starEach es X.env)).any (·.1)=false:=by rfl):PE X (.Call (.Name x p) (e :: es) [] pos) (tJ r t):=by
 intro pins s σ H Q I h
 refine wpAny_Call_Name_kw (fg I hg hm hv ?_ hn hdb)
 exact PyProof.Rows.callWith_type1 (aB (ha pos pins s σ H _ I h) fun us s1 ⟨vs,H1,I1,r1,q1⟩=>hc pins s1 σ H1 vs us Q I1 r1 q1) he hpl
end
end L2
namespace HT
open PySem PyProof.Rows
section
open PySem.SeqAt
open PySem.AutoSeq1 (wpAny_loadPart')
open PySem.MeetsSeq PySem.MeetsSeq2 PySem.MeetsSeq3
end
section
variable {prog:Program} {w:World} {A:Around} {E:Value->Shared->Prop} {s:Shared}
theorem qo {t b:Addr} {vs ws:List Value} {Q:Value->Shared->Prop} (ht:IsTup s.heap t vs.toArray) (hb:IsTup s.heap b ws.toArray) (hv:vs ≠ [])
  (h1:ws = []->Q (.ref t) s) (h2:ws ≠ []->Q (.ref s.heap.objs.size) { s with heap:=s.heap.push { cls:=.type "tuple",data:=.seq (vs++ws).toArray } })
  (hsz:vs.length+ws.length<=sizeLine):wpAny (model prog w) A (binaryOp .Add (.ref t) (.ref b)) Q E s:=by
 obtain⟨⟨cls,dd,data,sl⟩,ho,hc,n,hd⟩:=id ht
 obtain⟨⟨cls2,dd2,data2,sl2⟩,ho2,hc2,n2,hd2⟩:=id hb
 simp only at hc hd hc2 hd2
 subst hc hd hc2 hd2
 have e:vs.toArray++ws.toArray=(vs++ws).toArray:=by simp
 by_cases hw:ws = []
 ·exact concat_meets ⟨_,ho,rfl⟩ ⟨_,ho2,rfl⟩ noFill_tuple_add seq_tuple_add PySem.F.slot_tuple_add PySem.F.entry_tuple_add (PySem.F.args_tuple_add_2 _ _)
   (tuple_addW1 t b vs.toArray ws.toArray n n2 dd dd2 sl sl2 (by simpa using hv) (by simp [hw])) ⟨ho,ho2,h1 hw⟩
 ·refine concat_meets ⟨_,ho,rfl⟩ ⟨_,ho2,rfl⟩ noFill_tuple_add seq_tuple_add PySem.F.slot_tuple_add PySem.F.entry_tuple_add (PySem.F.args_tuple_add_2 _ _)
   (tuple_addW2 t b vs.toArray ws.toArray n n2 dd dd2 sl sl2 (by simpa using hv) (by simpa using hw) (by rw [List.size_toArray,List.size_toArray];exact hsz)) ⟨ho,ho2,?_⟩
  rw [e]
  exact h2 hw
def aH (n d:Nat):Option Int->Nat
 | none=>d
 | some v=>if v < 0 then (v+(n:Int)).toNat else min v.toNat n
theorem j7 (n d:Nat):aH n d none=d:=rfl
theorem qp (n d k:Nat):aH n d (some (k:Int))=min k n:=by
 show (if (k:Int) < 0 then ((k:Int)+(n:Int)).toNat else min (k:Int).toNat n)=min k n
 rw [if_neg (by omega),Int.toNat_natCast]
theorem rP (n d:Nat) (hd:d<=n) (o:Option Int):aH n d o<=n:=by
 cases o with
 | none=>exact hd
 | some v =>
  show (if v < 0 then (v+(n:Int)).toNat else min v.toNat n)<=n
  by_cases hv:v < 0
  ·rw [if_pos hv];omega
  ·rw [if_neg hv];exact Nat.min_le_right _ _
theorem lJ (v:Int) (n d:Nat):(if v < 0 then max (v+(n:Int)) 0 else min v (n:Int))=((aH n d (some v):Nat):Int):=by
 show (if v < 0 then max (v+(n:Int)) 0 else min v (n:Int))=(((if v < 0 then (v+(n:Int)).toNat else min v.toNat n):Nat):Int)
 by_cases hv:v < 0
 ·simp only [if_pos hv];omega
 ·simp only [if_neg hv];omega
theorem mD (lo hi:Option Int) (n:Nat):Builtin.Slice.sliceAdjust lo hi 1 (n:Int)=(((aH n 0 lo:Nat):Int),((aH n n hi:Nat):Int)):=by
 have h1:¬ ((1:Int) < 0):=by omega
 unfold Builtin.Slice.sliceAdjust
 simp only [h1,if_false]
 refine Prod.ext ?_ ?_
 ·cases lo with
  | none=>rfl
  | some v=>exact lJ v n 0
 ·cases hi with
  | none=>rfl
  | some v=>exact lJ v n n
theorem mE (i j:Nat):Builtin.Slice.slicePlaces (i:Int) (j:Int) 1=j - i:=by
 unfold Builtin.Slice.slicePlaces
 have h1:(1:Int) > 0:=by omega
 simp only [h1,if_true,Int.ediv_one]
 split <;> omega
theorem iD {v:Value} {o:Option Int} {Q:Option Int->Shared->Prop} (p:IsPart v o) (h:Q o s):wpAny (model prog w) A (Builtin.Slice.slicePartIndex v) Q E s:=by
 cases p with
 | none=>exact slicePart_none h
 | int i t=>exact slicePart_int h
theorem d7 {sl:Addr} {vl vu:Value} {lo hi:Option Int} {n:Nat} {Q:Int × Int × Nat->Shared->Prop} (hs:s.heap.IsSliceOf sl vl vu .none) (pl:IsPart vl lo) (pu:IsPart vu hi)
  (h:Q (((aH n 0 lo:Nat):Int),1,aH n n hi - aH n 0 lo) s):wpAny (model prog w) A (Builtin.Slice.sliceApplied (.ref sl) (pure (n:Int))) Q E s:=by
 obtain⟨os,hos,hcs,hds⟩:=id hs
 unfold Builtin.Slice.sliceApplied Builtin.Slice.sliceFields
 refine wpAny_bind (wpAny_bind (wpAny_field hos hds (x:=vl) rfl (wpAny_bind (wpAny_field hos hds (x:=vu) rfl (wpAny_bind (wpAny_field hos hds (x:=.none) rfl (wpAny_pure ?_)))))))
 refine wpAny_bind (slicePart_none ?_)
 show wpAny _ _ (if ((1:Int) == 0)=true then _ else _) _ _ s
 rw [if_neg (by decide)]
 refine wpAny_bind (iD pl (wpAny_bind (iD pu (wpAny_bind (wpAny_pure ?_)))))
 show wpAny _ _ (match Builtin.Slice.sliceAdjust lo hi 1 (n:Int) with | (lo,hi)=>pure (lo,(1:Int),Builtin.Slice.slicePlaces lo hi 1)) _ _ s
 rw [mD lo hi n]
 show wpAny _ _ (pure (((aH n 0 lo:Nat):Int),(1:Int),Builtin.Slice.slicePlaces ((aH n 0 lo:Nat):Int) ((aH n n hi:Nat):Int) 1)) _ _ s
 rw [mE]
 exact wpAny_pure h
theorem oO (xs:Array Value) (i k:Nat):((List.range k).filterMap fun (m:Nat)=>xs[((i:Int)+(m:Int) * 1).toNat]?).toArray=((xs.toList.drop i).take k).toArray:=by
 have e:(fun (m:Nat)=>xs[((i:Int)+(m:Int) * 1).toNat]?)=fun m=>xs[i+m]?:=by
  funext m
  have:((i:Int)+(m:Int) * 1).toNat=i+m:=by omega
  rw [this]
 rw [e]
 have:=pick_run xs i k
 rw [List.filterMap_map] at this
 have e2:((fun x=>xs[x]?) ∘ fun x=>i+x)=fun m=>xs[i+m]?:=rfl
 rw [e2] at this
 rw [this]
theorem gY {t sl:Addr} {items:Array Value} {vl vu:Value} {lo hi:Option Int} {Q:Value->Shared->Prop} (ht:IsTup s.heap t items) (hs:s.heap.IsSliceOf sl vl vu .none) (pl:IsPart vl lo) (pu:IsPart vu hi)
  (hw:¬ (aH items.size 0 lo=0/\aH items.size items.size hi=items.size))
  (h:Q (.ref s.heap.objs.size) { s with heap:=s.heap.push { cls:=.type "tuple",data:=.seq ((items.toList.drop (aH items.size 0 lo)).take (aH items.size items.size hi - aH items.size 0 lo)).toArray } })
  (hsz:items.size<=sizeLine):wpAny (model prog w) A (getItem (.ref t) (.ref sl)) Q E s:=by
 have htake:sizeOk (.seq ((items.toList.drop (aH items.size 0 lo)).take (aH items.size items.size hi - aH items.size 0 lo)).toArray):=by
  show ((items.toList.drop (aH items.size 0 lo)).take (aH items.size items.size hi - aH items.size 0 lo)).toArray.size<=sizeLine
  rw [List.size_toArray,List.length_take,List.length_drop,Array.length_toList]
  omega
 have hj:aH items.size items.size hi<=items.size:=rP _ _ (Nat.le_refl _) hi
 obtain⟨os,hos,hcs,hds⟩:=id hs
 have hTs:s.TypeIs (.ref sl) "slice" := ⟨os,hos,hcs⟩
 unfold getItem
 try with_reducible refine wpAny_holding ?_
 first | refine wpAny_bind (wpAny_pure ?_) | skip
 refine wpAny_bind (wpAny_sequenceKey ht.typeIs (by decide) ?_)
 refine wpAny_bind (wpAny_callSpecial?_slot (name:=Str.ofString "__getitem__") ht.typeIs PyProof.Rows.slot_tuple_getitem
  (wpAny_call_entry PyProof.Rows.slot_tuple_getitem ht.typeIs entry_tuple_getitem ?_ (args_tuple_getitem _ _)))
 show wpAny _ _ (Builtin.Tuple.tupleItemsOf (.ref t) >>= _) _ _ s
 refine wpAny_bind (tupleItemsOf_ ht ?_)
 refine wpAny_bind (wpAny_typeOf hTs ?_)
 rw [if_pos (by decide)]
 refine wpAny_bind (d7 hs pl pu ?_)
 have hno:¬ ((((aH items.size 0 lo:Nat):Int) == 0 && (1:Int) == 1 && (aH items.size items.size hi - aH items.size 0 lo) == items.size)=true):=by
  intro q
  rw [Bool.and_eq_true,Bool.and_eq_true] at q
  have q1:((aH items.size 0 lo:Nat):Int)=0:=eq_of_beq q.1.1
  have q2:aH items.size items.size hi - aH items.size 0 lo=items.size:=eq_of_beq q.2
  exact hw ⟨by omega,by omega⟩
 show wpAny _ _ (if (((aH items.size 0 lo:Nat):Int) == 0 && (1:Int) == 1 && (aH items.size items.size hi - aH items.size 0 lo) == items.size)=true then _ else _) _ _ s
 rw [if_neg hno,oO]
 first
  | exact wpAny_bind (m:=Builtin.Tuple.tupleExact _) (wpAny_newObj_type (wpAny_pure ⟨_,rfl,wpAny_pure h⟩) htake)
  | exact wpAny_bind (m:=Builtin.Tuple.tupleExact _) (wpAny_newObj_type (wpAny_bind (wpAny_pure (wpAny_pure ⟨_,rfl,wpAny_pure h⟩))) htake)
  | exact wpAny_bind (wpAny_bind (m:=Builtin.Tuple.tupleExact _) (wpAny_newObj_type (wpAny_pure (wpAny_pure ⟨_,rfl,wpAny_pure h⟩)) htake))
  | exact wpAny_bind (wpAny_bind (m:=Builtin.Tuple.tupleExact _) (wpAny_newObj_type (wpAny_pure ⟨_,rfl,wpAny_pure h⟩) htake))
end
end HT
namespace L2
open PySem PySem.Spec PyProof.Rows
abbrev TO:=St->Hp->(Option Int->Hp->Prop)->Prop
def PO (X:Cx) (e:Option Expr) (t:TO):Prop :=
 ∀ (pins:List (Addr × Obj)) (s:Shared) (σ : St) (H:Hp) (Q:Option Int->Hp->Prop),Inv X pins σ H s->t σ H Q ->
  wpAny (model X.prog X.w) X.A (evalPart e X.env) (fun u s'=>∃ o H',Inv X pins σ H' s'/\IsPart u o/\Q o H') X.xe s
def qr:TO:=fun _ H Q=>Q none H
inductive oP (Q:(Option Int->Hp->Prop)) (x:V) (H1:Hp):Prop
 | mk (i:_) (_:x=.int i) (_:Q (some i) H1)
def sU (t:TE):TO:=fun σ H Q=>t σ H fun x H1=>oP Q x H1
section
variable {X:Cx} {e:Expr} {te:TE} {lo hi:Option Expr} {tl th:TO} {pos p2:Pos}
theorem gQ:PO X none qr:=by
 intro pins s σ H Q I h
 rw [evalPart_none]
 exact wpAny_pure ⟨none,H,I,.none,h⟩
theorem gR (h:PE X e te):PO X (some e) (sU te):=by
 intro pins s σ H Q I hw
 rw [evalPart_some]
 refine aB (h pins s σ H _ I hw) fun u s1 ⟨x,H1,I1,r1,q1⟩=>?_
 obtain⟨i,rfl,q⟩:=q1
 obtain⟨t,rfl⟩:=r1
 exact⟨some i,H1,I1,.int i t,q⟩
def ny (X:Cx) (r:V->Option Int->Option Int->Hp->VK->Prop):Prop :=
 ∀ (pins:List (Addr × Obj)) (s:Shared) (σ : St) (H:Hp) (x:V) (v vl vu:Value) (lo hi:Option Int) (sl:Addr) (Q:VK),Inv X pins σ H s->RelV x v->s.heap.IsSliceOf sl vl vu .none->IsPart vl lo->IsPart vu hi->r x lo hi H Q ->
  ∃ T id,typeLookup (.type T) "__getitem__" = pure (some (.builtin id))/\s.TypeIs v T/\wpAny (model X.prog X.w) X.A (getItem v (.ref sl)) (EP X pins σ Q) X.xe s
def uN (r:V->Option Int->Option Int->Hp->VK->Prop) (te:TE) (tl th:TO):TE:=fun σ H Q=>te σ H fun x H1=>tl σ H1 fun l H2=>th σ H2 fun u H3=>r x l u H3 Q
theorem fB {r:V->Option Int->Option Int->Hp->VK->Prop} (hr:ny X r) (he:PE X e te) (hl:PO X lo tl) (hu:PO X hi th):PE X (.Subscript e (.Slice lo hi none p2) pos) (uN r te tl th):=by
 intro pins s σ H Q I h
 refine Subscript_ (aB (he pins s σ H _ I h) fun v s1 ⟨x,H1,I1,r1,q1⟩=>?_)
 refine wpAny_Slice (aB (hl pins s1 σ H1 _ I1 q1) fun vl s2 ⟨l,H2,I2,pl,q2⟩=>aB (hu pins s2 σ H2 _ I2 q2) fun vu s3 ⟨u,H3,I3,pu,q3⟩=>?_)
 rw [evalPart_none]
 refine wpAny_pure ?_
 have I4:Inv X pins σ H3 { s3 with heap:=s3.heap.push { cls:=.type "slice",data:=.fields #[vl,vu,.none] } }:=I3.kept (t':=s3.toks) fun b ob q=>Heap.get?_push_of_some _ q
 obtain⟨T,id,hT,ht,hg⟩:=hr pins { s3 with heap:=s3.heap.push { cls:=.type "slice",data:=.fields #[vl,vu,.none] } } σ H3 x v vl vu l u s3.heap.objs.size Q I4 r1 (Heap.IsSliceOf.new ..) pl pu q3
 show wpAny (model X.prog X.w) X.A (subscriptTail e (.Slice lo hi none p2) v (.ref s3.heap.objs.size)) (EP X pins σ Q) X.xe { s3 with heap:=s3.heap.push { cls:=.type "slice",data:=.fields #[vl,vu,.none] } }
 exact tail_any (ops:=[.ref s3.heap.objs.size,v]) ht hT hg (by with_unfolding_all rfl)
def cS (xs:List V) (lo hi:Option Int):List V:=(xs.drop (HT.aH xs.length 0 lo)).take (HT.aH xs.length xs.length hi - HT.aH xs.length 0 lo)
theorem hJ (xs:List V) (lo hi:Option Int):(cS xs lo hi).length<=xs.length:=by
 unfold cS
 rw [List.length_take,List.length_drop]
 omega
inductive um (K:PySem.W.Frag) (x:V) (lo:Option Int) (hi:Option Int) (H:Hp) (Q:VK):Prop
 | mk (a xs:_) (_:x=.ref a) (_:aJ K H a xs) (_:¬ (HT.aH xs.length 0 lo=0/\HT.aH xs.length xs.length hi=xs.length)) (_:∀ p,H p=none->Q (.ref p) (upd H p (.tup (cS xs lo hi))))
theorem rQ:ny X (um X.K):=by
 intro pins s σ H x v vl vu lo hi sl Q I rx hs pl pu h
 obtain⟨a,xs,rfl,hx,hw,q⟩:=h
 cases rx
 obtain⟨its,r,ht,hz⟩:=I.tuple hx
 have hlen:its.toArray.size=xs.length:=by rw [List.size_toArray];exact r.length.symm
 refine⟨"tuple",_,PyProof.Rows.slot_tuple_getitem.lookup,ht.typeIs,?_⟩
 refine HT.gY ht hs pl pu (by rw [hlen];exact hw) ?_ (by rw [hlen];exact hz)
 rw [hlen]
 refine⟨.ref s.heap.objs.size,_,I.laid (t':=s.toks) (o:=.tup (cS xs lo hi)) (fun b ob q=>Heap.get?_push_of_some _ q) (Nat.le_refl _) ?_,rfl,q _ (I.ai.fresh (Nat.le_refl _))⟩
 exact⟨Nat.le_trans (hJ xs lo hi) hz,_,(r.drop (HT.aH xs.length 0 lo)).take (HT.aH xs.length xs.length hi - HT.aH xs.length 0 lo),⟨_,Heap.get?_push_size _ rfl,rfl,_,rfl,rfl⟩⟩
theorem Vals.i1 {xs:List V} {us:List Value} (r:Vals xs us):us = [] ↔ xs = []:=by
 cases r with
 | nil=>simp
 | cons _ _=>simp
end
def gf (n:Nat) (i:Int):Option Nat:=if 0<=i then (if i < n then some i.toNat else none) else if -(n:Int)<=i then some (i+n).toNat else none
def cy {α : Type} (xs:List α) (i:Int):Option α:=(gf xs.length i).bind fun j=>xs[j]?
theorem lK {n:Nat} {i:Int} {j:Nat} (h:gf n i=some j):seqIndex? i n=some j/\j < n/\-(n:Int)<=i/\i < n:=by
 unfold gf at h
 by_cases h0:0<=i
 ·rw [if_pos h0] at h
  by_cases h1:i < n
  ·rw [if_pos h1] at h
   have e:i.toNat=j:=Option.some.inj h
   exact⟨by rw [seqIndex_of h0 h1,e],by omega,by omega,h1⟩
  ·rw [if_neg h1] at h;cases h
 ·rw [if_neg h0] at h
  by_cases h1:-(n:Int)<=i
  ·rw [if_pos h1] at h
   have e:(i+n).toNat=j:=Option.some.inj h
   exact⟨by rw [seqIndex_neg (by omega) h1,e],by omega,h1,by omega⟩
  ·rw [if_neg h1] at h;cases h
theorem i2 {α : Type} {xs:List α} {i:Int} {v:α} (h:cy xs i=some v):∃ j,seqIndex? i xs.length=some j/\xs[j]? = some v/\j < xs.length/\-(xs.length:Int)<=i/\i < xs.length:=by
 unfold cy at h
 cases e:gf xs.length i with
 | none=>rw [e] at h;cases h
 | some j =>
  rw [e] at h
  obtain⟨h1,h2,h3,h4⟩:=lK e
  exact⟨j,h1,h,h2,h3,h4⟩
theorem bJ {α : Type} {xs:List α} {j:Nat} {v:α} (h:xs[j]? = some v):cy xs (j:Int)=some v:=by
 have hj:j < xs.length:=(List.getElem?_eq_some_iff.mp h).1
 have e:gf xs.length (j:Int)=some j:=by
  unfold gf
  rw [if_pos (by omega),if_pos (by omega)];simp
 unfold cy;rw [e];exact h
theorem oQ {α : Type} (xs:List α) (v:α):cy (xs ++ [v]) (-1)=some v:=by
 have hl:(xs ++ [v]).length=xs.length+1:=by simp
 have e:gf (xs ++ [v]).length (-1)=some xs.length:=by
  unfold gf
  rw [hl,if_neg (by decide),if_pos (by omega)]
  congr 1
  omega
 unfold cy
 rw [e]
 show (xs ++ [v])[xs.length]? = some v
 simp
def lL (b:Expr):Prop:=∀ o i,subscripted b false o i=operate [o,i] (getItem o i)
def nz (X:Cx) (r:R2):Prop :=
 ∀ (value slice:Expr) (pins:List (Addr × Obj)) (s:Shared) (σ : St) (H:Hp) (x y:V) (v u:Value) (Q:VK),Inv X pins σ H s->RelV x v->RelV y u->r x y H Q ->
  subscripted slice false v u=operate [v,u] (getItem v u)->wpAny (model X.prog X.w) X.A (subscriptTail value slice v u) (EP X pins σ Q) X.xe s
def lM (X:Cx) (id:String) (r:V->List V->Hp->VK->Prop):Prop :=
 ∀ (pins:List (Addr × Obj)) (s:Shared) (σ : St) (H:Hp) (x:V) (xs:List V) (v:Value) (us:List Value) (Q:VK),Inv X pins σ H s->RelV x v->Vals xs us->r x xs H Q ->
  wpAny (model X.prog X.w) X.A (call (.builtin id) (v :: us)) (EP X pins σ Q) X.xe s
section
variable {X:Cx} {a b:Expr} {ta tb:TE} {pos:Pos}
theorem sV {r:R2} (hr:nz X r) (ha:PE X a ta) (hb:PE X b tb) (hs:lL b):PE X (.Subscript a b pos) (nc r ta tb):=by
 intro pins s σ H Q I h
 exact Subscript_ (oI ha hb I h fun v u s2 x y H2 I2 rx ry q=>hr a b pins s2 σ H2 x y v u Q I2 rx ry q (hs _ _))
inductive uo (K:PySem.W.Frag) (x:V) (y:V) (H:Hp) (Q:VK):Prop
 | mk (p xs i v:_) (_:x=.ref p) (_:y=.int i) (_:ax K H p xs) (_:cy xs i=some v) (_:Q v H)
inductive uq (K:PySem.W.Frag) (x:V) (y:V) (H:Hp) (Q:VK):Prop
 | mk (p xs i v:_) (_:x=.ref p) (_:y=.int i) (_:aJ K H p xs) (_:cy xs i=some v) (_:Q v H)
inductive ur  (x:V) (y:V) (H:Hp) (Q:VK):Prop
 | mk (z i c:_) (_:x=.str z) (_:y=.int i) (_:z.length<=sizeLine) (_:cy z.cps.toList i=some c) (_:Q (.str ⟨#[c]⟩) H)
theorem bt:nz X (uo X.K):=by
 intro value slice pins s σ H x y v u Q I rx ry h hs
 obtain⟨p,xs,i,z,rfl,rfl,hq,he,q⟩:=h
 cases rx
 obtain⟨t,rfl⟩:=ry
 obtain⟨its,r,pl,hz⟩:=I.list hq
 obtain⟨j,h1,h2,h3,h4,h5⟩:=i2 he
 obtain⟨w,ew,rw'⟩:=r.get h2
 have hl:=r.length
 have hn:=fj
 have fin:EP X pins σ Q w s:=⟨z,H,I,rw',q⟩
 by_cases h0:0<=i
 ·have hj:i.toNat=j:=by
   rw [seqIndex_of h0 h5] at h1
   exact Option.some.inj h1
  exact item_listR pl.isList h0 (by omega) (by rw [hj];simpa using ew) fin hs
 ·have hj:(i+(its.toArray.size:Int)).toNat=j:=by
   rw [seqIndex_neg (by omega) h4] at h1
   rw [List.size_toArray,<-hl]
   exact Option.some.inj h1
  exact subscriptTail_builtinR (x:=w) pl.isList.typeIs slot_list_getitem.lookup
   (wpAny_getItem_list_neg (Q:=fun r s'=>r=w/\EP X pins σ Q r s') pl.isList (by omega) (by rw [List.size_toArray] <;> omega) (by omega) (by rw [hj];simpa using ew) ⟨rfl,fin⟩) hs
theorem gg:nz X (uq X.K):=by
 intro value slice pins s σ H x y v u Q I rx ry h hs
 obtain⟨p,xs,i,z,rfl,rfl,hq,he,q⟩:=h
 cases rx
 obtain⟨t,rfl⟩:=ry
 obtain⟨its,r,pl,hz⟩:=I.tuple hq
 obtain⟨j,h1,h2,h3,h4,h5⟩:=i2 he
 obtain⟨w,ew,rw'⟩:=r.get h2
 have hl:=r.length
 have hn:=fj
 have fin:EP X pins σ Q w s:=⟨z,H,I,rw',q⟩
 exact subscriptTail_builtinR (x:=w) pl.typeIs slot_tuple_getitem.lookup
  (getItem_tuple (j:=j) (Q:=fun r s'=>r=w/\EP X pins σ Q r s') pl (by omega) (by omega) (by rw [List.size_toArray,<-hl];exact h1) (by simpa using ew) ⟨rfl,fin⟩) hs
theorem j8:nz X ur:=by
  intro value slice pins s σ H x y v u Q I rx ry h hs
  obtain⟨z,i,c,rfl,rfl,hz,he,q⟩:=h
  obtain⟨t,rfl⟩:=rx
  obtain⟨t',rfl⟩:=ry
  obtain⟨j,h1,h2,h3,h4,h5⟩:=i2 he
  have hl:z.cps.toList.length=z.length:=by simp [Str.length]
  rw [hl] at h1 h4 h5
  have hn:=fj
  exact tail_any (typeIs_str s z t) slot_str_getitem.lookup (getItem_str (c:=c) (by
    have e1:decide (i < -(2 ^ 63:Int))=false:=decide_eq_false (by omega)
    have e2:decide (i >= 2 ^ 63)=false:=decide_eq_false (by omega)
    rw [e1,e2,Bool.or_false]) (by rw [h1];simpa using h2) ⟨.str ⟨#[c]⟩,H,I.tok _,⟨_,rfl⟩,q⟩) hs
theorem mF (its:List Value) (n j:Nat) (u:Value):Obj.mapSeq (·.setIfInBounds j u) { cls:=.type "list",data:=.seq its.toArray n } = { cls:=.type "list",data:=.seq (its.set j u).toArray n }:=by
 simp [Obj.mapSeq]
theorem Inv.lst {pins:List (Addr × Obj)} {σ : St} {H:Hp} {s:Shared} {p:Addr} {xs:List V} (I:Inv X pins σ H s) (h:H p=some (.lst xs)) :
  ∃ (its:List Value) (n:Nat),Vals xs its/\s.heap.get? p=some { cls:=.type "list",data:=.seq its.toArray n }/\xs.length<=sizeLine:=by
 obtain⟨z,its,n,r,e⟩:=I.ai p _ h
 exact⟨its,n,r,e,z⟩
theorem Inv.rR {pins:List (Addr × Obj)} {σ : St} {H:Hp} {s:Shared} {p:Addr} {xs ys:List V} {its its':List Value} {n n':Nat} {f:Obj->Obj} (I:Inv X pins σ H s) (h:H p=some (.lst xs))
  (ho:s.heap.get? p=some { cls:=.type "list",data:=.seq its.toArray n }) (hf:f { cls:=.type "list",data:=.seq its.toArray n } = { cls:=.type "list",data:=.seq its'.toArray n' }) (r:Vals ys its') (hz:ys.length<=sizeLine) (t:Nat) :
  Inv X pins σ (upd H p (.lst ys)) { s with heap:=s.heap.update p f,toks:=t }:=by
 have e:(s.heap.update p f).get? p=some { cls:=.type "list",data:=.seq its'.toArray n' }:=by
  rw [Heap.get?_update_self f ho (by rw [hf] <;> rfl),hf]
 refine I.write (x:=p) (e:=p) (by rw [h];trivial) (.inl rfl) (fun b u hb q=>(Heap.get?_update_other _ _ (Ne.symm hb)).trans q) ⟨_,e⟩ ?_
 exact⟨hz,its',n',r,e⟩
inductive sW  (o:V) (i:V) (v:V) (H:Hp) (Q:(Hp->Prop)):Prop
 | mk (p xs k j:_) (_:o=.ref p) (_:i=.int k) (_:H p=some (.lst xs)) (_:gf xs.length k=some j) (_:Q (upd H p (.lst (xs.set j v))))
theorem set_list:rD X sW:=by
 intro pins s σ H o i v ov iv u Q I ro ri rv h
 obtain⟨p,xs,k,j,rfl,rfl,hp,hj,q⟩:=h
 cases ro
 obtain⟨t,rfl⟩:=ri
 obtain⟨its,n,r,ho,hz⟩:=I.lst hp
 obtain⟨h1,h2,h3,h4⟩:=lK hj
 have hl:=r.length
 have hn:=fj
 have I':Inv X pins σ (upd H p (.lst (xs.set j v))) { s with heap:=s.heap.update p (Obj.mapSeq (·.setIfInBounds j u)) } :=
  I.rR hp ho (mF its n j u) (r.set rv j) (by rw [List.length_set];exact hz) s.toks
 by_cases h0:0<=k
 ·have hk:k.toNat=j:=by
   rw [seqIndex_of h0 h4] at h1
   exact Option.some.inj h1
  exact PySem.W.ki_setAt ho h0 (by omega) (by rw [List.size_toArray,<-hl];exact h4) (by rw [hk];exact⟨_,I',q⟩)
 ·have hk:(k+(its.toArray.size:Int)).toNat=j:=by
   rw [seqIndex_neg (by omega) h3] at h1
   rw [List.size_toArray,<-hl]
   exact Option.some.inj h1
  exact PySem.W.ki_setBack ho (by omega) (by rw [List.size_toArray,<-hl];exact h3) (by omega) (by rw [hk];exact⟨_,I',q⟩)
theorem j9 (lo hi:Option Int) (n:Nat):(sliceBounds lo hi none n).1=((HT.aH n 0 lo:Nat):Int)/\(sliceBounds lo hi none n).2.1=((HT.aH n n hi:Nat):Int)/\(sliceBounds lo hi none n).2.2=1:=by
 refine⟨?_,?_,rfl⟩
 ·cases lo with
  | none=>simp [sliceBounds,HT.aH]
  | some i =>
   simp only [sliceBounds,HT.aH,Option.getD_none,show (1:Int) > 0 by decide,if_true]
   by_cases h:i < 0
   ·simp only [h,if_true] <;> omega
   ·simp only [h,if_false] <;> omega
 ·cases hi with
  | none=>simp [sliceBounds,HT.aH]
  | some i =>
   simp only [sliceBounds,HT.aH,Option.getD_none,show (1:Int) > 0 by decide,if_true]
   by_cases h:i < 0
   ·simp only [h,if_true] <;> omega
   ·simp only [h,if_false] <;> omega
theorem jC (its:List Value) (lo hi:Option Int):slicePick its.toArray lo hi none=((its.drop (HT.aH its.length 0 lo)).take (HT.aH its.length its.length hi - HT.aH its.length 0 lo)).toArray:=by
 obtain⟨h1,h2,h3⟩:=j9 lo hi its.toArray.size
 unfold slicePick
 rw [h1,h2,h3]
 simp only [sliceRange_one,pick_run,List.size_toArray] <;> rfl
inductive uu (K:PySem.W.Frag) (x:V) (lo:Option Int) (hi:Option Int) (H:Hp) (Q:VK):Prop
 | mk (a xs:_) (_:x=.ref a) (_:ax K H a xs) (_:∀ p,H p=none->Q (.ref p) (upd H p (.lst (cS xs lo hi))))
theorem lN:ny X (uu X.K):=by
 intro pins s σ H x v vl vu lo hi sl Q I rx hs pl pu h
 obtain⟨a,xs,rfl,hx,q⟩:=h
 cases rx
 obtain⟨its,r,ht,hz⟩:=I.list hx
 have hlen:=r.length
 refine⟨"list",_,slot_list_getitem.lookup,ht.isList.typeIs,?_⟩
 refine wpAny_getItem_list_slice ht.isList hs pl pu .none (by simp) ?_ (by rw [List.size_toArray] <;> omega)
 rw [jC,<-hlen]
 refine⟨.ref s.heap.objs.size,_,I.laid (t':=s.toks) (o:=.lst (cS xs lo hi)) (fun b ob q=>Heap.get?_push_of_some _ q) (Nat.le_refl _) ?_,rfl,q _ (I.ai.fresh (Nat.le_refl _))⟩
 exact⟨Nat.le_trans (hJ xs lo hi) hz,_,0,(r.drop (HT.aH xs.length 0 lo)).take (HT.aH xs.length xs.length hi - HT.aH xs.length 0 lo),Heap.get?_push_size _ rfl⟩
def dI:V->Bool
 | .aO=>true
 | .bl _=>true
 | .int _=>true
 | .str _=>true
 | _=>false
def jl:V->V->Bool
 | .aO,.aO=>true
 | .bl a,.bl b=>a == b
 | .bl a,.int b=>(if a then 1 else 0) == b
 | .int a,.bl b=>a == (if b then 1 else 0)
 | .int a,.int b=>a == b
 | .str a,.str b=>a == b
 | _,_=>false
theorem rS {A:Around} {s:Shared} {y x:V} {u v:Value} (ry:RelV y u) (rx:RelV x v) (fy:dI y=true) (fx:dI x=true):SeqAt.EqAt A s u v (jl y x):=by
 cases y with
 | aO =>
  cases ry
  cases x with
  | aO=>cases rx;exact SeqAt.EqAt.same _
  | bl b=>cases rx;exact SeqAt.EqAt.none_bool b
  | int b=>obtain⟨t,rfl⟩:=rx;exact SeqAt.EqAt.none_int b t
  | str b=>obtain⟨t,rfl⟩:=rx;exact SeqAt.EqAt.none_str b t
  | _=>exact absurd (show false=true from fx) Bool.false_ne_true
 | bl a =>
  cases ry
  cases x with
  | aO=>cases rx;exact SeqAt.EqAt.bool_none a
  | bl b=>cases rx;exact SeqAt.EqAt.bool_bool a b
  | int b=>obtain⟨t,rfl⟩:=rx;exact SeqAt.EqAt.bool_int a b t
  | str b=>obtain⟨t,rfl⟩:=rx;exact SeqAt.EqAt.bool_str a b t
  | _=>exact absurd (show false=true from fx) Bool.false_ne_true
 | int a =>
  obtain⟨t',rfl⟩:=ry
  cases x with
  | aO=>cases rx;exact SeqAt.EqAt.int_none a t'
  | bl b=>cases rx;exact SeqAt.EqAt.int_bool a t' b
  | int b=>obtain⟨t,rfl⟩:=rx;exact SeqAt.EqAt.int_int a t' b t
  | str b=>obtain⟨t,rfl⟩:=rx;exact SeqAt.EqAt.int_str a t' b t
  | _=>exact absurd (show false=true from fx) Bool.false_ne_true
 | str a =>
  obtain⟨t',rfl⟩:=ry
  cases x with
  | aO=>cases rx;exact SeqAt.EqAt.str_none a t'
  | bl b=>cases rx;exact SeqAt.EqAt.str_bool a t' b
  | int b=>obtain⟨t,rfl⟩:=rx;exact SeqAt.EqAt.str_int a t' b t
  | str b=>obtain⟨t,rfl⟩:=rx;exact SeqAt.EqAt.str_str a t' b t
  | _=>exact absurd (show false=true from fx) Bool.false_ne_true
 | _=>exact absurd (show false=true from fy) Bool.false_ne_true
def iE (x:V) (u:Value):Bool:=match u with
 | .none=>jl .aO x
 | .bool b=>jl (.bl b) x
 | .int i _=>jl (.int i) x
 | .str z _=>jl (.str z) x
 | _=>false
theorem nA {x y:V} {u:Value} (r:RelV y u) (f:dI y=true):iE x u=jl y x:=by
 cases y with
 | aO=>cases r;rfl
 | bl b=>cases r;rfl
 | int i=>obtain⟨t,rfl⟩:=r;rfl
 | str z=>obtain⟨t,rfl⟩:=r;rfl
 | _=>exact absurd (show false=true from f) Bool.false_ne_true
theorem i3 {x:V}:∀ {xs:List V} {us:List Value},Vals xs us->xs.all dI=true->us.any (iE x)=xs.any fun y=>jl y x
 | _,_,.nil,_=>rfl
 | y :: xs,u :: us,.cons r t,f=>by
  rw [List.all_cons,Bool.and_eq_true] at f
  rw [List.any_cons,List.any_cons,nA r f.1,i3 t f.2]
theorem h8 {A:Around} {s:Shared} {x:V} {v:Value} (rx:RelV x v) (fx:dI x=true):∀ {xs:List V} {us:List Value},Vals xs us->xs.all dI=true->∀ u ∈ us,SeqAt.EqAt A s u v (iE x u)
 | _,_,.nil,_=>fun u hu=>by cases hu
 | y :: xs,u :: us,.cons r t,f=>fun u' hu=>by
  rw [List.all_cons,Bool.and_eq_true] at f
  rcases List.mem_cons.mp hu with rfl | hu
  ·rw [nA r f.1];exact rS r rx f.1 fx
  ·exact h8 rx fx t f.2 u' hu
def tK (x:V) (xs:List V):Bool:=xs.any fun y=>jl y x
inductive uO (K:PySem.W.Frag) (neg:Bool) (x:V) (y:V) (H:Hp) (Q:VK):Prop
 | mk (p xs:_) (_:y=.ref p) (_:(ax K H p xs\/aJ K H p xs)) (_:dI x=true) (_:xs.all dI=true) (_:Q (.bl (if neg then !tK x xs else tK x xs)) H)
theorem ka:bT X (compareOp .NotIn) (uO X.K true):=by
 intro pins s σ H x y v u Q I rx ry h
 obtain⟨p,xs,rfl,hq,fx,fs,q⟩:=h
 cases ry
 rcases hq with hq | hq
 ·obtain⟨its,r,pl,hz⟩:=I.list hq
  refine SeqAt.notIn_listAt (iE x) pl.isList (fun w hw=>h8 rx fx r fs w (by simpa using hw)) ⟨.bl _,H,I,rfl,?_⟩
  rw [show its.toArray.any (iE x)=its.any (iE x) by simp,i3 r fs]
  exact q
 ·obtain⟨its,r,pl,hz⟩:=I.tuple hq
  refine SeqAt.notIn_tupleAt (iE x) pl (fun w hw=>h8 rx fx r fs w (by simpa using hw)) ⟨.bl _,H,I,rfl,?_⟩
  rw [show its.toArray.any (iE x)=its.any (iE x) by simp,i3 r fs]
  exact q
theorem bo:cm X (.builtin "len") (fun xs H Q=>∃ p ys,xs = [.ref p]/\(ax X.K H p ys\/aJ X.K H p ys)/\Q (.int ys.length) H):=by
 intro pins s σ H xs us Q I r h
 obtain⟨p,ys,rfl,hq,q⟩:=h
 obtain⟨u,rfl,rx⟩:=vals1 r
 cases rx
 have hn:=fj
 rcases hq with hq | hq
 ·obtain⟨its,r',pl,hz⟩:=I.list hq
  have hlen:=r'.length
  exact Calls.call_len_list pl.isList (by simp only [List.size_toArray] <;> omega) ⟨.int ys.length,H,I.tok _,⟨s.toks+1,by rw [List.size_toArray,hlen]⟩,q⟩
 ·obtain⟨its,r',pl,hz⟩:=I.tuple hq
  have hlen:=r'.length
  exact len_tuple pl (by simp only [List.size_toArray] <;> omega) ⟨.int ys.length,H,I.tok _,⟨s.toks+1,by rw [List.size_toArray,hlen]⟩,q⟩
theorem d8:cm X (.builtin "len") (fun xs H Q=>∃ z,xs = [.str z]/\z.length<=sizeLine/\Q (.int z.length) H):=by
 intro pins s σ H xs us Q I r h
 obtain⟨z,rfl,hz,q⟩:=h
 obtain⟨u,rfl,t,rfl⟩:=vals1 r
 have hn:=fj
 exact len_str (by omega) ⟨.int z.length,H,I.tok _,⟨_,rfl⟩,q⟩
theorem gh:cm X (.type "list") (fun xs H Q=>∃ p ys,xs = [.ref p]/\(ax X.K H p ys\/aJ X.K H p ys)/\∀ l,H l=none->Q (.ref l) (upd H l (.lst ys))):=by
 intro pins s σ H xs us Q I r h
 obtain⟨p,ys,rfl,hq,q⟩:=h
 obtain⟨u,rfl,rx⟩:=vals1 r
 cases rx
 have fin:∀ (its:List Value),Vals ys its->ys.length<=sizeLine->∀ (h':Heap) (c':Nat),(∀ b o',s.heap.get? b=some o'->h'.get? b=some o') ->
   h'.get? s.heap.objs.size=some { cls:=.type "list",dict:=none,data:=.seq its.toArray c',slots:=#[] }->EP X pins σ Q (.ref s.heap.objs.size) { s with heap:=h' }:=fun its r' hz h' c' kp e =>
  ⟨.ref s.heap.objs.size,_,I.laid (t':=s.toks) kp (Nat.le_refl _) (show bA X.prog X.w _ h' _ (.lst ys) from ⟨hz,its,c',r',e⟩),rfl,q _ (I.ai.fresh (Nat.le_refl _))⟩
 rcases hq with hq | hq
 ·obtain⟨its,r',pl,hz⟩:=I.list hq
  have hlen:=r'.length
  obtain⟨o,ho,hc,n,hd⟩:=pl.isList
  exact call_list_seq p (.inl rfl) ho hc hd (fun h' c' kp e=>fin its r' hz h' c' kp e) (by simp only [List.size_toArray] <;> omega)
 ·obtain⟨its,r',pl,hz⟩:=I.tuple hq
  have hlen:=r'.length
  obtain⟨o,ho,hc,n,hd⟩:=pl
  exact call_list_seq p (.inr rfl) ho hc hd (fun h' c' kp e=>fin its r' hz h' c' kp e) (by simp only [List.size_toArray] <;> omega)
theorem b4:cm X (.type "tuple") (fun xs H Q=>∃ p ys,xs = [.ref p]/\((ax X.K H p ys/\∀ l,H l=none->Q (.ref l) (upd H l (.tup ys)))\/(aJ X.K H p ys/\Q (.ref p) H))):=by
 intro pins s σ H xs us Q I r h
 obtain⟨p,ys,rfl,h⟩:=h
 obtain⟨u,rfl,rx⟩:=vals1 r
 cases rx
 rcases h with ⟨hq,q⟩ | ⟨hq,q⟩
 ·obtain⟨its,r',pl,hz⟩:=I.list hq
  have hlen:=r'.length
  refine call_tuple_list pl.isList (fun h' kp=>?_) (by simp only [List.size_toArray] <;> omega)
  have I1:Inv X pins σ H { s with heap:=h' }:=I.kept (t':=s.toks) kp
  have I2:Inv X pins σ (upd H h'.objs.size (.tup ys)) { s with heap:=h'.push { cls:=.type "tuple",data:=.seq its.toArray } } :=
   I1.laid (t':=s.toks) (fun b o e=>Heap.get?_push_of_some _ e) (Nat.le_refl _) (show bA X.prog X.w _ _ _ (.tup ys) from ⟨hz,its,r',⟨_,Heap.get?_push_size _ rfl,rfl,_,rfl,rfl⟩⟩)
  exact⟨.ref h'.objs.size,_,I2,rfl,q _ (I1.ai.fresh (Nat.le_refl _))⟩
 ·obtain⟨its,r',pl,hz⟩:=I.tuple hq
  exact call_tuple_same pl ⟨.ref p,H,I,rfl,q⟩
def tL (K:PySem.W.Frag) (T:String) (x:V) (H:Hp):Prop:=match x with
 | .str _=>T = "str"
 | .int _=>T = "int"
 | .ref p=>(T = "list" /\ ∃ xs,ax K H p xs)\/(T = "tuple" /\ ∃ o,K.lookup p=some o/\o.cls=.type "tuple" /\ o.dict=none) \/
   (T = "dict" /\ ((∃ kvs,H p=some (.dK kvs))\/∃ kvs,H p=some (.dT kvs)))\/(T = "set" /\ ∃ S n,H p=some (.set S n))
 | _=>False
theorem rT {pins:List (Addr × Obj)} {σ : St} {H:Hp} {s:Shared} {T:String} {x:V} {v:Value} (I:Inv X pins σ H s) (r:RelV x v) (ty:tL X.K T x H) :
  s.TypeIs v T/\∀ a,v=.ref a->∃ ob,s.heap.get? a=some ob/\ob.dict=none:=by
 cases x with
 | str z =>
  obtain⟨t,rfl⟩:=r
  cases (show T = "str" from ty)
  exact⟨typeIs_str s z t,fun _ e=>nomatch e⟩
 | int i =>
  obtain⟨t,rfl⟩:=r
  cases (show T = "int" from ty)
  exact⟨typeIs_int s i t,fun _ e=>nomatch e⟩
 | ref p =>
  cases r
  rcases ty with ⟨rfl,xs,hq⟩ | ⟨rfl,o,hk,hc,hd⟩ | ⟨rfl,hk⟩ | ⟨rfl,S,n,hk⟩
  ·obtain⟨its,_,pl,_⟩:=I.list hq
   refine⟨pl.isList.typeIs,fun a e=>?_⟩
   cases e
   obtain⟨o,n,e,c,hd,_⟩:=pl
   exact⟨o,e,hd⟩
  ·refine⟨⟨o,I.cQ p o hk,hc⟩,fun a e=>?_⟩
   cases e
   exact⟨o,I.cQ _ o hk,hd⟩
  ·have z:∃ o,s.heap.get? p=some o/\o.ExactDict:=by
    rcases hk with ⟨kvs,hk⟩ | ⟨kvs,hk⟩
    ·obtain⟨_,_,_,_,o,_,_,e,ex,_⟩:=I.ai p _ hk
     exact⟨o,e,ex⟩
    ·obtain⟨_,_,_,_,o,_,_,e,ex,_⟩:=I.ai p _ hk
     exact⟨o,e,ex⟩
   obtain⟨o,e,ex⟩:=z
   refine⟨⟨o,e,ex.1⟩,fun a e2=>?_⟩
   cases e2
   exact⟨o,e,ex.2.1⟩
  ·obtain⟨o,_,_,_,e,ex,_⟩:=I.ai p _ hk
   refine⟨⟨o,e,ex.1⟩,fun a e2=>?_⟩
   cases e2
   exact⟨o,e,ex.2.1⟩
 | _=>exact False.elim ty
def tM (K:PySem.W.Frag) (T:String) (r:V->List V->Hp->VK->Prop) (to:TE) (t:TA):TE:=fun σ H Q=>to σ H fun x H1=>tL K T x H1/\t σ H1 fun xs H2=>r x xs H2 Q
variable {o e:Expr} {es:List Expr} {to:TE} {t:TA} {name:Str} {apos cpos:Pos} {T id:String} {r:V->List V->Hp->VK->Prop}
theorem b8 (pa:PlainAttrs T) (slot:Slot T name id) (hty:typeOf (.builtin id)=pure (.type "method_descriptor")) (hm:lM X id r) (ho:PE X o to) (ha:PA X (e :: es) t)
  (hbase:attributeBase o name X.env (eval o X.env)=eval o X.env:=by rfl)
  (hfew:((backTo cpos (starEach (e :: es) X.env)).all (fun x=>!x.1) && (backToKw cpos (keywordEach [] X.env)).all (fun x=>x.1.isSome)
   && decide ((e :: es).length+([]:List Keyword).length+(if ([]:List Keyword).isEmpty then 0 else 1) < 30))=true:=by rfl)
  (hline:(apos.endLine == cpos.line)=true:=by rfl) (hs:starEach (e :: es) X.env=(false,eval e X.env) :: starEach es X.env:=by rfl) (hplain:(backTo cpos (starEach es X.env)).any (·.1)=false:=by rfl) :
  PE X (.Call (.Attribute o name apos) (e :: es) [] cpos) (tM X.K T r to t):=by
 intro pins s σ H Q I h
 refine wpAny_Call_method_late hbase hfew hline rfl (aB (ho pins s σ H _ I h) fun v s1 ⟨x,H1,I1,r1,ty,q1⟩=>?_)
 obtain⟨h1,h2⟩:=rT I1 r1 ty
 refine⟨T,id,pa,slot,hty,h1,h2,?_⟩
 have hA:=ha cpos pins s1 σ H1 _ I1 q1
 rw [hs] at hA ⊢
 refine Calls.callWith_builtin (by show (false || (backTo cpos (starEach es X.env)).any (·.1))=false;rw [hplain] <;> rfl) (Calls.evalArgs_plain ?_)
 exact aB hA fun us s2 ⟨vs,H2,I2,r2,q2⟩=>hm pins s2 σ H2 x vs v us Q I2 r1 r2 q2
end
def uP (X:Cx) (id:String) (r:V->List V->Hp->VK->Prop):Prop :=
 ∀ (pins:List (Addr × Obj)) (s:Shared) (σ : St) (H:Hp) (x:V) (xs:List V) (v:Value) (us:List Value) (Q:VK),Inv X pins σ H s->RelV x v->Vals xs us->r x xs H Q ->
  wpAny (model X.prog X.w) X.A (call (.builtin id) (v :: us)) (EP X pins σ Q) X.xe s
theorem Vals.one:∀ {x:V} {us:List Value},Vals [x] us->∃ u,us = [u]/\RelV x u
 | _,_,.cons r .nil=>⟨_,rfl,r⟩
section
variable {X:Cx} {pins:List (Addr × Obj)} {σ : St} {H:Hp} {s:Shared} {l b:Addr} {xs ys zs:List V}
theorem Inv.uv {its its':List Value} {n:Nat} {f:Array Value->Array Value} {t':Nat} (I:Inv X pins σ H s) (hH:H l=some (.lst xs))
  (e:s.heap.get? l=some { cls:=.type "list",data:=.seq its.toArray n }) (hf:f its.toArray=its'.toArray) (hv:Vals ys its') (hz:ys.length<=sizeLine) :
  Inv X pins σ (upd H l (.lst ys)) { s with heap:=s.heap.update l (Obj.mapSeq f),toks:=t' }:=by
 have q:=PySem.IsL.update e f
 rw [hf] at q
 refine I.write (x:=l) (e:=l) (by rw [hH];exact trivial) (.inl rfl) (fun b' u hb hu=>(Heap.get?_update_other s.heap (Obj.mapSeq f) (Ne.symm hb)).trans hu) ⟨_,q⟩ ?_
 exact⟨hz,its',_,hv,q⟩
theorem Inv.uw {its:List Value} {t':Nat} (I:Inv X pins σ H s) (hv:Vals ys its) (hz:ys.length<=sizeLine) :
  Inv X pins σ (upd H s.heap.objs.size (.lst ys)) { s with heap:=s.heap.push { cls:=.type "list",data:=.seq its.toArray },toks:=t' } :=
 I.laid (fun _ _ q=>Heap.get?_push_of_some _ q) (Nat.le_refl _) ⟨hz,its,0,hv,Heap.get?_push_size _ rfl⟩
theorem Inv.fresh (I:Inv X pins σ H s):H s.heap.objs.size=none:=I.ai.fresh (Nat.le_refl _)
theorem Inv.oR (I:Inv X pins σ H s) (hH:H l=some (.lst xs)):xs.length<=sizeLine/\∃ (its:List Value) (n:Nat),Vals xs its/\xs.length=its.length/\s.heap.get? l=some { cls:=.type "list",data:=.seq its.toArray n }:=by
 obtain⟨z,its,n,r,e⟩:=I.ai l _ hH
 exact⟨z,its,n,r,r.length,e⟩
end
section
variable {X:Cx}
inductive qt  (x:V) (vs:List V) (H:Hp) (Q:VK):Prop
 | mk (l xs y:_) (_:x=.ref l) (_:vs = [y]) (_:H l=some (.lst xs)) (_:xs.length < sizeLine) (_:Q .aO (upd H l (.lst (xs ++ [y]))))
theorem gm:uP X "list.append" qt:=by
 intro pins s σ H x vs v us Q I rx rv h
 obtain⟨l,xs,y,rfl,rfl,hH,hz,q⟩:=h
 cases rx
 obtain⟨u,rfl,ru⟩:=rv.one
 obtain⟨z,its,n,r,hl,e⟩:=I.oR hH
 refine call_meets F.slot_list_append ⟨_,e,rfl⟩ F.entry_list_append (F.args_list_append_2 _ _) (PySem.list_append l its.toArray n u (by rw [List.size_toArray];omega)) ⟨e,?_⟩
 refine⟨.aO,_,I.uv (its':=its ++ [u]) hH e (by simp) (r.append (.cons ru .nil)) ?_,rfl,q⟩
 rw [List.length_append,List.length_singleton]
 omega
inductive ux  (x:V) (y:V) (H:Hp) (Q:VK):Prop
 | mk (l b xs zs:_) (_:x=.ref l) (_:y=.ref b) (_:H l=some (.lst xs)) (_:H b=some (.lst zs)) (_:xs.length+zs.length<=sizeLine) (_:∀ p,H p=none->Q (.ref p) (upd H p (.lst (xs++zs))))
theorem rV:bT X (binaryOp .Add) ux:=by
 intro pins s σ H x y v u Q I rx ry h
 obtain⟨l,b,xs,zs,rfl,rfl,hH,hB,hz,q⟩:=h
 cases rx
 cases ry
 obtain⟨z,its,n,r,hl,e⟩:=I.oR hH
 obtain⟨z2,its2,n2,r2,hl2,e2⟩:=I.oR hB
 refine PySem.P.add_list e e2 ?_ (by rw [List.size_toArray,List.size_toArray];omega)
 have ea:its.toArray++its2.toArray=(its++its2).toArray:=by simp
 rw [ea]
 exact⟨.ref _,_,I.uw (t':=s.toks) (r.append r2) (by rw [List.length_append];omega),rfl,q _ I.fresh⟩
end
section
variable {prog:Program} {w:World} {A:Around} {E:Value->Shared->Prop} {s:Shared}
end
section
variable {X:Cx}
end
end L2
namespace tN
open PySem PySem.W PySem.Calls PyProof.Rows
theorem iF {P:Params} {h:Heap}:∀ (ns:List Int) (vs:List Value),WellAll P h vs (ns.map WData.int)->IntsAre vs ns:=by
 intro ns
 induction ns with
 | nil =>
  intro vs w
  rw [List.map_nil] at w
  cases w
  exact .nil
 | cons n ns ih =>
  intro vs w
  rw [List.map_cons] at w
  cases w with
  | cons a b =>
   cases a
   exact .cons _ _ (ih _ b)
theorem nB {l:OpenLaw} {n:Nat} (hn:l.most=some n) {P:Params} {h:Heap} {args:List WData} {vals:List Value}
  (hpre:l.row.toRowW.claim.pre args=true) (hwl:WellAll P h vals args) :
  ∃ a vs ns,vals = [Value.ref a]/\args = [WData.list (ns.map WData.int)]/\h.get? a=some { cls:=.type "list",data:=.seq vs.toArray }/\IntsAre vs ns/\ns.length<=n:=by
 have hsh:WShape.hasAll [] args [.list .int] = true:=(pre_splitW hpre).1
 have hc:l.pre.holds [] { args:=args }=true:=(pre_splitW hpre).2
 obtain⟨d,r,rfl,h1,h2⟩:=hasAllW_cons hsh
 obtain rfl:=hasAllW_nil h2
 obtain⟨xs,rfl,h3⟩:=hasW_list h1
 obtain⟨ns,rfl⟩:=items_int h3
 have hlen:ns.length<=n:=by
  unfold OpenLaw.pre at hc
  have h4:(WTm.not (.lt (.lit (.int (n:Int))) (.len (.arg 0)))).holds [] { args:=[.list (ns.map .int)] }=true:=by
   have h4:=(holds_andW hc).1
   rw [hn] at h4
   exact h4
  have h5:=condW_of h4 (w_not (w_lt w_lit (w_len_list (w_arg rfl))))
  rw [List.length_map] at h5
  refine Nat.le_of_not_lt fun q=>?_
  have q':(n:Int) < ((ns.length:Nat):Int):=by omega
  first
   | (rw [decide_eq_true q'] at h5;exact absurd h5 (by decide))
   | (simp at h5;omega)
 cases hwl with
 | cons w1 w2 =>
  cases w2
  cases w1 with
  | list ho hall=>exact⟨_,_,ns,rfl,rfl,ho,iF ns _ hall,hlen⟩
theorem nE (l:OpenLaw) (args:List WData):l.row.toRowW.claim.post args (.bool true) args=true :=
 postW_of (r:=l.row.toRowW) (X:=(true == true))
  (show WShape.has [] (.bool true) .bool=true by first | rfl | decide | simp [WShape.has,WShape.arms,WShape.armsAll])
  (show (WTm.eq .res (.lit (.bool true))).value [] { args:=args,res:=some (.bool true),after:=args }=some (.bool (true == true)) from w_eq_bool (w_res rfl) w_lit) rfl
theorem kR {l:OpenLaw} {n:Nat} {q:Program} {loose:List Str} {XP:(Str->Option Value)->Heap->Prop} {YP:World->Heap->Prop} {d:DefRec}
  (hn:l.most=some n) (hdf:d.params.defaults = [])
  (call:∀ (w:World) (bO s₁ : Shared) (mg mb:Str->Option Value) (fa:Addr) (o:Obj) (pm cd doc:Value) (a:Addr) (vs:List Value) (ns:List Int),
   Ground q loose [] XP w bO mg mb s₁.heap->YP w s₁.heap ->
   s₁.heap.get? fa=some o->o.data=.func (docDef d.name d.params d.body d.scope pm cd doc)->s₁.heap.CodeRec cd d.name->mg d.name=some (.ref fa) ->
   s₁.heap.get? a=some { cls:=.type "list",data:=.seq vs.toArray }->IntsAre vs ns->ns.length<=n->s₁.gens = #[] ->
   codeAny (model l.prog w) callerA (.call (.ref fa) ⟨[.ref a],[]⟩) (fun r s'=>r=.ok (.ret (.bool true))/\OldK s₁.heap s'.heap/\s'.os=s₁.os/\AllBare s'.gens) s₁) :
  WalkO q loose XP YP l.row.toRowW d [] (fun f vs=>PySem.call f vs):=by
 intro w bO s₁ mg mb G Y fa o pm cd doc dV kV ho hd hcd hD hmg hg args vals as hpre hlay hrd hwl hlo
 obtain rfl:dV=.none:=Dflts.none hD hdf
 obtain rfl:kV=.none:=Dflts.noKw hD
 obtain⟨a,vs,ns,rfl,rfl,hobj,hints,hlen⟩:=nB hn hpre hwl
 refine enter_call (codeAny_mono (call w bO s₁ mg mb fa o pm cd doc a vs ns G Y ho (fd_plain hd) hcd hmg hobj hints hlen hg) fun r s' hq=>?_)
 obtain⟨rfl,h2,h3,h4⟩:=hq
 exact⟨.inl ⟨.bool true,.bool true,[],rfl,fun _=>rfl,.bool true,nE l _,fun _=>⟨List.Pairwise.nil,fun _ hm=>(nomatch hm)⟩⟩,h2,h3,h4⟩
section
variable {prog:Program} {w:World} {A:Around} {E:Value->Shared->Prop} {s:Shared} {K:Frag}
def ledger (h:Heap) (L d:Addr):List (Addr × Obj):=(List.range h.objs.size).filterMap fun a=>if a=L\/a=d then none else (h.get? a).map fun o=>(a,o)
end
end tN
namespace L2
open PySem PySem.Spec PyProof.Rows
theorem jm:∀ {vs:List Value} {ns:List Int},IntsAre vs ns->Vals (ns.map V.int) vs
 | _,_,.nil=>.nil
 | _,_,.cons n t h=>.cons ⟨t,rfl⟩ (jm h)
def oS (H:Hp):Prop:=∀ b,H b=none\/∃ o xs,H b=some (.eI o (.lst xs))
theorem oT {P:Program} {w:World} {K:PySem.W.Frag} {mg mb:Str->Option Value} {CX:gd} {k:Nat} {fa a:Addr} {fd:FuncData} {x:Str} {sp:Sp} {s₁ : Shared} {vs:List Value} {ns:List Int}
    (KX:K.In s₁.heap) (hns:s₁.heap.Ns mainGlobals mg) (hb:s₁.heap.Ns builtinsNs mb) (hbb:∀ x:Str,x ≠ "__name__" -> mb x=bootBuiltins x) (hlim:s₁.heap.NoLimit) (hg:s₁.gens = #[])
    (ha:s₁.heap.get? a=some { cls:=.type "list",data:=.seq vs.toArray }) (hi:IntsAre vs ns) (hl:ns.length<=sizeLine) (hr:bZ k callerA)
    (F:∀ base:Heap,K.In base->base.Ns mainGlobals mg->bf P w K mg base CX k fa fd [x] sp) (hbind:∀ (s:Shared) (u:Value),BindsTo s fd ⟨[u],[]⟩ [(x,u)])
    (hsp:∀ H:Hp,oS H->ax K H a (ns.map V.int)->sp [.ref a] H (fun v _=>v=.bl true) fun _ _ _=>False)
    (hCX:∀ H e s',CX [] H s₁ (fun _ _ _=>False) e s'->False) :
    codeAny (model P w) callerA (.call (.ref fa) ⟨[.ref a],[]⟩) (fun r s'=>r=.ok (.ret (.bool true))/\OldK s₁.heap s'.heap/\s'.os=s₁.os/\AllBare s'.gens) s₁:=by
  have rv:=jm hi
  have lenV:=hi.length
  have core:∀ H:Hp,oS H->ax K H a (ns.map V.int)->bX P w H s₁.heap->(∀ b,H b ≠ none->b=a)->(H a ≠ none->K.lookup a=none) ->
      codeAny (model P w) callerA (.call (.ref fa) ⟨[.ref a],[]⟩) (fun r s'=>r=.ok (.ret (.bool true))/\OldK s₁.heap s'.heap/\s'.os=s₁.os/\AllBare s'.gens) s₁:=by
    intro H hO hS ai hA hK
    have base_of:∀ {b:Addr} {o:Obj},s₁.heap.get? b=some o->H b=none->(fw s₁.heap H).get? b=some o:=fun e n=>oy e n
    have noA:∀ {b:Addr} {o:Obj} {es:Array DictEntry} {ep:Nat},s₁.heap.get? b=some o->o.data=.dict es ep->H b=none:=fun {b o es ep} e d=>by
      cases q:H b with
      | none=>rfl
      | some u =>
        have e':b=a:=hA b (by rw [q];simp)
        subst e'
        rw [ha] at e;cases e
        have d':Data.seq vs.toArray _=Data.dict es ep:=d
        cases d'
    have nsK:∀ {b:Addr} {m:Str->Option Value},s₁.heap.Ns b m->(fw s₁.heap H).Ns b m:=fun {b m} ⟨o,es,ep,e,d,r⟩=>⟨o,es,ep,base_of e (noA e d),d,r⟩
    have hKb:K.In (fw s₁.heap H):=fun b o e=>base_of (KX b o e) (by
      cases q:H b with
      | none=>rfl
      | some u =>
        have e':b=a:=hA b (by rw [q];simp)
        subst e'
        rw [hK (by rw [q];simp)] at e;cases e)
    have hM:Mod K mg (fw s₁.heap H):=⟨hKb,nsK hns,⟨mb,nsK hb,hbb⟩,let ⟨mc,h1,h2⟩:=hlim;⟨mc,nsK h1,h2⟩⟩
    have e0:mB P w K mg (fw s₁.heap H) callerA [] s₁ H:=⟨rfl,hM,fun b o e=>qe e,Nat.le_of_eq (m3 _ _),trivial,fun b hb=>absurd (show b ∈ ([]:List Addr) from hb) (by simp),ai,.of_eq hg⟩
    refine codeAny_mono ((F _ hKb (nsK hns)).run callerA [] s₁ H ⟨[.ref a],[]⟩ [.ref a] [.ref a] _ _ hr e0 (hbind s₁ (.ref a)) (.cons rfl .nil) (hsp H hO hS)) fun r s' h=>?_
    cases r with
    | error e=>exact (hCX H e s' h).elim
    | ok fl =>
      cases fl with
      | next=>exact False.elim h
      | brk=>exact False.elim h
      | cont=>exact False.elim h
      | ret u =>
        obtain⟨v,H',os,bare,un,hok',r',q⟩:=h
        have q':v=.bl true:=q
        subst q'
        obtain rfl:u=Value.bool true:=r'
        refine⟨rfl,OldK.of_keep fun b o e=>?_,os,bare⟩
        cases q:H b with
        | none=>exact un.keep b o e q (by intro z;exact absurd (show b ∈ ([]:List Addr) from z) (by simp)) (by simp)
        | some u =>
          rcases hO b with z | ⟨ob,xs,z⟩
          · rw [q] at z;cases z
          · have z2:=un.fv b ob _ z
            obtain⟨e1,_⟩:=ai b _ z
            obtain⟨e2,_⟩:=hok' b _ z2
            rw [e] at e1;cases e1
            exact e2
  cases hk:K.lookup a with
  | some o =>
    have e:=KX a o hk
    rw [ha] at e
    cases e
    refine core (fun _=>none) (fun _=>.inl rfl) (.inr ⟨_,vs.toArray,_,hk,rfl,rfl,rfl,by rw [List.size_toArray,lenV];exact hl,by simpa using rv⟩) (fun b u z=>by have z':(none:Option HO)=some u:=z;cases z') (fun b z=>absurd rfl z) fun z=>absurd rfl z
  | none =>
    refine core (fun b=>if b=a then some (.eI { cls:=.type "list",data:=.seq vs.toArray } (.lst (ns.map V.int))) else none) (fun b=>?_) (.inl (.inr ⟨{ cls:=.type "list",data:=.seq vs.toArray },if_pos rfl⟩)) (fun b u z=>?_) (fun b z=>?_) fun _=>hk
    · by_cases hb:b=a
      · exact .inr ⟨_,_,if_pos hb⟩
      · exact .inl (if_neg hb)
    · by_cases hb:b=a
      · have z':=(if_pos hb).symm.trans z
        cases z'
        subst hb
        exact⟨ha,by rw [List.length_map];exact hl,vs,_,rv,ha⟩
      · have z':=(if_neg hb).symm.trans z
        cases z'
    · by_cases hb:b=a
      · exact hb
      · exact absurd (if_neg hb) z
abbrev KOf {K:PySem.W.Frag} {h:Heap} (_:K.In h):PySem.W.Frag:=K
theorem qu {l:PySem.W.OpenLaw} {n k:Nat} {q:Program} {loose:List Str} {XP:(Str->Option Value)->Heap->Prop} {YP:World->Heap->Prop} {d:DefRec} {K:Params->PySem.W.Frag} {CX:World->gd} {sp:World->Sp} {x:Str}
  (hn:l.most=some n) (hn2:n<=sizeLine) (hdf:d.params.defaults = []) (hr:bZ k callerA)
  (hY:∀ (w:World) (h:Heap),YP w h->(K w.params).In h)
  (F:∀ (w:World) (mg:Str->Option Value) (fa:Addr) (h:Heap),(K w.params).In h->h.Ns mainGlobals mg->mg d.name=some (.ref fa) ->
   ∃ fd:FuncData,(∀ (s:Shared) (u:Value),BindsTo s fd ⟨[u],[]⟩ [(x,u)]) /\
    ∀ base:Heap,(K w.params).In base->base.Ns mainGlobals mg->bf l.prog w (K w.params) mg base (CX w) k fa fd [x] (sp w))
  (hsp:∀ (w:World) (H:Hp) (a:Addr) (ns:List Int),ns.length<=n->oS H->ax (K w.params) H a (ns.map V.int)->sp w [.ref a] H (fun v _=>v=.bl true) fun _ _ _=>False)
  (hCX:∀ (w:World) (H:Hp) (s:Shared) (e:Value) (s':Shared),CX w [] H s (fun _ _ _=>False) e s'->False) :
  PySem.W.WalkO q loose XP YP l.row.toRowW d [] (fun f vs=>PySem.call f vs):=by
 refine tN.kR hn hdf fun w bO s₁ mg mb fa o pm cd doc a vs ns G Y ho hd hcd hmg hobj hints hlen hg=>?_
 have KX:=hY w _ Y
 obtain⟨fd,hb,hF⟩:=F w mg fa _ KX G.T.g hmg
 exact oT KX G.T.g G.T.b G.T.builtins G.T.nolimit hg hobj hints (Nat.le_trans hlen hn2) hr hF hb (fun H hO hS=>hsp w H a ns hlen hO hS) fun H e s'=>hCX w H s₁ e s'
def bV (s:Stmt):Arguments:=match s with
 | .FunctionDef _ a _ _ _ _ _ _ _ _=>a
 | _=>{ posonlyargs:=[],args:=[],vararg:=none,kwonlyargs:=[],kw_defaults:=[],kwarg:=none,defaults:=[] }
def bS (s:Stmt):List Stmt:=match s with
 | .FunctionDef _ _ b _ _ _ _ _ _ _=>b
 | _=>[]
def ah (s:Stmt):Scope:=match s with
 | .FunctionDef _ _ _ _ _ _ sc _ _ _=>sc
 | _=>{ kind:=.function,names:=[],isGenerator:=false,isCoroutine:=false }
abbrev bK:gd:=fun _ _ _ _ _ _=>False
abbrev E0:XK:=fun _ _ _=>False
theorem sY {X:Cx}:Passes bK X E0:=fun _ _ _ _ _ _ _ h=>h.elim
structure bN (K:PySem.W.Frag) (x qual:Str) (st:Stmt) (f:Addr) (fd:FuncData):Prop where
 ex:∃ (oc:Value) (od:Option Addr) (kV doc pm:Value) (an:Option Addr) (cdv ct:Value) (osl:Array (Option Value)),
  fd=PySem.W.fnOf x qual (bV st) (bS st) (ah st) .none kV doc pm an cdv ct/\K.lookup f=some ⟨oc,od,.func fd,osl⟩/\PySem.W.codeIn K cdv qual=true
 kp:PySem.W.keepIn K (.ref f)=true
section
variable {P:Program} {w:World} {K:PySem.W.Frag} {mg:Str->Option Value} {base:Heap}
theorem bN.ok {x qual:Str} {st:Stmt} {f:Addr} {fd:FuncData} {N ps:List Str} {k:Nat} {sp:Sp} (F:bN K x qual st f fd) (S:aC N ps (ah st)) (len:∀ vs H Q E,sp vs H Q E->vs.length=ps.length)
  (hbody:∀ (cdv:Value) (A:Around) (outer:List Env) (s:Shared) (H:Hp) (vs:List V) (Q:VK) (E:XK),bZ k (A.deeper (envOfC qual (ah st) s.heap.objs.size f cdv))->sp vs H Q E ->
   ∃ t,fR (i0 bK P w K mg base N qual (ah st) f cdv A outer s H E).pN (bS st) t/\t { nx:=fun _ H'=>Q .aO H',rt:=Q } (start N vs) H):bf P w K mg base bK (k+1) f fd ps sp:=by
 obtain⟨oc,od,kV,doc,pm,an,cdv,ct,osl,rfl,lk,hcd⟩:=F.ex
 refine sT lk hcd S len fun A outer s H vs Q E hr hsp=>?_
 obtain⟨t,h,q⟩:=hbody cdv A outer s H vs Q E hr hsp
 exact⟨t,h.pN,q⟩
theorem bN.binds {x qual:Str} {st:Stmt} {f:Addr} {fd:FuncData} {ps:List Str} (F:bN K x qual st f fd)
  (h:∀ (kV doc pm:Value) (an:Option Addr) (cdv ct:Value) (us:List Value),us.length=ps.length->bindArgs (PySem.W.fnOf x qual (bV st) (bS st) (ah st) .none kV doc pm an cdv ct) ⟨us,[]⟩=pure (ps.zip us)):Binds K fd ps []:=by
 obtain⟨oc,od,kV,doc,pm,an,cdv,ct,osl,rfl,lk,hcd⟩:=F.ex
 exact .all (h kV doc pm an cdv ct)
theorem rW {x qual:Str} {st:Stmt} {f:Addr} {oc:Value} {od an:Option Addr} {osl:Array (Option Value)} {kV doc pm cdv ct:Value} (l:K.lookup f=some ⟨oc,od,.func (PySem.W.fnOf x qual (bV st) (bS st) (ah st) .none kV doc pm an cdv ct),osl⟩)
  (c:PySem.W.codeIn K cdv qual=true) (k:PySem.W.keepIn K (.ref f)=true):bN K x qual st f (PySem.W.fnOf x qual (bV st) (bS st) (ah st) .none kV doc pm an cdv ct):=⟨⟨oc,od,kV,doc,pm,an,cdv,ct,osl,rfl,l,c⟩,k⟩
end
theorem aK {n:Nat} (h:n<=1000):n < sizeLine:=Nat.lt_of_le_of_lt h (by decide)
section
variable {X:Cx}
theorem pv (i:Nat) {x:Str} {pos:Pos} (hN:X.N[i]? = some x:=by rfl) (hv:rm X.env.scope x:=by first | exact Or.inl rfl | exact Or.inr (Or.inl rfl) | exact Or.inr (Or.inr rfl)) (hd:(x == ("__debug__" : Str))=false:=by decide)
  (hcd:(x == ("__classdict__" : Str))=false:=by decide):PE X (.Name x pos) (rn i):=rq hN hv hd hcd
end
theorem bx {A B:Prop} (h:B):if false=true then A else B:=by
 rw [if_neg Bool.false_ne_true]
 exact h
theorem aU {A B:Prop} (h:A):if true=true then A else B:=by
 rw [if_pos rfl]
 exact h
theorem dg {c A B:Prop} [Decidable c] (h1:c->A) (h2:¬ c->B):if c then A else B:=by
 by_cases h:c
 ·rw [if_pos h]
  exact h1 h
 ·rw [if_neg h]
  exact h2 h
def ab (H H':Hp):Prop:=∀ b o,H b=some o->H' b=some o
theorem ab.refl (H:Hp):ab H H:=fun _ _ h=>h
theorem ab.trans {H H1 H2:Hp} (a:ab H H1) (b:ab H1 H2):ab H H2:=fun c o h=>b c o (a c o h)
theorem ab.free {H H':Hp} (e:ab H H') {l:Addr} (h:H' l=Option.none):H l=Option.none:=by
 cases q:H l with
 | none=>rfl
 | some o =>
  rw [e l o q] at h
  cases h
theorem ab.seq {K:PySem.W.Frag} {H H':Hp} {a:Addr} {xs:List V} (e:ab H H') (h:ax K H a xs):ax K H' a xs:=by
 rcases h with (h | ⟨o,h⟩) | h
 ·exact .inl (.inl (e _ _ h))
 ·exact .inl (.inr ⟨o,e _ _ h⟩)
 ·exact .inr h
section
variable {X:Cx}
theorem qv:bT X (binaryOp .Mult) (rI IntMulOk fun i j=>.int (i * j)):=lC fun _ _ _ _ _ _ _ hc q=>mul_int q hc
def sZ (_i j:Int):Prop:=0 < j/\j.natAbs.log2 < 9000
theorem oU:bT X (binaryOp .FloorDiv) (rI sZ fun i j=>.int (i / j)):=lC fun i j _ _ _ _ _ hc q=>by
 have h1:(0:Int) < j:=hc.1
 exact floordiv_int (by omega) (by rw [Int.fdiv_eq_ediv_of_nonneg i (by omega)];exact q) (.inl (PyProof.noPylong_of_log2 hc.2))
inductive uy (K:PySem.W.Frag) (xs:List V) (H:Hp) (Q:VK):Prop
 | mk (x T t b:_) (_:xs = [x,.ty T]) (_:cR K H x t) (_:PySem.W.kitOne K t (.type T)=some b) (_:Q (.bl b) H)
theorem cI:cm X (.builtin "isinstance") (uy X.K):=by
 intro pins s σ H vs us Q I rv h
 obtain⟨x,T,t,b,rfl,ty,e,q⟩:=h
 obtain⟨u,w',rfl,ru,rw'⟩:=vals2 rv
 cases (show w' = Value.type T from rw')
 exact nu I ru ty e fun tk=>⟨.bl b,H,I.tok tk,rfl,q⟩
structure Own (P:Program) (w:World) (K:PySem.W.Frag) (mg:Str->Option Value) (base:Heap) (x:Str) (k:Nat) (ps:List Str) (sp:Sp):Prop where
 ex:∃ f fd,bf P w K mg base bK k f fd ps sp/\mg x=some (.ref f)/\PySem.W.keepIn K (.ref f)=true/\Binds K fd ps []
variable {x:Str} {k:Nat} {ps:List Str} {sp:Sp} {e:Expr} {es:List Expr} {t:TA} {p pos:Pos}
theorem rX (o:Own X.prog X.w X.K X.mg X.base x k ps sp) (hr:bZ k X.A) (hg:Gl X x) (ha:PA X (e :: es) t)
  (hdb:(x == ("__debug__" : Str))=false:=by decide) (he:starEach (e :: es) X.env=(false,eval e X.env) :: starEach es X.env:=by rfl)
  (hpl:(backTo pos (starEach es X.env)).any (·.1)=false:=by rfl):PE X (.Call (.Name x p) (e :: es) [] pos) (mC sp [] E0 t):=by
 obtain⟨f,fd,F,hm,hk,hb⟩:=o.ex
 exact qm F hr hg hm hk hb .nil sY ha hdb he hpl
end
theorem fS {α : Type} {x:α} {xs:List α}:cy (x :: xs) 0=some x:=bJ (j:=0) rfl
theorem jn {α : Type} {x y:α} {xs:List α}:cy (x :: y :: xs) 1=some y:=bJ (j:=1) rfl
theorem at2 {α : Type} {x y z:α} {xs:List α}:cy (x :: y :: z :: xs) 2=some z:=bJ (j:=2) rfl
theorem mG {α : Type} {xs:List α} {i:Int} (h0:0<=i) (h1:i < xs.length):∃ v,cy xs i=some v/\v ∈ xs:=by
 obtain⟨j,rfl⟩:∃ j:Nat,i=j:=⟨i.toNat,by omega⟩
 have hj:j < xs.length:=by omega
 exact⟨xs[j],bJ (by simp [hj]),List.getElem_mem hj⟩
theorem bP:bootBuiltins "len" = some (.builtin "len"):=by decide +kernel
theorem rY:bootBuiltins "min" = some (.builtin "min"):=by decide +kernel
theorem bL:bootBuiltins "isinstance" = some (.builtin "isinstance"):=by decide +kernel
theorem iG:bootBuiltins "int" = some (.type "int"):=by decide +kernel
theorem qw:bootBuiltins "bool" = some (.type "bool"):=by decide +kernel
theorem cf:bootBuiltins "tuple" = some (.type "tuple"):=by decide +kernel
theorem iH:bootBuiltins "str" = some (.type "str"):=by decide +kernel
theorem lO:bootBuiltins "list" = some (.type "list"):=by decide +kernel
def bG (H:Hp) (b:Addr):Prop:=∃ x y:Int,H b=some (.lst [.int x,.int y])/\0<=y/\y < 2147483648
def Fix (b:Addr) (H H':Hp):Prop:=∀ c o,H c=some o->c ≠ b->H' c=some o
theorem Fix.trans {b:Addr} {H H1 H2:Hp} (u:Fix b H H1) (v:Fix b H1 H2):Fix b H H2:=fun c o h n=>v c o (u c o h n) n
theorem Fix.pS {b:Addr} {H:Hp} {o:HO}:Fix b H (upd H b o):=fun c u h n=>by rw [ao n];exact h
theorem Fix.new {b p:Addr} {H:Hp} {o:HO} (hp:H p=none):Fix b H (upd H p o):=fun c u h _=>by rw [ao (aZ h hp)];exact h
theorem Fix.of_same {b:Addr} {H H':Hp} (h:ab H H'):Fix b H H':=fun c o e _=>h c o e
theorem ab.new {p:Addr} {H:Hp} {o:HO} (hp:H p=none):ab H (upd H p o):=fun c u h=>by rw [ao (aZ h hp)];exact h
theorem bG.new {b p:Addr} {H:Hp} {o:HO} (h:bG H b) (hp:H p=none):bG (upd H p o) b:=by
 obtain⟨x,y,e,q⟩:=h
 exact⟨x,y,by rw [ao (aZ e hp)];exact e,q⟩
theorem bG.same {b:Addr} {H H':Hp} (h:bG H b) (s:ab H H'):bG H' b:=by
 obtain⟨x,y,e,q⟩:=h
 exact⟨x,y,s _ _ e,q⟩
theorem pT {α : Type} {x0:α}:[x0].length<=sizeLine:=by show 1<=sizeLine;decide
theorem ln2 {α : Type} {x0 x1:α}:[x0,x1].length<=sizeLine:=by show 2<=sizeLine;decide
theorem pU {α : Type} {x0 x1 x2:α}:[x0,x1,x2].length<=sizeLine:=by show 3<=sizeLine;decide
theorem uQ {α : Type} {x0 x1 x2 x3 x4:α}:[x0,x1,x2,x3,x4].length<=sizeLine:=by show 5<=sizeLine;decide
theorem uR {α : Type} {x0 x1 x2 x3 x4 x5 x6:α}:[x0,x1,x2,x3,x4,x5,x6].length<=sizeLine:=by show 7<=sizeLine;decide
theorem ab.nF {b:Addr} {H H1 H2:Hp} (s:ab H H1) (n:H b=none) (f:Fix b H1 H2):ab H H2:=fun c o e=>f c o (s c o e) (aZ e n)
theorem bG.kb {b p:Addr} {H:Hp} {xs:List V} (h:bG H b) (e:H p=some (.tup xs)):p ≠ b:=by
 obtain⟨x,y,e1,_⟩:=h
 exact fu e e1 (by intro z;cases z)
theorem bG.cD {b p:Addr} {H:Hp} (h:bG H b) (e:H p=none):p ≠ b:=by
 obtain⟨x,y,e1,_⟩:=h
 exact fun z=>aZ e1 e z.symm
inductive pV (K:PySem.W.Frag) (vs:List V) (H:Hp) (Q:VK) (_:XK):Prop
 | mk (a:Addr) (ns:List Int) (k:Int) (_:vs = [.ref a,.int k]) (_:ax K H a (ns.map V.int)) (_:0<=k) (_:∀ b H',H b=none->bG H' b->ab H H'->Q (.ref b) H')
inductive dr  (vs:List V) (H:Hp) (Q:VK) (_:XK):Prop
 | mk (b:Addr) (m:Int) (_:vs = [.ref b,.int m]) (_:bG H b) (_:(0 < m/\m.natAbs.log2 < 9000)) (_:∀ r H',0<=r->r < m->bG H' b->Fix b H H'->Q (.int r) H')
inductive jN (K:PySem.W.Frag) (vs:List V) (H:Hp) (Q:VK) (_:XK):Prop
 | mk (a:Addr) (ns:List Int) (_:vs = [.ref a]) (_:ax K H a (ns.map V.int)) (_:ns.length<=63) (_:∀ H',Q (.bl true) H')
def fk (cells:List (Str × Addr)):List (Str × NameKind)->List (Str × Addr)->List (Str × Addr)
 | [],cs=>cs
 | (n,k) :: r,cs=>fk cells r (if k == .free then (n,(cells.lookup n).getD 0) :: cs else cs)
theorem iI {scope:Scope} {env:Env} (hf:∀ y ∈ scope.names,y.2=.free->∃ c,env.cells.lookup y.1=some c):closureFor scope env=pure (fk env.cells scope.names []):=by
 have key:∀ (names:List (Str × NameKind)) (cs:List (Str × Addr)),(∀ y ∈ names,y.2=.free->∃ c,env.cells.lookup y.1=some c) ->
   (forIn names cs fun x r=>match x with
    | (name,kind)=>if (kind == NameKind.free)=true then (do let a <-cellOf env name;pure (ForInStep.yield ((name,a) :: r))) else pure (ForInStep.yield r):Sem (List (Str × Addr)))=pure (fk env.cells names cs):=by
  intro names
  induction names with
  | nil=>intro cs _;rfl
  | cons y r ih =>
   intro cs hy
   obtain⟨n,k⟩:=y
   have ih':=fun cs=>ih cs fun z hz=>hy z (List.mem_cons_of_mem _ hz)
   rw [List.forIn_cons]
   by_cases hk:(k == NameKind.free)=true
   ·have e:k=.free:=by simpa using hk
    obtain⟨c,hc⟩:=hy (n,k) List.mem_cons_self e
    have hc':env.cells.lookup n=some c:=hc
    simp only [hk,if_true,cellOf,hc',pure_bind,fk,Option.getD_some]
    exact ih' _
   ·have hk':(k == NameKind.free)=false:=by simpa using hk
    simp only [hk',Bool.false_eq_true,if_false,pure_bind,fk]
    exact ih' _
 unfold closureFor
 have e:=key scope.names [] hf
 show ((forIn scope.names ([]:List (Str × Addr)) fun x r=>match x with
    | (name,kind)=>if (kind == NameKind.free)=true then (do let a <-cellOf env name;pure (ForInStep.yield ((name,a) :: r))) else pure (ForInStep.yield r):Sem (List (Str × Addr))) >>= fun r=>pure r)=_
 rw [e,pure_bind]
theorem gn {cells:List (Str × Addr)}:∀ (names:List (Str × NameKind)) (cs:List (Str × Addr)),(∀ y ∈ names,y.2=.free->∃ c,cells.lookup y.1=some c) ->
  (∀ x c,cs.lookup x=some c->cells.lookup x=some c)->∀ x c,(fk cells names cs).lookup x=some c->cells.lookup x=some c
 | [],_,_,h,x,c,e=>h x c e
 | (n,k) :: r,cs,hf,h,x,c,e=>by
  refine gn r _ (fun y hy=>hf y (List.mem_cons_of_mem _ hy)) (fun z d hz=>?_) x c e
  by_cases hk:(k == NameKind.free)=true
  ·rw [if_pos hk] at hz
   obtain⟨c',hc⟩:=hf (n,k) List.mem_cons_self (by simpa using hk)
   have hc':cells.lookup n=some c':=hc
   rw [List.lookup_cons] at hz
   cases hzn:z == n with
   | true =>
    rw [hzn] at hz
    have:z=n:=by simpa using hzn
    subst this
    rw [hc'] at hz ⊢
    simpa using hz
   | false=>rw [hzn] at hz;exact h z d hz
  ·rw [if_neg hk] at hz;exact h z d hz
theorem i4 {cells:List (Str × Addr)} {x:Str}:∀ (names:List (Str × NameKind)) (cs:List (Str × Addr)),((x,NameKind.free) ∈ names\/∃ c,cs.lookup x=some c)->∃ c,(fk cells names cs).lookup x=some c
 | [],_,h=>by
  rcases h with h | h
  ·cases h
  ·exact h
 | (n,k) :: r,cs,h=>by
  refine i4 r _ ?_
  by_cases hk:(k == NameKind.free)=true
  ·rw [if_pos hk]
   cases hxn:x == n with
   | true=>exact .inr ⟨_,by rw [List.lookup_cons,hxn]⟩
   | false =>
    rcases h with h | ⟨c,h⟩
    ·rcases List.mem_cons.mp h with h | h
     ·have:x=n:=(Prod.mk.inj h).1
      subst this
      simp at hxn
     ·exact .inl h
    ·exact .inr ⟨c,by rw [List.lookup_cons,hxn];exact h⟩
  ·rw [if_neg hk]
   rcases h with h | h
   ·rcases List.mem_cons.mp h with h | h
    ·have:NameKind.free=k:=(Prod.mk.inj h).2
     subst this
     simp at hk
    ·exact .inl h
   ·exact .inr h
theorem d9 {env:Env} {x:Str} {k:NameKind} (hk:k=.cell\/k=.free):∀ {names:List (Str × NameKind)},(∀ y ∈ names,y.2 ≠ .cell) ->
  (names.map fun (n,k)=>if (k == NameKind.free && env.scope.kind == .function && env.kindOf n == some .cell) then (n,NameKind.cell) else (n,k)).lookup x=some k->(x,NameKind.free) ∈ names
 | [],_,h=>by simp at h
 | (n,q) :: r,hc,h=>by
  have ih:=d9 (env:=env) (x:=x) hk (names:=r) (fun y hy=>hc y (List.mem_cons_of_mem _ hy))
  have h':List.lookup x ((if (q == NameKind.free && env.scope.kind == .function && env.kindOf n == some .cell)=true then (n,NameKind.cell) else (n,q)) :: _)=some k:=h
  by_cases hq:(q == NameKind.free && env.scope.kind == .function && env.kindOf n == some .cell)=true
  ·rw [if_pos hq,List.lookup_cons] at h'
   have eq:q=.free:=by
    rw [Bool.and_eq_true,Bool.and_eq_true] at hq
    simpa using hq.1.1
   cases hxn:x == n with
   | true =>
    have:x=n:=by simpa using hxn
    subst this;subst eq
    exact List.mem_cons_self
   | false=>rw [hxn] at h';exact List.mem_cons_of_mem _ (ih h')
  ·rw [if_neg hq,List.lookup_cons] at h'
   cases hxn:x == n with
   | true =>
    rw [hxn] at h'
    have:x=n:=by simpa using hxn
    subst this
    have e:q=k:=Option.some.inj h'
    subst e
    rcases hk with hk | hk
    ·exact absurd hk (hc (x,q) List.mem_cons_self)
    ·subst hk;exact List.mem_cons_self
   | false=>rw [hxn] at h';exact List.mem_cons_of_mem _ (ih h')
theorem gr {env:Env} {x:Str}:∀ {names:List (Str × NameKind)},names.lookup x=some .free ->
  (names.map fun (n,k)=>if (k == NameKind.free && env.scope.kind == .function && env.kindOf n == some .cell) then (n,NameKind.cell) else (n,k)).lookup x=some .cell \/
  (names.map fun (n,k)=>if (k == NameKind.free && env.scope.kind == .function && env.kindOf n == some .cell) then (n,NameKind.cell) else (n,k)).lookup x=some .free
 | [],h=>by simp at h
 | (n,q) :: r,h=>by
  have ih:=gr (env:=env) (x:=x) (names:=r)
  show List.lookup x ((if (q == NameKind.free && env.scope.kind == .function && env.kindOf n == some .cell)=true then (n,NameKind.cell) else (n,q)) :: _)=some .cell \/
   List.lookup x ((if (q == NameKind.free && env.scope.kind == .function && env.kindOf n == some .cell)=true then (n,NameKind.cell) else (n,q)) :: _)=some .free
  rw [List.lookup_cons] at h
  by_cases hq:(q == NameKind.free && env.scope.kind == .function && env.kindOf n == some .cell)=true
  ·rw [if_pos hq,List.lookup_cons]
   cases hxn:x == n with
   | true=>exact .inl rfl
   | false=>rw [hxn] at h;exact ih h
  ·rw [if_neg hq,List.lookup_cons]
   cases hxn:x == n with
   | true=>rw [hxn] at h;exact .inr h
   | false=>rw [hxn] at h;exact ih h
def cT (X:Cx) (scope:Scope) (C:Addr) (N':List Str) (fp:List Addr) (s₁ : Shared) (H₁ : Hp):Cx where
 prog:=X.prog
 w:=X.w
 K:=X.K
 mg:=X.mg
 base:=X.base
 A:=X.A
 N:=N'
 bO:=s₁
 jS:=H₁
 env:=compEnvC scope (fk X.env.cells scope.names []) C X.env
 outer:=X.stack
 stack:=X.stack
 ex:=fp
 fn:=fun _=>false
 calm:=X.calm
 pn:=[]
 xe:=fun _ _=>False
def dh (X:Cx) (scope:Scope):List Str->List Nat->Prop
 | [],[]=>True
 | x :: fr,j :: js=>(X.N[j]? = some x/\(X.env.kindOf x=some .cell\/X.env.kindOf x=some .free)/\scope.names.lookup x=some .free)/\dh X scope fr js
 | _,_=>False
theorem dh.len {X:Cx} {scope:Scope}:∀ {fr:List Str} {js:List Nat},dh X scope fr js->fr.length=js.length
 | [],[],_=>rfl
 | _ :: _,_ :: _,h=>by simp [dh.len h.2]
 | [],_ :: _,h=>h.elim
 | _ :: _,[],h=>h.elim
theorem dh.mem {X:Cx} {scope:Scope} {x:Str}:∀ {fr:List Str} {js:List Nat},dh X scope fr js->x ∈ fr->X.env.kindOf x=some .cell\/X.env.kindOf x=some .free
 | [],[],_,h=>by cases h
 | a :: fr,b :: js,h,hm=>by
  rcases List.mem_cons.mp hm with rfl | hm
  ·exact h.1.2.1
  ·exact dh.mem h.2 hm
 | [],_ :: _,h,_=>h.elim
 | _ :: _,[],h,_=>h.elim
theorem dh.get {X:Cx} {scope:Scope}:∀ {fr:List Str} {js:List Nat} {i:Nat} {x:Str} {j:Nat},dh X scope fr js->fr[i]? = some x->js[i]? = some j ->
  X.N[j]? = some x/\(X.env.kindOf x=some .cell\/X.env.kindOf x=some .free)/\scope.names.lookup x=some .free
 | [],[],_,_,_,_,h,_=>by simp at h
 | a :: fr,b :: js,0,x,j,h,h1,h2=>by
  simp at h1 h2
  subst h1;subst h2
  exact h.1
 | a :: fr,b :: js,i+1,x,j,h,h1,h2=>dh.get h.2 (by simpa using h1) (by simpa using h2)
 | [],_ :: _,_,_,_,h,_,_=>h.elim
 | _ :: _,[],_,_,_,h,_,_=>h.elim
def fT (n:Nat) (js:List Nat) (σ : St):St:=List.replicate n none++js.map fun j=>σ.getD j none
theorem rZ {X:Cx} {pins:List (Addr × Obj)} {σ : St} {H:Hp} {s:Shared} {scope:Scope} {fp:List Addr} {C:Addr} {N':List Str} (I:Inv X pins σ H s) (hk:scope.kind=.function) (hcell:∀ y ∈ scope.names,y.2 ≠ .cell)
  (hf:∀ y ∈ scope.names,y.2=.free->∃ c,X.env.cells.lookup y.1=some c) (hC:s.heap.objs.size<=C) (hfp:∀ b ∈ fp,df X pins H b) (hlt:∀ b ∈ fp,b < s.heap.objs.size):(cT X scope C N' fp s H).Ok:=by
 have ag:∀ x c,(fk X.env.cells scope.names []).lookup x=some c->X.env.cells.lookup x=some c:=gn scope.names [] hf fun x c e=>by simp at e
 refine⟨I.ok.mod,hk,I.ok.glob,I.ok.blt,hC,fun x y c h1 h2=>I.ok.inj x y c (ag x c h1) (ag y c h2),fun x hx=>?_,(fun x c h=>(by cases h)),I.ok.hd,I.ok.frames,.inl rfl,fun b hb=>?_,I.bs,?_,fun b o e hb=>?_,fun b hb=>?_,I.stack,I.lr⟩
 ·refine i4 scope.names [] (.inl ?_)
  rcases hx with hx | hx
  ·exact d9 (.inl rfl) hcell hx
  ·exact d9 (.inr rfl) hcell hx
 ·obtain⟨h1,h2,h3,h4,h5,h6⟩:=hfp b hb
  exact⟨Nat.ne_of_lt (Nat.lt_of_lt_of_le (hlt b hb) hC),fun x c e=>h5 x c (ag x c e)⟩
 ·exact Nat.le_trans I.ok.jc I.sz
 ·obtain⟨h1,h2,h3,h4,h5,h6⟩:=hfp b hb
  rcases h4 with h4 | h4
  ·exact I.ok.jT b o e h4
  ·exact absurd (Nat.lt_of_lt_of_le (Heap.lt_size e) (Nat.le_trans I.ok.jc h4)) (Nat.lt_irrefl _)
 ·obtain⟨h1,h2,h3,h4,h5,h6⟩:=hfp b hb
  intro z
  rcases List.mem_cons.mp (I.ir b z) with z | z
  ·exact h2 z
  ·exact h3 z
def jo (J:It) (n:Nat) (js:List Nat) (g:TG) (ct:TT) (te:TE) (acc:Addr) (σ : St) (H1:Hp) (Q:VK):Prop :=
 ∃ W:Nat->Nat->List V->St->Hp->Prop,(∃ m,W 0 m [] (fT n js σ) (upd H1 acc (.lst [])))/\∀ i m ys τ H2,W i m ys τ H2->H2 acc=some (.lst ys)/\ys.length < sizeLine /\
  ((J.stop i H2/\Q (.ref acc) H2)\/(J.go i H2/\∃ N:List V->St->Hp->Prop,(∀ ys' τ' H',N ys' τ' H'->∃ m',m' < m/\W (i+1) m' ys' τ' H')/\∀ x H3,J.pP i H2 x H3->g x τ H3 fun τ1 H4=>ct τ1 H4 fun b H5 =>
   if b=true then te τ1 H5 fun y H6=>H6 acc=some (.lst ys)/\N (ys ++ [y]) τ1 (upd H6 acc (.lst (ys ++ [y]))) else N ys τ1 H5))
def tO (n:Nat) (js:List Nat) (wi:TI) (g:TG) (ct:TT) (te:TE):TE:=fun σ H Q=>wi σ H fun J H1=>∀ acc,H1 acc=none->jo J n js g ct te acc σ H1 Q
def pW (X:Cx) (ifs:List Expr) (t:TT):Prop :=
 ∀ (pins:List (Addr × Obj)) (s:Shared) (σ : St) (H:Hp) (Q:Bool->Hp->Prop),Inv X pins σ H s->t σ H Q ->
  wpAny (model X.prog X.w) X.A (forIn ifs true fun c r=>if r=true then do let ok <-isTrue c X.env (eval c X.env);pure (ForInStep.yield ok) else pure (ForInStep.yield r)) (TP X pins σ Q) X.xe s
def r6:TT:=fun _ H Q=>Q true H
theorem bB {X:Cx}:pW X [] r6:=fun _ _ σ H Q I h=>wpAny_pure ⟨H,I,h⟩
section
variable {X:Cx} {pos:Pos}
theorem fV {prog:Program} {w:World} {A:Around} {R:Result->Shared->Prop} {s:Shared} {elt target iter:Expr} {ifs:List Expr} {scope:Scope} {pos:Pos} {it acc:Value} {env:Env} (I:Nat->Shared->Prop)
  (turn:∀ n s,I n s->wpAny (model prog w) A (pyNext it) (fun r s₁=>match r with
   | none=>R (.ok .next) s₁
   | some v=>wpAny (model prog w) A (letOwnedTupleGo target it v) (fun _ s₁'=>wpAny (model prog w) A (assign target env v) (fun _ s₂ =>
     wpAny (model prog w) A (forIn ifs true fun c r=>if r=true then do let ok <-isTrue c env (eval c env);pure (ForInStep.yield ok) else pure (ForInStep.yield r)) (fun ok s₃ =>
      if ok=true then wpAny (model prog w) A (eval elt env) (fun x s₄ =>
       wpAny (model prog w) A (call (.builtin "list.append") [acc,x]) (fun _ s₅=>∃ m,m < n/\I m s₅) (fun _ _=>False) s₄) (fun _ _=>False) s₃
      else ∃ m,m < n/\I m s₃) (fun _ _=>False) s₂) (fun _ _=>False) s₁') (fun _ _=>False) s₁) (fun _ _=>False) s)
  (n:Nat) (h:I n s) :
  codeAny (model prog w) A (.compLoop (.ListComp elt [⟨target,iter,ifs,0⟩] scope pos) 0 it acc env) R s:=by
 refine codeAny_loop rfl I (fun n s hI=>?_) n h
 show wpAny _ A ((compTurn (.ListComp elt [⟨target,iter,ifs,0⟩] scope pos) 0 it acc env).onRaise (fun x=>do noteFrame x env;theTreesLotGoes x)) _ _ s
 refine wpAny_noted ?_
 rw [compTurn_list]
 refine wpAny_bind (wpAny_standAt (wpAny_bind (wpAny_mono (turn n s hI) (fun r s₁ h₁=>?_) fun _ _ h'=>h'.elim)))
 cases r with
 | none=>exact wpAny_pure h₁
 | some v =>
  refine wpAny_bind (wpAny_mono h₁ (fun _ s₁' h₁'=>?_) fun _ _ h'=>h'.elim)
  refine wpAny_bind (wpAny_mono h₁' (fun _ s₂ h₂=>wpAny_bind (wpAny_mono h₂ (fun ok s₃ h₃=>?_) fun _ _ h'=>h'.elim)) fun _ _ h'=>h'.elim)
  cases ok with
  | false=>exact wpAny_pure ⟨rfl,h₃⟩
  | true =>
   exact wpAny_bind (wpAny_bind (wpAny_mono h₃ (fun x s₄ h₄=>wpAny_bind (wpAny_mono h₄ (fun _ s₅ h₅=>wpAny_pure (wpAny_pure ⟨rfl,h₅⟩)) fun _ _ h'=>h'.elim)) fun _ _ h'=>h'.elim))
theorem lP {pins:List (Addr × Obj)} {σ : St} {H:Hp} {s:Shared} {E:Value->Shared->Prop} {tg elt iter:Expr} {ifs:List Expr} {scope:Scope} {g:TG} {ct:TT} {te:TE} {ts fr:List Str} {js:List Nat}
    {it:Addr} {fp:List Addr} {tn:Nat->Heap->Prop} {J:It} {Q:VK} {RR:Value->Addr->Result->Shared->Prop}
    (hc:X.calm=true) (hkind:scope.kind=.function) (hcell:∀ y ∈ scope.names,y.2 ≠ .cell) (hfree:∀ y ∈ scope.names,y.2=.free->X.env.kindOf y.1=some .cell\/X.env.kindOf y.1=some .free)
    (hfr:dh X scope fr js) (htg:∀ C fp s₁ H₁,PG (cT X scope C (ts++fr) fp s₁ H₁) tg g) (hct:∀ C fp s₁ H₁,pW (cT X scope C (ts++fr) fp s₁ H₁) ifs ct) (hte:∀ C fp s₁ H₁,PE (cT X scope C (ts++fr) fp s₁ H₁) elt te)
    (I:Inv X pins σ H s) (T:Turn X.prog X.w X.K tg J fp it tn) (st:tn 0 s.heap) (hfp:∀ b ∈ fp,df X pins H b)
    (h:∀ acc,H acc=none->jo J ts.length js g ct te acc σ H Q)
    (hRR:∀ acc C H' s' m,Inv X pins σ H' s'->s'.heap.Ns C m->H' C=none->s.heap.objs.size<=C->Q (.ref acc) H'->RR (.ref acc) C (.ok .next) s') :
    wpAny (model X.prog X.w) X.A (newList []) (fun acc s₃=>wpAny (model X.prog X.w) X.A (newFunctionEnv scope X.env.globals (fk X.env.cells scope.names []) [] X.env.qual none .none (some X.env)) (fun cenv s₄ =>
      codeAny (model X.prog X.w) X.A (.compStart (.ListComp elt [⟨tg,iter,ifs,0⟩] scope pos) 0 (.ref it) acc { cenv with scope:=relabel scope X.env }) (RR acc cenv.locals) s₄) E s₃) E s:=by
  have hf:∀ y ∈ scope.names,y.2=.free->∃ c,X.env.cells.lookup y.1=some c:=fun y hy e=>I.ok.has y.1 (hfree y hy e)
  have ag:∀ x c,(fk X.env.cells scope.names []).lookup x=some c->X.env.cells.lookup x=some c:=gn scope.names [] hf fun x c e=>by simp at e
  have hlt:∀ b ∈ fp,b < s.heap.objs.size:=fun b hb=>by
    obtain⟨o,e,_⟩:=T.obj _ _ st b hb
    exact Heap.lt_size e
  refine wpAny_newObj_type (wpAny_newFunctionEnv hcell (by intro y hy;simp at hy) (fun h₁ hns₁ hsb₁=>?_) hkind)
  dsimp only at hns₁ hsb₁ ⊢
  generalize hH2:s.heap.push { cls:=.type "list",dict:=none,data:=.seq ([]:List Value).toArray }=G2 at hns₁ hsb₁ ⊢
  have hC:G2.objs.size=s.heap.objs.size+1:=by rw [<-hH2,Heap.size_push]
  have hDC:s.heap.objs.size ≠ G2.objs.size:=by rw [hC];exact Nat.ne_of_lt (Nat.lt_succ_self _)
  have hCle:s.heap.objs.size<=G2.objs.size:=by rw [hC];exact Nat.le_succ _
  have below:∀ b,b < s.heap.objs.size->b ≠ G2.objs.size/\b ≠ s.heap.objs.size:=fun b hb=>⟨by rw [hC];exact Nat.ne_of_lt (Nat.lt_succ_of_lt hb),Nat.ne_of_lt hb⟩
  have old:∀ b o,s.heap.get? b=some o->h₁.get? b=some o:=fun b o e=>hsb₁.extBut b o (below b (Heap.lt_size e)).1 (Heap.get?_push_of_some _ (hH2 ▸ Heap.get?_push_of_some _ e))
  have hacc:h₁.get? s.heap.objs.size=some { cls:=.type "list",data:=.seq ([]:List Value).toArray }:=hsb₁.extBut _ _ hDC (Heap.get?_push_of_some _ (hH2 ▸ Heap.get?_push_size _ rfl))
  have nD:H s.heap.objs.size=none:=I.ai.fresh (Nat.le_refl _)
  have nC:H G2.objs.size=none:=I.ai.fresh hCle
  obtain⟨W,⟨m0,w0⟩,turn⟩:=h s.heap.objs.size nD
  generalize hXb:cT X scope G2.objs.size (ts++fr) fp s H=Xb
  have Ib:∀ tk,Inv Xb [] (fT ts.length js σ) (upd H s.heap.objs.size (.lst [])) { s with heap:=h₁,toks:=tk }:=by
    intro tk
    subst hXb
    refine⟨rZ I hkind hcell hf hCle hfp hlt,rfl,I.bare,Un.laid old (Nat.le_refl _) nD,⟨_,hns₁,fun i x v e1 e2 e3=>?_⟩,fun x c e=>?_,?_,fun x c e=>?_,fun p hp=>absurd (show p ∈ ([]:List (Addr × Obj)) from hp) (by simp),I.ai.laid old (Nat.le_refl _) ⟨by show 0<=sizeLine;decide,[],_,.nil,hacc⟩,?_⟩
    · have hi:ts.length<=i:=by
        refine Nat.le_of_not_lt fun hi=>?_
        unfold fT at e2
        rw [List.getElem?_append_left (by simpa using hi),List.getElem?_replicate] at e2
        split at e2 <;> cases e2
      have e1':fr[i - ts.length]? = some x:=by
        have e1'':(ts++fr)[i]? = some x:=e1
        rw [List.getElem?_append_right hi] at e1''
        exact e1''
      unfold fT at e2
      rw [List.getElem?_append_right (by simpa using hi),List.length_replicate,List.getElem?_map] at e2
      cases ej:js[i - ts.length]? with
      | none=>rw [ej] at e2;cases e2
      | some j =>
        rw [ej] at e2
        have e2':σ.getD j none=some v:=by simpa using e2
        obtain⟨q1,q2,q3⟩:=hfr.get e1' ej
        have e2'':σ[j]? = some (some v):=by
          rw [List.getD_eq_getElem?_getD] at e2'
          cases ez:σ[j]? with
          | none=>rw [ez] at e2';cases e2'
          | some z=>rw [ez] at e2';rw [show z=some v from e2']
        obtain⟨m,hn,hl⟩:=I.loc
        obtain⟨u,r,l⟩:=hl j x v q1 e2'' (by
          rcases q2 with q2 | q2
          · exact .inr (.inl q2)
          · exact .inr (.inr q2))
        refine⟨u,r,.inr ⟨gr q3,?_⟩⟩
        rcases l with ⟨l,_⟩ | ⟨_,c,lc,lv⟩
        · rcases q2 with q2 | q2 <;> (rw [l] at q2;cases q2)
        · obtain⟨c',hc'⟩:=i4 (cells:=X.env.cells) scope.names [] (.inl (PySem.mem_of_lookup q3))
          have:=ag x c' hc'
          rw [lc] at this
          cases this
          obtain⟨o,ho,hd⟩:=lv
          exact⟨c,hc',o,old _ _ ho,hd⟩
    · obtain⟨v,o,ho,hd⟩:=I.cell x c (ag x c e)
      exact⟨v,o,old _ _ ho,hd⟩
    · show upd H s.heap.objs.size (.lst []) G2.objs.size=none
      rw [ao hDC.symm];exact nC
    · obtain⟨v,o,ho,hd⟩:=I.cell x c (ag x c e)
      rw [ao (Nat.ne_of_lt (Heap.lt_size ho))]
      exact I.cP x c (ag x c e)
    · show (fT ts.length js σ).length=(ts++fr).length
      unfold fT
      rw [List.length_append,List.length_replicate,List.length_map,List.length_append,hfr.len]
  have fpB:∀ {H':Hp},(∀ b ∈ fp,H' b=none)->∀ b ∈ fp,df Xb [] H' b:=fun {H'} hn b hb=>by
    subst hXb
    obtain⟨h1,h2,h3,h4,h5,h6⟩:=hfp b hb
    refine⟨hn b hb,(below b (hlt b hb)).1,fun z=>?_,.inl hb,fun x c e=>h5 x c (ag x c e),fun p hp=>absurd (show p ∈ ([]:List (Addr × Obj)) from hp) (by simp)⟩
    rcases List.mem_cons.mp (I.ir b z) with z | z
    · exact h2 z
    · exact h3 z
  have fin:∀ {τ : St} {H':Hp} {s':Shared},Inv Xb [] τ H' s'->Q (.ref s.heap.objs.size) H'->RR (.ref s.heap.objs.size) G2.objs.size (.ok .next) s':=fun {τ H' s'} Jb q=>by
    subst hXb
    obtain⟨m,hn,_⟩:=Jb.loc
    refine hRR _ _ H' s' m (I.sI (ch:=fp) Jb.os Jb.base Jb.ai Jb.bare fun b hb=>?_) hn Jb.free hCle q
    obtain⟨h1,h2,h3,h4,h5,h6⟩:=hfp b hb
    exact⟨h4,h2,h5,h6⟩
  have loop:∀ tk,codeAny (model X.prog X.w) X.A (.compLoop (.ListComp elt [⟨tg,iter,ifs,0⟩] scope pos) 0 (.ref it) (.ref s.heap.objs.size) (compEnvC scope (fk X.env.cells scope.names []) G2.objs.size X.env))
        (RR (.ref s.heap.objs.size) G2.objs.size) { s with heap:=h₁,toks:=tk }:=by
    intro tk
    refine fV (fun n s'=>∃ i ys τ H',Inv Xb [] τ H' s'/\tn i s'.heap/\(∀ b ∈ fp,H' b=none)/\W i n ys τ H') ?_ m0 ⟨0,[],_,_,Ib tk,T.keep _ _ _ st fun b hb o e=>old b o e,fun b hb=>?_,w0⟩
    · rintro n s3 ⟨i,ys,τ,H3,I3,st3,fr3,w3⟩
      have htg':=htg G2.objs.size fp s H
      have hct':=hct G2.objs.size fp s H
      have hte':=hte G2.objs.size fp s H
      rw [hXb] at htg' hct' hte'
      have eP:Xb.prog=X.prog:=by subst hXb;rfl
      have ew:Xb.w=X.w:=by subst hXb;rfl
      have eK:Xb.K=X.K:=by subst hXb;rfl
      have eA:Xb.A=X.A:=by subst hXb;rfl
      have ec:Xb.calm=true:=by subst hXb;exact hc
      have ee:Xb.env=compEnvC scope (fk X.env.cells scope.names []) G2.objs.size X.env:=by subst hXb;rfl
      have ex:Xb.xe=fun _ _=>False:=by subst hXb;rfl
      rw [<-eP,<-ew,<-eA,<-ee]
      obtain⟨ha,hl,turn'⟩:=turn i n ys τ H3 w3
      rcases turn' with ⟨stop,q⟩ | ⟨go,N,hN,step⟩
      · have hd:=T.done Xb eP ew eK ec i [] s3 τ H3 (fun _ _=>False) I3 (fpB fr3) st3 stop
        rw [<-eP,<-ew] at hd
        refine wpAny_mono hd (fun r s4 hr4=>?_) fun _ _ z=>z
        obtain⟨hr,I4⟩:=hr4
        subst hr
        exact fin I4 q
      · have hd:=T.item Xb eP ew eK ec i [] s3 τ H3 (fun _ _=>False) I3 (fpB fr3) st3 go
        rw [<-eP,<-ew] at hd
        refine wpAny_mono hd (fun r s4 hr4=>?_) fun _ _ z=>z
        obtain⟨u,hr,h4⟩:=hr4
        subst hr
        refine wpAny_mono h4 (fun _ s5 ⟨x,H5,I5,r5,y5,st5,fr5⟩=>?_) fun _ _ z=>z
        have I5':=I5.pinned (fpB fr5) (T.obj _ _ st5)
        have keepT:∀ {σ7:St} {H7:Hp} {s7:Shared},Inv Xb ([] ++ gc fp s5.heap) σ7 H7 s7->tn (i+1) s7.heap/\∀ b ∈ fp,H7 b=none:=fun {σ7 H7 s7} I7=>by
          refine⟨T.keep _ _ _ st5 fun b hb o e=>(I7.pin (b,o) (List.mem_append_right _ (List.mem_append_right _ (dG hb e)))).1,fun b hb=>?_⟩
          obtain⟨o,e,d⟩:=T.obj _ _ st5 b hb
          exact (I7.pin (b,o) (List.mem_append_right _ (List.mem_append_right _ (dG hb e)))).2.1
        refine wpAny_mono (htg' _ s5 τ H5 x u _ I5' r5 (step x H5 y5)) (fun _ s6 ⟨τ6,H6,I6,q6⟩=>?_) (fun _ _ z=>by rw [ex] at z;exact z)
        refine wpAny_mono (hct' _ s6 τ6 H6 _ I6 q6) (fun ok s7 ⟨H7,I7,q7⟩=>?_) (fun _ _ z=>by rw [ex] at z;exact z)
        cases ok with
        | false =>
          have q7':N ys τ6 H7:=by rw [if_neg (by simp)] at q7;exact q7
          rw [if_neg (by simp)]
          obtain⟨m',hm,w7⟩:=hN _ _ _ q7'
          exact⟨m',hm,i+1,ys,τ6,H7,I7.dZ,(keepT I7).1,(keepT I7).2,w7⟩
        | true =>
          rw [if_pos rfl] at q7 ⊢
          refine wpAny_mono (hte' _ s7 τ6 H7 _ I7 q7) (fun v s8 ⟨y,H8,I8,r8,ha8,n8⟩=>?_) (fun _ _ z=>by rw [ex] at z;exact z)
          refine wpAny_mono (gm (X:=Xb) _ s8 τ6 H8 (.ref s.heap.objs.size) [y] (.ref s.heap.objs.size) [v] (fun _ H9=>H9=upd H8 s.heap.objs.size (.lst (ys ++ [y]))) I8 rfl (.cons r8 .nil) ⟨_,ys,y,rfl,rfl,ha8,hl,rfl⟩) (fun _ s9 ⟨_,H9,I9,_,e9⟩=>?_) (fun _ _ z=>by rw [ex] at z;exact z)
          subst e9
          obtain⟨m',hm,w8⟩:=hN _ _ _ n8
          exact⟨m',hm,i+1,_,τ6,_,I9.dZ,(keepT I9).1,(keepT I9).2,w8⟩
    · rw [ao (Nat.ne_of_lt (hlt b hb))]
      exact (hfp b hb).1
  exact codeAny_compStart_list (loop _) (T.self _ 0 _ _ _ (T.keep _ _ _ st fun b hb o e=>old b o e) (loop _))
theorem Inv.nG {pins:List (Addr × Obj)} {σ : St} {H H':Hp} {s s':Shared} {C:Addr} {h':Heap} (I:Inv X pins σ H s) {σ':St} (I':Inv X pins σ' H' s') (hC:H' C=none) (hle:s.heap.objs.size<=C) (hsb:Heap.SameBut C s'.heap h') :
  Inv X pins σ' H' { s' with heap:=h' }:=by
 obtain⟨h1,h2,h3,h4,h5,h6⟩:=I.eS (H':=H') hle hC
 exact I'.turned (t':=s'.toks) (fun b o hb e=>hsb.extBut b o hb e) hC h2 h4 h5 h6
theorem bM {tg elt iter:Expr} {ifs:List Expr} {scope:Scope} {wi:TI} {g:TG} {ct:TT} {te:TE} (ts fr:List Str) (js:List Nat)
  (hc:X.calm=true) (hi:PI X tg iter wi) (hkind:scope.kind=.function) (hcell:∀ y ∈ scope.names,y.2 ≠ .cell) (hnames:∀ y ∈ scope.names,y.2=.local->scope.names.lookup y.1=some .local)
  (hfree0:∀ y ∈ scope.names,y.2=.free->y.1 ∈ fr) (hfr:dh X scope fr js)
  (htg:∀ C fp s₁ H₁,PG (cT X scope C (ts++fr) fp s₁ H₁) tg g) (hct:∀ C fp s₁ H₁,pW (cT X scope C (ts++fr) fp s₁ H₁) ifs ct) (hte:∀ C fp s₁ H₁,PE (cT X scope C (ts++fr) fp s₁ H₁) elt te)
  (hs:∀ x,foldedSetIterable iter X.env x=pure x:=by intro _;rfl):PE X (.ListComp elt [⟨tg,iter,ifs,0⟩] scope pos) (tO ts.length js wi g ct te):=by
 have hfree:∀ y ∈ scope.names,y.2=.free->X.env.kindOf y.1=some .cell\/X.env.kindOf y.1=some .free:=fun y hy e=>hfr.mem (hfree0 y hy e)
 intro pins s σ H Q I h
 rw [eval_ListComp]
 refine wpAny_comprehension_free (use:=none) rfl hs (iI fun y hy e=>I.ok.has y.1 (hfree y hy e)) hkind hnames (aB (hi pins s σ H _ I h) fun xv s1 h1=>aB h1 fun itv s2 h2=>?_)
 obtain⟨it,fp,tn,J,H2,e,I2,T,st2,f2,hW⟩:=h2
 subst e
 refine lP (RR:=fun acc C=>compPost (model X.prog X.w) X.A X.xe none (EP X pins σ Q) acc C) hc hkind hcell hfree hfr htg hct hte I2 T st2 f2 hW ?_
 intro acc C H' s' m I' hn hC hle q
 exact⟨m,hn,fun h' hsb=>⟨.ref acc,H',I2.nG I' hC hle hsb,rfl,q⟩⟩
theorem fC {tg elt iter:Expr} {ifs:List Expr} {scope:Scope} {wi:TI} {g:TG} {ct:TT} {te:TE} {i:Nat} {y:Str} {py spos:Pos} (ts fr:List Str) (js:List Nat)
  (hsw:swapsWith (.ListComp elt [⟨tg,iter,ifs,0⟩] scope pos) (some (.Name y py)) spos.line X.env=pure true) (hN:X.N.Nodup) (hi0:X.N[i]? = some y) (hx:X.env.scope.names.lookup y=some .local)
  (hc:X.calm=true) (hi:PI X tg iter wi) (hkind:scope.kind=.function) (hcell:∀ y ∈ scope.names,y.2 ≠ .cell) (hnames:∀ y ∈ scope.names,y.2=.local->scope.names.lookup y.1=some .local)
  (hfree0:∀ y ∈ scope.names,y.2=.free->y.1 ∈ fr) (hfr:dh X scope fr js)
  (htg:∀ C fp s₁ H₁,PG (cT X scope C (ts++fr) fp s₁ H₁) tg g) (hct:∀ C fp s₁ H₁,pW (cT X scope C (ts++fr) fp s₁ H₁) ifs ct) (hte:∀ C fp s₁ H₁,PE (cT X scope C (ts++fr) fp s₁ H₁) elt te)
  (hs:∀ x,foldedSetIterable iter X.env x=pure x:=by intro _;rfl):PS X (.Assign [.Name y py] (.ListComp elt [⟨tg,iter,ifs,0⟩] scope pos) spos) (mw (tO ts.length js wi g ct te) (gN i)):=by
 have hfree:∀ y ∈ scope.names,y.2=.free->X.env.kindOf y.1=some .cell\/X.env.kindOf y.1=some .free:=fun y hy e=>hfr.mem (hfree0 y hy e)
 intro pins s σ H D I h
 rw [exec_Assign_Name_used _ _ _ _ hsw]
 refine wpAny_bind (wpAny_standAt (wpAny_bind ?_))
 show wpAny _ X.A (do let _ <-comprehension (.ListComp elt [⟨tg,iter,ifs,0⟩] scope pos) scope X.env _ (newList []) false (eval iter X.env) (some (assign (.Name y py) X.env))) _ _ s
 refine wpAny_bind (wpAny_mono (wpAny_comprehension_free (use:=some (assign (.Name y py) X.env)) (Q:=fun _ s'=>SP X pins D .next s') rfl hs (iI fun y hy e=>I.ok.has y.1 (hfree y hy e)) hkind hnames
  (aB (hi pins s σ H _ I h) fun xv s1 h1=>aB h1 fun itv s2 h2=>?_)) (fun _ s' hq=>wpAny_pure (wpAny_pure hq)) fun _ _ e=>e)
 obtain⟨it,fp,tn,J,H2,e,I2,T,st2,f2,hW⟩:=h2
 subst e
 refine lP (Q:=fun v H'=>D.nx (σ.set i (some v)) H') (RR:=fun acc C=>compPost (model X.prog X.w) X.A X.xe (some (assign (.Name y py) X.env)) (fun _ s'=>SP X pins D .next s') acc C) hc hkind hcell hfree hfr htg hct hte I2 T st2 f2 hW ?_
 intro acc C H' s' m I' hn hC hle q
 show wpAny _ X.A (assign (.Name y py) X.env (.ref acc)) _ _ _
 refine wpAny_assign_Name (jd I' hN hi0 (.inl hx) (v:=.ref acc) rfl (fun s'' I'' hch=>?_) (.inr hx))
 obtain⟨h1,h2,h3,h4,h5,h6⟩:=I2.eS (H':=H') hle hC
 obtain⟨a,hsb,ha⟩:=hch
 refine⟨m,hn.sameBut hsb ?_,fun h' hsb'=>⟨_,H',I2.nG I'' hC hle hsb',q⟩⟩
 rcases ha with ha | ha
 ·rw [ha];exact h2
 ·exact fun z=>h5 y a ha z.symm
end
theorem i5 {K:PySem.W.Frag} {a acc:Addr} {xs:List V} {n:Nat} {js:List Nat} {g:TG} {ct:TT} {te:TE} {σ : St} {H1:Hp} {Q:VK} (Pv:Nat->List V->St->Hp->Prop) (h0:Pv 0 [] (fT n js σ) (upd H1 acc (.lst [])))
  (hl:∀ i ys τ H,i<=xs.length->Pv i ys τ H->ax K H a xs/\H acc=some (.lst ys)/\ys.length < sizeLine)
  (hs:∀ i x ys τ H,xs[i]? = some x->Pv i ys τ H->g x τ H fun τ1 H4=>ct τ1 H4 fun b H5=>if b=true then te τ1 H5 fun y H6=>H6 acc=some (.lst ys)/\Pv (i+1) (ys ++ [y]) τ1 (upd H6 acc (.lst (ys ++ [y]))) else Pv (i+1) ys τ1 H5)
  (hd:∀ ys τ H,Pv xs.length ys τ H->Q (.ref acc) H) :
  jo (rF K a) n js g ct te acc σ H1 Q:=by
 refine⟨fun i m ys τ H=>m=xs.length - i/\i<=xs.length/\Pv i ys τ H,⟨xs.length,by simp,Nat.zero_le _,h0⟩,?_⟩
 rintro i m ys τ H ⟨rfl,hi,p⟩
 obtain⟨q,q2,q3⟩:=hl i ys τ H hi p
 refine⟨q2,q3,?_⟩
 by_cases hlt:i < xs.length
 ·refine .inr ⟨⟨xs,xs[i],q,by simp [hlt]⟩,Pv (i+1),fun ys' τ' H' p'=>⟨xs.length - (i+1),by omega,rfl,hlt,p'⟩,fun x H' y=>?_⟩
  obtain⟨e,y⟩:=y
  subst e
  exact hs i x ys τ _ (y xs q) p
 ·have e:i=xs.length:=by omega
  subst e
  exact .inl ⟨⟨xs,q,Nat.le_refl _⟩,hd ys τ H p⟩
theorem ef {K:PySem.W.Frag} {a acc:Addr} {xs:List V} {n:Nat} {js:List Nat} {g:TG} {ct:TT} {te:TE} {σ : St} {H1:Hp} {Q:VK} (Pv:Nat->List V->St->Hp->Prop) (h0:Pv 0 [] (fT n js σ) (upd H1 acc (.lst [])))
  (hl:∀ i ys τ H,i<=xs.length->Pv i ys τ H->aJ K H a xs/\H acc=some (.lst ys)/\ys.length < sizeLine)
  (hs:∀ i x ys τ H,xs[i]? = some x->Pv i ys τ H->g x τ H fun τ1 H4=>ct τ1 H4 fun b H5=>if b=true then te τ1 H5 fun y H6=>H6 acc=some (.lst ys)/\Pv (i+1) (ys ++ [y]) τ1 (upd H6 acc (.lst (ys ++ [y]))) else Pv (i+1) ys τ1 H5)
  (hd:∀ ys τ H,Pv xs.length ys τ H->Q (.ref acc) H) :
  jo (rG K a) n js g ct te acc σ H1 Q:=by
 refine⟨fun i m ys τ H=>m=xs.length - i/\i<=xs.length/\Pv i ys τ H,⟨xs.length,by simp,Nat.zero_le _,h0⟩,?_⟩
 rintro i m ys τ H ⟨rfl,hi,p⟩
 obtain⟨q,q2,q3⟩:=hl i ys τ H hi p
 refine⟨q2,q3,?_⟩
 by_cases hlt:i < xs.length
 ·refine .inr ⟨⟨xs,xs[i],q,by simp [hlt]⟩,Pv (i+1),fun ys' τ' H' p'=>⟨xs.length - (i+1),by omega,rfl,hlt,p'⟩,fun x H' y=>?_⟩
  obtain⟨e,y⟩:=y
  subst e
  exact hs i x ys τ _ (y xs q) p
 ·have e:i=xs.length:=by omega
  subst e
  exact .inl ⟨⟨xs,q,Nat.le_refl _⟩,hd ys τ H p⟩
theorem kc {lo:Int} {k:Nat} {acc:Addr} {n:Nat} {js:List Nat} {g:TG} {ct:TT} {te:TE} {σ : St} {H1:Hp} {Q:VK} (Pv:Nat->List V->St->Hp->Prop) (h0:Pv 0 [] (fT n js σ) (upd H1 acc (.lst [])))
  (hl:∀ i ys τ H,i<=k->Pv i ys τ H->H acc=some (.lst ys)/\ys.length < sizeLine)
  (hs:∀ i ys τ H,i < k->Pv i ys τ H->g (.int (lo+i)) τ H fun τ1 H4=>ct τ1 H4 fun b H5=>if b=true then te τ1 H5 fun y H6=>H6 acc=some (.lst ys)/\Pv (i+1) (ys ++ [y]) τ1 (upd H6 acc (.lst (ys ++ [y]))) else Pv (i+1) ys τ1 H5)
  (hd:∀ ys τ H,Pv k ys τ H->Q (.ref acc) H) :
  jo (j3 lo k) n js g ct te acc σ H1 Q:=by
 refine⟨fun i m ys τ H=>m=k - i/\i<=k/\Pv i ys τ H,⟨k,by simp,Nat.zero_le _,h0⟩,?_⟩
 rintro i m ys τ H ⟨rfl,hi,p⟩
 obtain⟨q2,q3⟩:=hl i ys τ H hi p
 refine⟨q2,q3,?_⟩
 by_cases hlt:i < k
 ·refine .inr ⟨hlt,Pv (i+1),fun ys' τ' H' p'=>⟨k - (i+1),by omega,rfl,hlt,p'⟩,fun x H' y=>?_⟩
  obtain⟨e,y⟩:=y
  subst e y
  exact hs i ys τ _ hlt p
 ·have e:i=k:=by omega
  subst e
  exact .inl ⟨Nat.le_refl _,hd ys τ H p⟩
section
variable {X:Cx}
end
def uz (t:TS):TS:=fun D σ H=>∃ M:St->Hp->Prop,t { D with nx:=M } σ H/\∀ σ' H',M σ' H'->D.nx σ' H'
theorem kd {X:Cx} {st:Stmt} {t:TS} (h:PS X st t):PS X st (uz t):=by
 intro pins s σ H D I q
 obtain⟨M,q,hM⟩:=q
 refine aB (h pins s σ H _ I q) fun f s' hs=>?_
 cases f with
 | next =>
  obtain⟨σ',H',I',m⟩:=hs
  exact⟨σ',H',I',hM _ _ m⟩
 | brk=>exact hs
 | cont=>exact hs
 | ret u=>exact hs
theorem cU {m:Int} (h0:0 < m) (h1:m < 1073741824):m.natAbs.log2 < 9000:=by
 have h:m.natAbs.log2 < 30:=(Nat.log2_lt (by omega)).mpr (by omega)
 omega
theorem lQ {X:Cx} {K:PySem.W.Frag} {es:List Expr} {k:Nat} {t:j1} {n:Nat} {pos:Pos} (hK:X.K=K) (h:PG X (.Tuple es k pos) (oE X.K n t)):PG X (.Tuple es k pos) (oE K n t):=by
 subst hK
 exact h
section
variable {prog:Program} {w:World} {A:Around} {E:Value->Shared->Prop} {s:Shared}
theorem iJ {j t:Addr} {n:Nat} {its:Array Value} {x:Value} {Q:Value->Shared->Prop} (hj:s.heap.IsTupleIter j t n) (ht:s.heap.IsTuple t its) (hx:its[n]? = some x)
  (hQ:∀ g,g.IsTupleIter j t (n+1)->Heap.SameBut j s.heap g->Q x { s with heap:=g }):wpAny (model prog w) A (Builtin.SmallTypes.nextOf (.ref j)) Q E s:=by
 obtain⟨ob,eo,ec,ed⟩:=id hj
 obtain⟨ot,et,_,k,ek⟩:=ht
 unfold Builtin.SmallTypes.nextOf
 refine wpAny_bind (wpAny_callSpecial?_slot (name:=Str.ofString "__next__") hj.typeIs F.slot_tuple_iterator_next (wpAny_call_entry F.slot_tuple_iterator_next hj.typeIs F.entry_tuple_iterator_next ?_ (F.args_tuple_iterator_next_1 _)))
 show wpAny _ _ (field (.ref j) 0 >>= _) _ _ s
 refine wpAny_bind (wpAny_field eo ed (x:=.ref t) rfl ?_)
 show wpAny _ _ (if (Value.ref t == Value.none)=true then _ else _) _ _ s
 refine (if_neg (c:=(Value.ref t == Value.none)=true) Bool.false_ne_true) ▸ ?_
 show wpAny _ _ (field (.ref j) 1 >>= _) _ _ s
 refine wpAny_bind (wpAny_field eo ed (x:=.int n 0) rfl (wpAny_bind (wpAny_seqItems et ek ?_)))
 simp only [hx,Int.toNat_natCast]
 refine wpAny_bind (wpAny_setField eo ed (by simp) (wpAny_pure ⟨x,rfl,wpAny_pure (hQ _ ⟨_,Heap.get?_update_self _ eo (Obj.isFreed_of_fields (Obj.data_mapFields ed _)),(Obj.cls_mapFields ..).trans ec,?_⟩ (Heap.SameBut.update ..))⟩))
 rw [Obj.data_mapFields ed];simp [rawInt]
theorem i6 {j t:Addr} {n:Nat} {its:Array Value} {Q:Value->Shared->Prop} (ha:A.handled=none) (hj:s.heap.IsTupleIter j t n) (ht:s.heap.IsTuple t its) (hx:its[n]? = none)
    (hE:∀ g e,Heap.ExtBut j s.heap g->(∃ o,g.get? e=some o/\o.cls=.type "StopIteration")->E (.ref e) { s with heap:=g }):wpAny (model prog w) A (Builtin.SmallTypes.nextOf (.ref j)) Q E s:=by
  obtain⟨ob,eo,ec,ed⟩:=id hj
  obtain⟨ot,et,_,k,ek⟩:=ht
  unfold Builtin.SmallTypes.nextOf
  refine wpAny_bind (wpAny_callSpecial?_slot (name:=Str.ofString "__next__") hj.typeIs F.slot_tuple_iterator_next (wpAny_call_entry F.slot_tuple_iterator_next hj.typeIs F.entry_tuple_iterator_next ?_ (F.args_tuple_iterator_next_1 _)))
  show wpAny _ _ (field (.ref j) 0 >>= _) _ _ s
  refine wpAny_bind (wpAny_field eo ed (x:=.ref t) rfl ?_)
  show wpAny _ _ (if (Value.ref t == Value.none)=true then _ else _) _ _ s
  refine (if_neg (c:=(Value.ref t == Value.none)=true) Bool.false_ne_true) ▸ ?_
  show wpAny _ _ (field (.ref j) 1 >>= _) _ _ s
  refine wpAny_bind (wpAny_field eo ed (x:=.int n 0) rfl (wpAny_bind (wpAny_seqItems et ek ?_)))
  simp only [hx,Int.toNat_natCast]
  refine wpAny_bind (wpAny_rule (wpAny_bind (wpAny_setField eo ed (by simp) ?_)))
  show wpAny _ _ (newExc (.type "StopIteration") [] >>= fun _=>_) _ _ _
  refine wpAny_bind ?_
  simp only [newTuple,newExc]
  refine wpAny_bind (wpAny_newObj_type (wpAny_bind (m:=firstArgMember _ _) (wpAny_of_eq (a:=Value.none) (by first | rfl | (simp only [firstArgMember];rfl)) (wpAny_newObj_type ?_ (by size_fits)))) (by size_fits))
  simp only [raiseNew]
  refine wpAny_bind (wpAny_handled (by
    first | rw [show A.in1.handled=none from ha] | rw [ha]
    exact wpAny_bind (wpAny_pure (wpAny_throw (hE _ _ (((Heap.SameBut.update ..).extBut.push _).push _) ⟨_,Heap.get?_push_size _ rfl,rfl⟩)))))
structure lR (z p q j k a b:Addr):Prop where
 pz:p ≠ z
 qz:q ≠ z
 jz:j ≠ z
 kz:k ≠ z
 pq:p ≠ q
 pj:p ≠ j
 pk:p ≠ k
 qj:q ≠ j
 qk:q ≠ k
 jk:j ≠ k
 az:a ≠ z
 aq:a ≠ q
 aj:a ≠ j
 ak:a ≠ k
 bz:b ≠ z
 bq:b ≠ q
 bj:b ≠ j
 bk:b ≠ k
theorem cL {h g:Heap} {a:Addr} {xs:Array Value} (x:h.IsTuple a xs) (k:∀ o,h.get? a=some o->g.get? a=some o):g.IsTuple a xs:=by
 obtain⟨o,e,r⟩:=x
 exact⟨o,k o e,r⟩
theorem qx {z p q j k a b:Addr} {m n:Nat} {xs ys:Array Value} {x y u v:Value} {Q:Value->Shared->Prop} (D:lR z p q j k a b)
  (gz:IsZip s.heap z p q .none) (gp:IsPair s.heap p (.ref j) (.ref k)) (gq:IsPair s.heap q u v)
  (gj:s.heap.IsTupleIter j a m) (gk:s.heap.IsTupleIter k b n) (ga:s.heap.IsTuple a xs) (gb:s.heap.IsTuple b ys) (hx:xs[m]? = some x) (hy:ys[n]? = some y)
  (hQ:∀ g,IsZip g z p q (rawInt s.heap.objs.size)->IsPair g q x y->g.IsTupleIter j a (m+1)->g.IsTupleIter k b (n+1)->IsPair g s.heap.objs.size x y->g.objs.size=s.heap.objs.size+1 ->
   (∀ c o,c ≠ z->c ≠ q->c ≠ j->c ≠ k->s.heap.get? c=some o->g.get? c=some o)->Q (.ref s.heap.objs.size) { s with heap:=g }) :
  wpAny (model prog w) A (Builtin.«zip.__next__» ⟨[.ref z],[]⟩) (fun fin s'=>∃ v,fin=.done (.ret v)/\Q v s') E s:=by
 show wpAny _ _ (field (.ref z) 2 >>= fun _=>_) _ _ _
 refine wpAny_bind (wpAny_field gz rfl (x:=.bool false) rfl ?_)
 show wpAny _ _ (field (.ref z) 3 >>= fun _=>_) _ _ _
 refine wpAny_bind (wpAny_field gz rfl (x:=.ref p) rfl (wpAny_bind (wpAny_seqItems gp rfl ?_)))
 show wpAny _ _ (Builtin.SmallTypes.ownedTupleIsFree (.ref z) >>= fun _=>_) _ _ _
 refine wpAny_bind ?_
 unfold Builtin.SmallTypes.ownedTupleIsFree
 refine wpAny_bind (wpAny_field gz rfl (x:=.none) rfl (wpAny_pure ?_))
 simp only [if_true]
 refine wpAny_bind (wpAny_rule (wpAny_bind (wpAny_field gz rfl (x:=.ref q) rfl (wpAny_bind (wpAny_setField_rec gz (by simp) fun g1 gz1 t1=>?_)))))
 replace gz1:IsZip g1 z p q .ellipsis:=gz1
 refine wpAny_bind ?_
 simp only [List.forIn_cons,List.forIn_nil,List.zipIdx_cons,List.zipIdx_nil]
 refine wpAny_bind (wpAny_bind (wpAny_onRaise ?_))
 show wpAny _ _ (Builtin.SmallTypes.nextOf (.ref j) >>= fun _=>_) _ _ _
 refine wpAny_bind (iJ (gj.extBut t1.extBut D.jz) (cL ga fun o e=>t1.extBut _ _ D.az e) hx fun g2 gj2 t2=>wpAny_pure ?_)
 have gq2:IsPair g2 q u v:=t2.extBut _ _ D.qj (t1.extBut _ _ D.qz gq)
 refine wpAny_bind (wpAny_seqItems gq2 rfl (wpAny_bind (wpAny_updateSeq_pair gq2 fun g3 gq3 t3=>?_)))
 replace gq3:IsPair g3 q x v:=gq3
 refine wpAny_bind (wpAny_letGo (wpAny_pure (wpAny_bind (wpAny_bind (wpAny_onRaise ?_)))))
 show wpAny _ _ (Builtin.SmallTypes.nextOf (.ref k) >>= fun _=>_) _ _ _
 refine wpAny_bind (iJ (((gk.extBut t1.extBut D.kz).extBut t2.extBut D.jk.symm).extBut t3.extBut D.qk.symm) (cL gb fun o e=>t3.extBut _ _ D.bq (t2.extBut _ _ D.bj (t1.extBut _ _ D.bz e))) hy fun g4 gk4 t4=>wpAny_pure ?_)
 have gq4:IsPair g4 q x v:=t4.extBut _ _ D.qk gq3
 refine wpAny_bind (wpAny_seqItems gq4 rfl (wpAny_bind (wpAny_updateSeq_pair gq4 fun g5 gq5 t5=>?_)))
 replace gq5:IsPair g5 q x y:=gq5
 refine wpAny_bind (wpAny_letGo (wpAny_pure (wpAny_pure (wpAny_bind (wpAny_seqItems gq5 rfl (wpAny_bind (wpAny_newTuple ?_)))))))
 have ez:g5.objs.size=s.heap.objs.size:=by rw [t5.1,t4.1,t3.1,t2.1,t1.1]
 have gz5:IsZip g5 z p q .ellipsis:=t5.extBut _ _ D.qz.symm (t4.extBut _ _ D.kz.symm (t3.extBut _ _ D.qz.symm (t2.extBut _ _ D.jz.symm gz1)))
 have k5:∀ c o,c ≠ z->c ≠ q->c ≠ j->c ≠ k->s.heap.get? c=some o->g5.get? c=some o:=fun c o c1 c2 c3 c4 e=>t5.extBut _ _ c2 (t4.extBut _ _ c4 (t3.extBut _ _ c2 (t2.extBut _ _ c3 (t1.extBut _ _ c1 e))))
 have gj5:g5.IsTupleIter j a (m+1):=((gj2.extBut t3.extBut D.qj.symm).extBut t4.extBut D.jk).extBut t5.extBut D.qj.symm
 have gk5:g5.IsTupleIter k b (n+1):=gk4.extBut t5.extBut D.qk.symm
 have lz:z < g5.objs.size:=Heap.lt_size gz5
 show wpAny _ _ (Builtin.SmallTypes.ownedTupleHandOut (.ref z) (.ref g5.objs.size) >>= fun _=>_) _ _ _
 refine wpAny_bind ?_
 unfold Builtin.SmallTypes.ownedTupleHandOut
 have gz6:IsZip (g5.push { cls:=.type "tuple",data:=.seq #[x,y] }) z p q .ellipsis:=Heap.get?_push_of_some _ gz5
 refine wpAny_bind (wpAny_setField_rec gz6 (by simp) fun g7 gz7 t7=>?_)
 replace gz7:IsZip g7 z p q (rawInt g5.objs.size):=gz7
 refine wpAny_setField_rec gz7 (by simp) fun g8 gz8 t8=>?_
 replace gz8:IsZip g8 z p q (rawInt g5.objs.size):=gz8
 have up:∀ c o,c ≠ z->g5.get? c=some o->g8.get? c=some o:=fun c o c1 e=>t8.extBut _ _ c1 (t7.extBut _ _ c1 (Heap.get?_push_of_some _ e))
 have gT:IsPair g8 g5.objs.size x y:=t8.extBut _ _ (Nat.ne_of_gt lz) (t7.extBut _ _ (Nat.ne_of_gt lz) (Heap.get?_push_size _ rfl))
 have e8:g8.objs.size=g5.objs.size+1:=by rw [t8.1,t7.1,Heap.size_push]
 rw [ez] at gz8 gT e8
 refine wpAny_pure ⟨_,rfl,?_⟩
 show Q (.ref g5.objs.size) _
 rw [ez]
 refine hQ g8 gz8 (up _ _ D.qz gq5) ?_ ?_ gT e8 fun c o c1 c2 c3 c4 e=>up c o c1 (k5 c o c1 c2 c3 c4 e)
 ·obtain⟨o,e,r⟩:=gj5
  exact⟨o,up _ _ D.jz e,r⟩
 ·obtain⟨o,e,r⟩:=gk5
  exact⟨o,up _ _ D.kz e,r⟩
theorem r9 {z p q j k a b:Addr} {m n:Nat} {xs ys:Array Value} {u v:Value} {Q:Fin->Shared->Prop} (ha:A.handled=none) (D:lR z p q j k a b)
  (gz:IsZip s.heap z p q .none) (gp:IsPair s.heap p (.ref j) (.ref k)) (gq:IsPair s.heap q u v)
  (gj:s.heap.IsTupleIter j a m) (gk:s.heap.IsTupleIter k b n) (ga:s.heap.IsTuple a xs) (gb:s.heap.IsTuple b ys) (hend:xs[m]? = none\/ys[n]? = none)
  (hE:∀ g e,(∀ c o,c ≠ z->c ≠ q->c ≠ j->c ≠ k->s.heap.get? c=some o->g.get? c=some o)->(∃ o,g.get? e=some o/\o.cls=.type "StopIteration")->E (.ref e) { s with heap:=g }) :
  wpAny (model prog w) A (Builtin.«zip.__next__» ⟨[.ref z],[]⟩) Q E s:=by
 show wpAny _ _ (field (.ref z) 2 >>= fun _=>_) _ _ _
 refine wpAny_bind (wpAny_field gz rfl (x:=.bool false) rfl ?_)
 show wpAny _ _ (field (.ref z) 3 >>= fun _=>_) _ _ _
 refine wpAny_bind (wpAny_field gz rfl (x:=.ref p) rfl (wpAny_bind (wpAny_seqItems gp rfl ?_)))
 show wpAny _ _ (Builtin.SmallTypes.ownedTupleIsFree (.ref z) >>= fun _=>_) _ _ _
 refine wpAny_bind ?_
 unfold Builtin.SmallTypes.ownedTupleIsFree
 refine wpAny_bind (wpAny_field gz rfl (x:=.none) rfl (wpAny_pure ?_))
 simp only [if_true]
 refine wpAny_bind (wpAny_rule (wpAny_bind (wpAny_field gz rfl (x:=.ref q) rfl (wpAny_bind (wpAny_setField_rec gz (by simp) fun g1 gz1 t1=>?_)))))
 replace gz1:IsZip g1 z p q .ellipsis:=gz1
 refine wpAny_bind ?_
 simp only [List.forIn_cons,List.forIn_nil,List.zipIdx_cons,List.zipIdx_nil]
 refine wpAny_bind (wpAny_bind (wpAny_onRaise ?_))
 show wpAny _ _ (Builtin.SmallTypes.nextOf (.ref j) >>= fun _=>_) _ _ _
 cases hx:xs[m]? with
 | none =>
  refine wpAny_bind (i6 ha (gj.extBut t1.extBut D.jz) (cL ga fun o e=>t1.extBut _ _ D.az e) hx fun g2 e t2 he=>?_)
  obtain⟨oe,eoe,ce⟩:=he
  have gz2:IsZip g2 z p q .ellipsis:=t2 _ _ D.jz.symm gz1
  have ne:e ≠ z:=fun x=>by subst x;rw [gz2] at eoe;cases eoe;simp at ce
  exact wpAny_setField_rec gz2 (by simp) fun g3 _ t3=>hE g3 e (fun c o c1 _ c3 _ x=>t3.extBut _ _ c1 (t2 _ _ c3 (t1.extBut _ _ c1 x))) ⟨oe,t3.extBut _ _ ne eoe,ce⟩
 | some x =>
  have hy:ys[n]? = none:=hend.elim (fun h=>by rw [hx] at h;cases h) id
  refine wpAny_bind (iJ (gj.extBut t1.extBut D.jz) (cL ga fun o e=>t1.extBut _ _ D.az e) hx fun g2 gj2 t2=>wpAny_pure ?_)
  have gq2:IsPair g2 q u v:=t2.extBut _ _ D.qj (t1.extBut _ _ D.qz gq)
  refine wpAny_bind (wpAny_seqItems gq2 rfl (wpAny_bind (wpAny_updateSeq_pair gq2 fun g3 gq3 t3=>?_)))
  refine wpAny_bind (wpAny_letGo (wpAny_pure (wpAny_bind (wpAny_bind (wpAny_onRaise ?_)))))
  show wpAny _ _ (Builtin.SmallTypes.nextOf (.ref k) >>= fun _=>_) _ _ _
  refine wpAny_bind (i6 ha (((gk.extBut t1.extBut D.kz).extBut t2.extBut D.jk.symm).extBut t3.extBut D.qk.symm) (cL gb fun o e=>t3.extBut _ _ D.bq (t2.extBut _ _ D.bj (t1.extBut _ _ D.bz e))) hy fun g4 e t4 he=>?_)
  obtain⟨oe,eoe,ce⟩:=he
  have gz4:IsZip g4 z p q .ellipsis:=t4 _ _ D.kz.symm (t3.extBut _ _ D.qz.symm (t2.extBut _ _ D.jz.symm gz1))
  have ne:e ≠ z:=fun x=>by subst x;rw [gz4] at eoe;cases eoe;simp at ce
  exact wpAny_setField_rec gz4 (by simp) fun g5 _ t5=>hE g5 e (fun c o c1 c2 c3 c4 x=>t5.extBut _ _ c1 (t4 _ _ c4 (t3.extBut _ _ c2 (t2.extBut _ _ c3 (t1.extBut _ _ c1 x))))) ⟨oe,t5.extBut _ _ ne eoe,ce⟩
theorem qy {z p q j k a b:Addr} {m n:Nat} {xs ys:Array Value} {x y u v:Value} {Q:Option Value->Shared->Prop} (D:lR z p q j k a b)
  (gz:IsZip s.heap z p q .none) (gp:IsPair s.heap p (.ref j) (.ref k)) (gq:IsPair s.heap q u v)
  (gj:s.heap.IsTupleIter j a m) (gk:s.heap.IsTupleIter k b n) (ga:s.heap.IsTuple a xs) (gb:s.heap.IsTuple b ys) (hx:xs[m]? = some x) (hy:ys[n]? = some y)
  (hQ:∀ g,IsZip g z p q (rawInt s.heap.objs.size)->IsPair g q x y->g.IsTupleIter j a (m+1)->g.IsTupleIter k b (n+1)->IsPair g s.heap.objs.size x y->g.objs.size=s.heap.objs.size+1 ->
   (∀ c o,c ≠ z->c ≠ q->c ≠ j->c ≠ k->s.heap.get? c=some o->g.get? c=some o)->Q (some (.ref s.heap.objs.size)) { s with heap:=g }) :
  wpAny (model prog w) A (pyNext (.ref z)) Q E s:=by
 have ty:s.TypeIs (.ref z) "zip" := ⟨_,gz,rfl⟩
 unfold pyNext
 exact wpAny_bind (wpAny_attempt (wpAny_callSpecial?_slot (name:=Str.ofString "__next__") ty F.slot_zip_next (wpAny_call_entry F.slot_zip_next ty F.entry_zip_next
   (qx D gz gp gq gj gk ga gb hx hy fun g a1 a2 a3 a4 a5 a6 a7=>wpAny_pure (hQ g a1 a2 a3 a4 a5 a6 a7)) (F.args_zip_next_1 _))))
theorem qA {z p q j k a b:Addr} {m n:Nat} {xs ys:Array Value} {u v:Value} {Q:Option Value->Shared->Prop} (ha:A.handled=none) (D:lR z p q j k a b)
  (gz:IsZip s.heap z p q .none) (gp:IsPair s.heap p (.ref j) (.ref k)) (gq:IsPair s.heap q u v)
  (gj:s.heap.IsTupleIter j a m) (gk:s.heap.IsTupleIter k b n) (ga:s.heap.IsTuple a xs) (gb:s.heap.IsTuple b ys) (hend:xs[m]? = none\/ys[n]? = none)
  (hQ:∀ g,(∀ c o,c ≠ z->c ≠ q->c ≠ j->c ≠ k->s.heap.get? c=some o->g.get? c=some o)->Q none { s with heap:=g }):wpAny (model prog w) A (pyNext (.ref z)) Q E s:=by
 have ty:s.TypeIs (.ref z) "zip" := ⟨_,gz,rfl⟩
 unfold pyNext
 refine wpAny_bind (wpAny_attempt (wpAny_callSpecial?_slot (name:=Str.ofString "__next__") ty F.slot_zip_next (wpAny_call_entry F.slot_zip_next ty F.entry_zip_next
   (r9 ha D gz gp gq gj gk ga gb hend fun g e hk he=>?_) (F.args_zip_next_1 _))))
 obtain⟨o,eo,ec⟩:=he
 exact wpAny_bind (wpAny_isInstance (T := "StopIteration") (b:=true) ⟨o,eo,ec⟩ isSubtype_stop (wpAny_pure (hQ _ hk)))
abbrev nH (h:Heap) (a:Addr):Heap:=h.push { cls:=.type "tuple_iterator",data:=.fields #[.ref a,.int 0 0] }
abbrev pX (h:Heap) (a b:Addr):Heap:=(nH h a).push { cls:=.type "tuple_iterator",data:=.fields #[.ref b,.int 0 0] }
abbrev pY (h:Heap) (a b:Addr):Heap:=(pX h a b).push { cls:=.type "tuple",data:=.seq #[.ref h.objs.size,.ref (nH h a).objs.size] }
abbrev pZ (h:Heap) (a b:Addr):Heap:=(pY h a b).push { cls:=.type "tuple",data:=.seq #[.none,.none] }
abbrev lS (h:Heap) (a b:Addr):Heap:=(pZ h a b).push { cls:=.type "zip",data:=.fields #[.none,.bool false,.bool false,.ref (pX h a b).objs.size,.ref (pY h a b).objs.size] }
theorem sd (a b:Addr) (xs ys:Array Value):Meets (Builtin.«zip.__new__» ⟨[.type "zip",.ref a,.ref b],[]⟩) (fun _ R s=>s.heap.IsTuple a xs/\s.heap.IsTuple b ys /\
   R (.ok (.ret (.ref (pZ s.heap a b).objs.size))) { s with heap:=lS s.heap a b }) :=
 .of_wp fun P w' A' R' s' hh=>by
  obtain⟨hp,g,d,tk,os⟩:=s'
  obtain⟨ga,gb,hh⟩:=hh
  have hsub:=sub_zip
  have la:Heap.IsTuple (Shared.heap ⟨hp,g,d,tk,os⟩) a xs:=ga
  have lb:Heap.IsTuple (Shared.heap ⟨nH hp a,g,d,tk,os⟩) b ys:=cL gb fun o e=>Heap.get?_push_of_some _ e
  wp_walk using wpAny_pyIter_tuple la,wpAny_pyIter_tuple lb
  exact⟨_,rfl,hh⟩
theorem qB {a b:Addr} {xs ys:Array Value} {Q:Value->Shared->Prop} (ga:s.heap.IsTuple a xs) (gb:s.heap.IsTuple b ys)
  (h:∀ g,IsZip g (s.heap.objs.size+4) (s.heap.objs.size+2) (s.heap.objs.size+3) .none->IsPair g (s.heap.objs.size+2) (.ref s.heap.objs.size) (.ref (s.heap.objs.size+1)) ->
   IsPair g (s.heap.objs.size+3) .none .none->g.IsTupleIter s.heap.objs.size a 0->g.IsTupleIter (s.heap.objs.size+1) b 0 ->
   (∀ c o,s.heap.get? c=some o->g.get? c=some o)->Q (.ref (s.heap.objs.size+4)) { s with heap:=g }) :
  wpAny (model prog w) A (call (.type "zip") [.ref a,.ref b]) Q E s:=by
 refine callType_new F.called_zip (by decide) (F.typeCall_zip_2 _ _) (F.newCall_zip_2 _ _) (fun obj=>F.args_object_init_3 obj _ _) F.entry_zip_new (sd a b xs ys) ⟨ga,gb,?_⟩
 have z1:(nH s.heap a).objs.size=s.heap.objs.size+1:=Heap.size_push ..
 have z2:(pX s.heap a b).objs.size=s.heap.objs.size+2:=by rw [Heap.size_push,z1]
 have z3:(pY s.heap a b).objs.size=s.heap.objs.size+3:=by rw [Heap.size_push,z2]
 have z4:(pZ s.heap a b).objs.size=s.heap.objs.size+4:=by rw [Heap.size_push,z3]
 have up:∀ {h:Heap} {c:Addr} {o o':Obj},h.get? c=some o->(h.push o').get? c=some o:=fun e=>Heap.get?_push_of_some _ e
 have q5:(lS s.heap a b).get? (pZ s.heap a b).objs.size=some _:=Heap.get?_push_size _ rfl
 have q4:(lS s.heap a b).get? (pY s.heap a b).objs.size=some _:=up (Heap.get?_push_size _ rfl)
 have q3:(lS s.heap a b).get? (pX s.heap a b).objs.size=some _:=up (up (Heap.get?_push_size _ rfl))
 have q2:(lS s.heap a b).get? (nH s.heap a).objs.size=some _:=up (up (up (Heap.get?_push_size _ rfl)))
 have q1:(lS s.heap a b).get? s.heap.objs.size=some _:=up (up (up (up (Heap.get?_push_size _ rfl))))
 show _/\_
 rw [z2,z3,z4] at q5
 rw [z1,z2] at q3
 rw [z3] at q4
 rw [z1] at q2
 rw [z4]
 exact⟨⟨_,q5,rfl⟩,h _ q5 q3 q4 ⟨_,q1,rfl,rfl⟩ ⟨_,q2,rfl,rfl⟩ fun c o x=>up (up (up (up (up x))))⟩
end
section
variable {X:Cx} {pins:List (Addr × Obj)} {σ : List (Option V)} {H H':Hp} {s:Shared} {h':Heap}
theorem Inv.fm {t':Nat} {fp:List Addr} (I:Inv X pins σ H s) (k:∀ b o,b ∉ fp->s.heap.get? b=some o->h'.get? b=some o) (f:∀ b ∈ fp,df X pins H b):Inv X pins σ H { s with heap:=h',toks:=t' }:=by
 have nit:∀ b u,H b=some u->b ∉ fp:=fun b u e z=>by rw [(f b z).1] at e;cases e
 refine I.step (g':=s.gens) (d':=s.drawn) (ch:=fp) (fun b hb=>?_) (fun b o _ _ hc e _=>k b o hc e) (fun b o _ _ hc e _=>⟨o.slots,k b o hc e⟩) (fun _ _ _ _ n=>n)
  (fun b o hc e=>⟨o,k b o hc e⟩) (fun _ _ e=>e) (fun _ _ _ e=>e) (fun b ps e=>⟨#[],by rw [e];simp⟩) (fun m hm=>?_) (fun b u e=>?_) I.bare
 ·obtain⟨f0,f1,f2,f3,f4,f5⟩:=f b hb
  exact⟨f3,f1,f4,f5⟩
 ·obtain⟨o,es,ep,ho,r⟩:=hm
  exact⟨o,es,ep,k _ o (fun z=>(f _ z).2.1 rfl) ho,r⟩
 ·refine (I.ai b u e).iW (fun c v hc q=>k c v ?_ q) (fun _ q=>q) fun _ _ q=>q
  rcases hc with z | z
  ·rw [z];exact nit b u e
  ·exact nit c _ z
def p7 (K:PySem.W.Frag) (a b:Addr):It :=
 ⟨fun i H=>∃ xs ys x y,aJ K H a xs/\aJ K H b ys/\xs[i]? = some x/\ys[i]? = some y,
  fun i H v H'=>∃ t x y,v=.ref t/\H t=none/\H' = upd H t (.tup [x,y])/\∀ xs ys,aJ K H a xs->aJ K H b ys->xs[i]? = some x/\ys[i]? = some y,
  fun i H=>∃ xs ys,aJ K H a xs/\aJ K H b ys/\(xs.length<=i\/ys.length<=i)⟩
theorem oV {P:Program} {w:World} {K:PySem.W.Frag} {elts:List Expr} {kk:Nat} {pos:Pos} (a b z p q j k:Addr) (D:lR z p q j k a b) :
    Turn P w K (.Tuple elts kk pos) (p7 K a b) [z,p,q,j,k] z (fun i h=>IsZip h z p q .none/\IsPair h p (.ref j) (.ref k)/\(∃ u v,IsPair h q u v)/\h.IsTupleIter j a i/\h.IsTupleIter k b i) where
  mem:=by simp
  obj:=fun i h st c hc=>by
    obtain⟨gz,gp,⟨u,v,gq⟩,⟨oj,ej,cj,dj⟩,⟨ok,ek,ck,dk⟩⟩:=st
    simp only [List.mem_cons,List.not_mem_nil,or_false] at hc
    rcases hc with rfl | rfl | rfl | rfl | rfl
    · exact⟨_,gz,fun v e=>by cases e⟩
    · exact⟨_,gp,fun v e=>by cases e⟩
    · exact⟨_,gq,fun v e=>by cases e⟩
    · exact⟨oj,ej,fun v e=>by rw [dj] at e;cases e⟩
    · exact⟨ok,ek,fun v e=>by rw [dk] at e;cases e⟩
  keep:=fun i h g st kp=>by
    obtain⟨gz,gp,⟨u,v,gq⟩,⟨oj,ej,rj⟩,⟨ok,ek,rk⟩⟩:=st
    exact⟨kp z (by simp) _ gz,kp p (by simp) _ gp,⟨u,v,kp q (by simp) _ gq⟩,⟨oj,kp j (by simp) _ ej,rj⟩,⟨ok,kp k (by simp) _ ek,rk⟩⟩
  item:=by
    intro X hP hw hK hc i pins s σ H E I hf st hg
    subst hP hw hK
    obtain⟨gz,gp,⟨u,v,gq⟩,gj,gk⟩:=st
    obtain⟨xs,ys,x,y,ha,hb,hx,hy⟩:=hg
    obtain⟨is,ra,pa,_⟩:=I.tuple ha
    obtain⟨js,rb,pb,_⟩:=I.tuple hb
    obtain⟨xv,hxv,rx⟩:=ra.get hx
    obtain⟨yv,hyv,ry⟩:=rb.get hy
    have sz:∀ c ∈ [z,p,q,j,k],c ≠ s.heap.objs.size:=fun c hc e=>by
      subst e
      simp only [List.mem_cons,List.not_mem_nil,or_false] at hc
      rcases hc with e | e | e | e | e
      · exact absurd (Heap.lt_size gz) (by rw [<-e];exact Nat.lt_irrefl _)
      · exact absurd (Heap.lt_size gp) (by rw [<-e];exact Nat.lt_irrefl _)
      · exact absurd (Heap.lt_size gq) (by rw [<-e];exact Nat.lt_irrefl _)
      · obtain⟨oj,ej,_⟩:=gj
        exact absurd (Heap.lt_size ej) (by rw [<-e];exact Nat.lt_irrefl _)
      · obtain⟨ok,ek,_⟩:=gk
        exact absurd (Heap.lt_size ek) (by rw [<-e];exact Nat.lt_irrefl _)
    refine qy D gz gp gq gj gk (show s.heap.IsTuple a is.toArray from pa) (show s.heap.IsTuple b js.toArray from pb) (x:=xv) (y:=yv) (by simpa using hxv) (by simpa using hyv) fun g a1 a2 a3 a4 a5 a6 hk=>?_
    refine⟨.ref s.heap.objs.size,rfl,wpAny_letOwnedTupleGo_zip a1 fun g' gz' sb=>?_⟩
    have fr:=I.ai.fresh (a:=s.heap.objs.size) (Nat.le_refl _)
    have I1:Inv X pins σ (upd H s.heap.objs.size (.tup [x,y])) { s with heap:=s.heap.push { cls:=.type "tuple",data:=.seq #[xv,yv] },toks:=s.toks } :=
      I.laid (fun _ _ e=>Heap.get?_push_of_some _ e) (Nat.le_refl _) ⟨by show 2<=sizeLine;decide,[xv,yv],.cons rx (.cons ry .nil),by first | exact IsTup.new _ _ | exact⟨_,Heap.get?_push_size _ rfl,rfl,_,rfl,rfl⟩⟩
    have f1:∀ c ∈ [z,p,q,j,k],df X pins (upd H s.heap.objs.size (.tup [x,y])) c:=fun c hc=>by
      obtain⟨f0,fr'⟩:=hf c hc
      exact⟨by rw [ao (sz c hc)];exact f0,fr'⟩
    have I2:Inv X pins σ (upd H s.heap.objs.size (.tup [x,y])) { s with heap:=g',toks:=s.toks }:=Inv.fm (s:={ s with heap:=s.heap.push { cls:=.type "tuple",data:=.seq #[xv,yv] },toks:=s.toks }) (fp:=[z,p,q,j,k]) (h':=g') (t':=s.toks) I1 (fun c o hc e=>by
      simp only [List.mem_cons,List.not_mem_nil,or_false,not_or] at hc
      refine sb.extBut _ _ hc.1 ?_
      rcases Heap.get?_push_cases e with ⟨rfl,rfl⟩ | e
      · exact a5
      · exact hk c o hc.1 hc.2.2.1 hc.2.2.2.1 hc.2.2.2.2 e) f1
    refine⟨.ref s.heap.objs.size,_,I2,rfl,⟨_,x,y,rfl,fr,rfl,fun xs' ys' h1 h2=>?_⟩,⟨gz',sb.extBut _ _ D.pz (hk _ _ D.pz D.pq D.pj D.pk gp),⟨xv,yv,sb.extBut _ _ D.qz a2⟩,a3.extBut sb.extBut D.jz,a4.extBut sb.extBut D.kz⟩,fun c hc=>(f1 c hc).1⟩
    rw [I.eJ h1 ha,I.eJ h2 hb]
    exact⟨hx,hy⟩
  done:=by
    intro X hP hw hK hc i pins s σ H E I hf st hg
    subst hP hw hK
    obtain⟨gz,gp,⟨u,v,gq⟩,gj,gk⟩:=st
    obtain⟨xs,ys,ha,hb,hl⟩:=hg
    obtain⟨is,ra,pa,_⟩:=I.tuple ha
    obtain⟨js,rb,pb,_⟩:=I.tuple hb
    have la:=ra.length
    have lb:=rb.length
    have he:is.toArray[i]? = none\/js.toArray[i]? = none:=by
      rcases hl with h | h
      · exact .inl (by simp;omega)
      · exact .inr (by simp;omega)
    exact qA (I.ok.hd hc) D gz gp gq gj gk (show s.heap.IsTuple a is.toArray from pa) (show s.heap.IsTuple b js.toArray from pb) he fun g hk=>⟨rfl,I.fm (fp:=[z,p,q,j,k]) (t':=s.toks) (fun c o hc e=>by
      simp only [List.mem_cons,List.not_mem_nil,or_false,not_or] at hc
      exact hk c o hc.1 hc.2.2.1 hc.2.2.2.1 hc.2.2.2.2 e) hf⟩
  self:=fun _ _ _ _ _ st h=>wpAny_pyIter_zip st.1 h
theorem uS {N a b:Nat} (ha:a < N) (hb:b < N):lR (N+4:Nat) (N+2:Nat) (N+3:Nat) N (N+1:Nat) a b :=
 have ne:∀ {u v:Nat},u < v->¬ (u=v):=fun h e=>by omega
 have ne':∀ {u v:Nat},v < u->¬ (u=v):=fun h e=>by omega
 ⟨ne (by omega),ne (by omega),ne (by omega),ne (by omega),ne (by omega),ne' (by omega),ne' (by omega),ne' (by omega),ne' (by omega),ne (by omega),ne (by omega),ne (by omega),ne (by omega),ne (by omega),ne (by omega),ne (by omega),ne (by omega),ne (by omega)⟩
theorem se:bootBuiltins "zip" = some (.type "zip"):=by decide +kernel
inductive qC (K:PySem.W.Frag) (R:(It->Hp->Prop)) (vs:List V) (H1:Hp):Prop
 | mk (a b:_) (_:vs = [.ref a,.ref b]) (_:(∃ xs,aJ K H1 a xs)) (_:(∃ ys,aJ K H1 b ys)) (_:R (p7 K a b) H1)
def uA (K:PySem.W.Frag) (ta:TA):TI:=fun σ H R=>ta σ H fun vs H1=>qC K R vs H1
theorem sf {a b:Expr} {ta:TA} {p pos tp:Pos} {elts:List Expr} {kk:Nat} (hg:Gl X "zip") (hm:X.mg "zip" = none) (ha:PA X [a,b] ta) (hs:starEach [a,b] X.env = [(false,eval a X.env),(false,eval b X.env)]:=by rfl) (hs2:starEach [b] X.env = [(false,eval b X.env)]:=by rfl) :
  PI X (.Tuple elts kk tp) (.Call (.Name "zip" p) [a,b] [] pos) (uA X.K ta):=by
 intro pins s σ H R I h
 refine Call_ (fg I hg hm se (PyProof.Rows.callWith_type1 (aB (ha pos pins s σ H _ I h) fun us s1 ⟨vs,H1,I1,r1,q1⟩=>?_) (by rw [hs,hs2]) (by rw [hs2];rfl)))
 obtain⟨x,y,e,⟨xs,hx⟩,⟨ys,hy⟩,q⟩:=q1
 subst e
 cases r1 with
 | cons r rr =>
  cases rr with
  | cons r' rr =>
   cases rr
   cases r
   cases r'
   obtain⟨is,rx,px,_⟩:=I1.tuple hx
   obtain⟨js,ry,py,_⟩:=I1.tuple hy
   have lx:x < s1.heap.objs.size:=px.lt
   have ly:y < s1.heap.objs.size:=py.lt
   refine qB (show s1.heap.IsTuple x is.toArray from px) (show s1.heap.IsTuple y js.toArray from py) fun g gz gp gq gj gk up=>?_
   refine wpAny_pyIter_zip gz ?_
   have I2:Inv X pins σ H1 { s1 with heap:=g }:=I1.kept (t':=s1.toks) up
   refine⟨_,[s1.heap.objs.size+4,s1.heap.objs.size+2,s1.heap.objs.size+3,s1.heap.objs.size,s1.heap.objs.size+1],_,p7 X.K x y,H1,rfl,I2,oV x y _ _ _ _ _ ?_,⟨gz,gp,⟨_,_,gq⟩,gj,gk⟩,fun c hc=>?_,q⟩
   ·exact uS lx ly
   ·have le:s1.heap.objs.size<=c:=by
     simp only [List.mem_cons,List.not_mem_nil,or_false] at hc
     rcases hc with rfl | rfl | rfl | rfl | rfl
     ·exact Nat.le_add_right _ _
     ·exact Nat.le_add_right _ _
     ·exact Nat.le_add_right _ _
     ·exact Nat.le_refl _
     ·exact Nat.le_add_right _ _
    exact I1.eS le (I1.ai.fresh le)
theorem sh {K:PySem.W.Frag} {a b acc:Addr} {xs ys:List V} {n:Nat} {js:List Nat} {g:TG} {ct:TT} {te:TE} {σ : St} {H1:Hp} {Q:VK} (Pv:Nat->List V->St->Hp->Prop) (h0:Pv 0 [] (fT n js σ) (upd H1 acc (.lst [])))
  (hl:∀ i zs τ H,i<=min xs.length ys.length->Pv i zs τ H->aJ K H a xs/\aJ K H b ys/\H acc=some (.lst zs)/\zs.length < sizeLine)
  (hs:∀ i x y zs τ H t,xs[i]? = some x->ys[i]? = some y->H t=none->Pv i zs τ H->g (.ref t) τ (upd H t (.tup [x,y])) fun τ1 H4=>ct τ1 H4 fun b H5=>if b=true then te τ1 H5 fun v H6=>H6 acc=some (.lst zs)/\Pv (i+1) (zs ++ [v]) τ1 (upd H6 acc (.lst (zs ++ [v]))) else Pv (i+1) zs τ1 H5)
  (hd:∀ zs τ H,Pv (min xs.length ys.length) zs τ H->Q (.ref acc) H) :
  jo (p7 K a b) n js g ct te acc σ H1 Q:=by
 refine⟨fun i m zs τ H=>m=min xs.length ys.length - i/\i<=min xs.length ys.length/\Pv i zs τ H,⟨min xs.length ys.length,by simp,Nat.zero_le _,h0⟩,?_⟩
 rintro i m zs τ H ⟨rfl,hi,p⟩
 obtain⟨qa,qb,q2,q3⟩:=hl i zs τ H hi p
 refine⟨q2,q3,?_⟩
 by_cases hlt:i < min xs.length ys.length
 ·have l1:i < xs.length:=by omega
  have l2:i < ys.length:=by omega
  refine .inr ⟨⟨xs,ys,xs[i],ys[i],qa,qb,by simp [l1],by simp [l2]⟩,Pv (i+1),fun zs' τ' H' p'=>⟨min xs.length ys.length - (i+1),by omega,rfl,hlt,p'⟩,fun v H' y=>?_⟩
  obtain⟨t,x,y,rfl,ht,rfl,h⟩:=y
  obtain⟨h1,h2⟩:=h xs ys qa qb
  exact hs i x y zs τ H t h1 h2 ht p
 ·have e:i=min xs.length ys.length:=by omega
  subst e
  refine .inl ⟨⟨xs,ys,qa,qb,?_⟩,hd zs τ H p⟩
  rcases Nat.le_total xs.length ys.length with h | h
  ·exact .inl (by omega)
  ·exact .inr (by omega)
end
section
variable {κ : Type} [DecidableEq κ]
end
section
variable {P:Program} {w:World} {H:Hp} {h:Heap} {a:Addr}
end
section
variable {X:Cx} {pins:List (Addr × Obj)} {σ : St} {H:Hp} {s:Shared} {a:Addr} {y v:V} {u r:Value} {o:Option V} {A:Around} {E:Value->Shared->Prop}
end
section
variable {X:Cx} {pins:List (Addr × Obj)} {σ : St} {H:Hp} {s:Shared} {a:Addr} {kvs:List (Key × V)} {k:Key} {u:Value} {A:Around} {E:Value->Shared->Prop}
end
section
variable {X:Cx} {o i e value:Expr} {pos pos' tpos:Pos} {td ty tv:TE}
end
section
variable {X:Cx} {pos:Pos}
end
structure M1 (X:Cx) (o:Expr) (m:Str) (apos:Pos) (e:Expr) (cpos:Pos):Prop where
 base:attributeBase o m X.env (eval o X.env)=eval o X.env
 cZ:((backTo cpos (starEach [e] X.env)).all (fun x=>!x.1) && (backToKw cpos (keywordEach [] X.env)).all (fun x=>x.1.isSome)
  && decide (([e]:List Expr).length+([]:List Keyword).length+(if ([]:List Keyword).isEmpty then 0 else 1) < 30))=true
 line:(apos.endLine == cpos.line)=true
 trees:backTo cpos (starEach [e] X.env) = [(false,eval e X.env)]
section
variable {X:Cx} {pins:List (Addr × Obj)} {σ : St} {H:Hp} {s:Shared} {a:Addr} {y d:V} {u r:Value} {o:Option V} {A:Around} {E:Value->Shared->Prop}
end
section
variable {X:Cx} {o e f:Expr} {apos cpos:Pos} {td ty tx:TE}
end
section
variable {X:Cx} {pins:List (Addr × Obj)} {σ : St} {H:Hp} {s:Shared} {a:Addr} {kvs:List (Key × V)} {A:Around} {E:Value->Shared->Prop}
end
section
variable {X:Cx} {pins:List (Addr × Obj)} {σ : St} {H:Hp} {s:Shared} {a:Addr} {y:V} {u:Value} {A:Around} {E:Value->Shared->Prop}
end
section
variable {X:Cx}
end
section
variable {κ : Type} [DecidableEq κ]
end
structure oW (K:PySem.W.Frag) (mg:Str->Option Value) (nm:Str) (a:Addr) (D:List (Str × Addr)):Prop where
 uT:mg nm=some (.ref a)
 lk:∃ es ep,K.lookup a=some ⟨.type "dict",none,.dict es ep,#[]⟩/\KTD.Rows (fun d v=>v=Value.ref d) es.toList D
section
variable {prog:Program} {w:World} {A:Around} {E:Value->Shared->Prop} {s:Shared}
theorem oX {a d:Addr} {o:Obj} {es:Array DictEntry} {ep:Nat} {k:Str} {t:Tok} {D:List (Str × Addr)} {Q:Option Value->Shared->Prop} (ho:s.heap.get? a=some o) (hd:o.data=.dict es ep)
  (hr:KTD.Rows (fun d v=>v=Value.ref d) es.toList D) (ha:KTD.datumAt k D=some d) (q:Q (some (.ref d)) { s with toks:=s.toks+1 }):wpAny (model prog w) A (dictGet a (.str k t)) Q E s:=by
 unfold dictGet
 try with_reducible refine wpAny_holding ?_
 refine wpAny_bind (wpAny_pyHash_str (wpAny_bind (KTD.kt_dictFind_strs (s:={ s with toks:=s.toks+1 }) ho hd (by have:=hr.exact;obtain⟨l⟩:=es;simpa using this) ?_)))
 have hq:Q (findBy (fun k v=>v.isStr k) es k) { s with toks:=s.toks+1 }:=by
  obtain⟨v,hv,rfl⟩:=hr.find_some ha
  have e:findBy (fun k v=>v.isStr k) es k=some (.ref d):=by
   rw [<-hv]
   obtain⟨l⟩:=es
   simp [findBy]
  rw [e]
  exact q
 rw [findBy_of_findIdx?] at hq
 cases hi:es.findIdx? fun e=>e.key.isStr k with
 | some i=>rw [hi] at hq;exact wpAny_bind (wpAny_dictEntries (s:={ s with toks:=s.toks+1 }) ho hd (wpAny_pure hq))
 | none=>rw [hi] at hq;exact wpAny_pure hq
end
section
variable {X:Cx}
end
mutual
inductive aI (H:Hp):V->PyData->Prop
 | aO:aI H .aO .none
 | bl (b:Bool):aI H (.bl b) (.bool b)
 | int (i:Int):aI H (.int i) (.int i)
 | str (x:Str):aI H (.str x) (.str x)
 | lst {p:Addr} {xs:List V} {ds:List PyData}:H p=some (.lst xs)->ar H xs ds->aI H (.ref p) (.list ds)
 | tup {p:Addr} {xs:List V} {ds:List PyData}:H p=some (.tup xs)->ar H xs ds->aI H (.ref p) (.tuple ds)
inductive ar (H:Hp):List V->List PyData->Prop
 | nil:ar H [] []
 | cons {x:V} {xs:List V} {d:PyData} {ds:List PyData}:aI H x d->ar H xs ds->ar H (x :: xs) (d :: ds)
end
section
variable {P:Program} {w:World} {H:Hp} {h:Heap}
mutual
theorem aI.reads (ok:bX P w H h):∀ {x:V} {d:PyData} {v:Value},aI H x d->RelV x v->∃ as,Reads h v d as
 | _,_,v,.aO,r=>by
  cases (show v=Value.none from r)
  exact⟨_,.none⟩
 | _,_,v,.bl b,r=>by
  cases (show v=Value.bool b from r)
  exact⟨_,.bool b⟩
 | _,_,v,.int i,r=>by
  obtain⟨t,e⟩:=(show ∃ t,v=Value.int i t from r)
  cases e
  exact⟨_,.int i t⟩
 | _,_,v,.str x,r=>by
  obtain⟨t,e⟩:=(show ∃ t,v=Value.str x t from r)
  cases e
  exact⟨_,.str x t⟩
 | _,_,v,.lst (p:=p) (xs:=xs) e ds,r=>by
  cases (show v=Value.ref p from r)
  obtain⟨_,its,n,rv,h1⟩:=(show bA P w H h p (.lst xs) from ok p _ e)
  obtain⟨as,ra⟩:=ar.reads ok ds rv
  exact⟨_,.list (vs:=its.toArray) h1 rfl rfl (by simpa using ra)⟩
 | _,_,v,.tup (p:=p) (xs:=xs) e ds,r=>by
  cases (show v=Value.ref p from r)
  obtain⟨_,its,rv,o,h1,h2,n,h3⟩:=(show bA P w H h p (.tup xs) from ok p _ e)
  obtain⟨as,ra⟩:=ar.reads ok ds rv
  exact⟨_,.tuple (vs:=its.toArray) h1 h2 h3.1 (by simpa using ra)⟩
theorem ar.reads (ok:bX P w H h):∀ {xs:List V} {ds:List PyData} {vs:List Value},ar H xs ds->Vals xs vs->∃ as,ReadsAll h vs ds as
 | _,_,_,.nil,.nil=>⟨_,.nil⟩
 | _,_,_,.cons r rs,.cons q qs=>by
  obtain⟨as,ra⟩:=aI.reads ok r q
  obtain⟨bs,rb⟩:=ar.reads ok rs qs
  exact⟨_,.cons ra rb⟩
end
end
section
variable {X:Cx}
inductive si (neg:Bool) (x:V) (y:V) (H:Hp) (Q:VK):Prop
 | mk (dx dy:_) (_:aI H x dx) (_:aI H y dy) (_:dx.canLay0=true) (_:dy.canLay0=true) (_:min dx.depth dy.depth<=60) (_:Q (.bl (if neg then !PyData.eqv dx dy else PyData.eqv dx dy)) H)
theorem sj (hu:X.A.units+64 < cLine):bT X (compareOp .Eq) (si false):=by
 intro pins s σ H x y v u Q I rx ry h
 obtain⟨dx,dy,r1,r2,c1,c2,hd,q⟩:=h
 obtain⟨as,ra⟩:=r1.reads I.ai rx
 obtain⟨bs,rb⟩:=r2.reads I.ai ry
 exact PySem.SeqAt.compareEq_reads ra rb c1 c2 (by omega) ⟨.bl _,H,I,rfl,q⟩
theorem nI (hu:X.A.units+64 < cLine):bT X (compareOp .NotEq) (si true):=by
 intro pins s σ H x y v u Q I rx ry h
 obtain⟨dx,dy,r1,r2,c1,c2,hd,q⟩:=h
 obtain⟨as,ra⟩:=r1.reads I.ai rx
 obtain⟨bs,rb⟩:=r2.reads I.ai ry
 exact PySem.SeqAt.neOverData X.prog X.w X.A X.xe s v u dx dy as bs _ ra rb c1 c2 (by omega) ⟨.bl _,H,I,rfl,q⟩
end
def one (c:Nat):Str:=⟨#[c]⟩
theorem ke (rest:List Str):∀ a:Array Nat,(rest.foldl (fun acc p=>acc++Str.empty.cps++p.cps) a).toList=a.toList++rest.flatMap (·.cps.toList):=by
 induction rest with
 | nil=>intro a;simp
 | cons x r ih =>
  intro a
  rw [List.foldl_cons,ih]
  have e:Str.empty.cps = #[]:=rfl
  simp [e]
theorem join_ones (cs:List Nat):(Txt.join Str.empty (cs.map one)).cps.toList=cs:=by
 cases cs with
 | nil=>rfl
 | cons c r =>
  show (List.foldl (fun acc p=>acc++Str.empty.cps++p.cps) (#[c]:Array Nat) (r.map one)).toList=c :: r
  rw [ke]
  simp only [List.flatMap_map,one]
  simp
theorem oY:Str.ofString "" = Str.empty:=by decide +kernel
theorem mH {ys:List Str}:∀ {us:List Value},Vals (ys.map V.str) us->StrsAre us ys:=by
 induction ys with
 | nil=>intro us r;cases r;exact .nil
 | cons y ys ih =>
  intro us r
  cases r with
  | cons h t =>
   obtain⟨k,e⟩:=h
   subst e
   exact .cons y k (ih t)
section
variable {X:Cx}
inductive rJoin (K:PySem.W.Frag) (x:V) (vs:List V) (H:Hp) (Q:VK):Prop
 | mk (z:Str) (p:Addr) (ys:List Str) (_:x=.str z) (_:vs = [.ref p]) (_:ax K H p (ys.map V.str)) (_:(ys.map (·.length)).sum+ys.length * z.length<=16777216) (_:Q (.str (Txt.join z ys)) H)
theorem cM:lM X "str.join" (rJoin X.K):=by
 intro pins s σ H x vs v us Q I rx rv h
 obtain⟨z,p,ys,rfl,rfl,hS,hz,q⟩:=h
 obtain⟨t,e⟩:=(show ∃ t,v=Value.str z t from rx)
 subst e
 obtain⟨u,rfl,ru⟩:=vals1 rv
 cases (show u=Value.ref p from ru)
 obtain⟨its,rv',pl,_⟩:=I.list hS
 exact join_list pl.isList (by simpa using mH rv') hz fun t' k=>⟨.str _,H,I.tok k,⟨_,rfl⟩,q⟩
end
inductive eg where
 | put (x:Str) (n:Int)
 | copy (x y:Str)
 | add (x:Str) (n:Int)
 | read (x:Str)
 | tell (x:Str)
inductive End where
 | stop
 | go (p:Nat)
 | kf (less:Bool) (x:Str) (n:Int) (p q:Nat)
abbrev Piece:=List eg × End
def wT (b:Bool):Str:=if b=true then "less" else "is"
def ba:eg->PyData
 | .put x n=>.tuple [.str "put",.str x,.int n]
 | .copy x y=>.tuple [.str "copy",.str x,.str y]
 | .add x n=>.tuple [.str "add",.str x,.int n]
 | .read x=>.tuple [.str "read",.str x]
 | .tell x=>.tuple [.str "tell",.str x]
def b7:End->PyData
 | .stop=>.tuple [.str "stop"]
 | .go p=>.tuple [.str "go",.int p]
 | .kf b x n p q=>.tuple [.str (wT b),.str x,.int n,.int p,.int q]
def aW (p:Piece):PyData:=.tuple [.tuple (p.1.map ba),b7 p.2]
def cV (ps:List Piece):PyData:=.tuple (ps.map aW)
structure aX (x:Str):Prop where
 lo:1<=x.length
 hi:x.length<=8
 az:∀ c ∈ x.cps.toList,97<=c/\c<=122
def b9 (n:Int):Prop:=-(10 ^ 40) < n/\n < 10 ^ 40
def cE (xs:List Str):eg->Prop
 | .put x n=>x ∈ xs/\b9 n
 | .copy x y=>x ∈ xs/\y ∈ xs
 | .add x n=>x ∈ xs/\b9 n
 | .read x=>x ∈ xs
 | .tell x=>x ∈ xs
def dJ (xs:List Str) (count:Nat):End->Prop
 | .stop=>True
 | .go p=>p < count
 | .kf _ x n p q=>x ∈ xs/\b9 n/\p < count/\q < count
structure gs (xs:List Str) (most:Nat) (ps:List Piece):Prop where
 mI:∀ p ∈ ps,p.1.length<=most/\∀ d ∈ p.1,cE xs d
 ends:∀ p ∈ ps,dJ xs ps.length p.2
mutual
def bU:PyData->Bool
 | .list _=>false
 | .tuple xs=>bE xs
 | _=>true
def bE:List PyData->Bool
 | []=>true
 | x :: xs=>bU x && bE xs
end
mutual
theorem aI.bR {H H':Hp} (k:∀ p xs,H p=some (.tup xs)->H' p=some (.tup xs)):∀ {x:V} {d:PyData},aI H x d->bU d=true->aI H' x d
 | _,_,.aO,_=>.aO
 | _,_,.bl b,_=>.bl b
 | _,_,.int i,_=>.int i
 | _,_,.str x,_=>.str x
 | _,_,.lst _ _,h=>nomatch h
 | _,_,.tup e ds,h=>.tup (k _ _ e) (ar.bR k ds h)
theorem ar.bR {H H':Hp} (k:∀ p xs,H p=some (.tup xs)->H' p=some (.tup xs)):∀ {xs:List V} {ds:List PyData},ar H xs ds->bE ds=true->ar H' xs ds
 | _,_,.nil,_=>.nil
 | _,_,.cons r rs,h=>by
  simp only [bE,Bool.and_eq_true] at h
  exact .cons (aI.bR k r h.1) (ar.bR k rs h.2)
end
theorem aI.fix {b:Addr} {H H':Hp} {x:V} {d:PyData} (r:aI H x d) (hb:bG H b) (f:Fix b H H') (n:bU d=true):aI H' x d :=
 r.bR (fun p xs e=>f p _ e (hb.kb e)) n
theorem aI.same {H H':Hp} {x:V} {d:PyData} (r:aI H x d) (f:ab H H') (n:bU d=true):aI H' x d :=
 r.bR (fun p xs e=>f p _ e) n
theorem ar.fix {b:Addr} {H H':Hp} {xs:List V} {ds:List PyData} (r:ar H xs ds) (hb:bG H b) (f:Fix b H H') (n:bE ds=true):ar H' xs ds :=
 r.bR (fun p xs e=>f p _ e (hb.kb e)) n
theorem ar.same {H H':Hp} {xs:List V} {ds:List PyData} (r:ar H xs ds) (f:ab H H') (n:bE ds=true):ar H' xs ds :=
 r.bR (fun p xs e=>f p _ e) n
theorem ar.put {H:Hp} {xs ys:List V} {ds:List PyData} {l:Addr} {o:HO} (r:ar H xs ds) (hl:H l=some (.lst ys)) (n:bE ds=true):ar (upd H l o) xs ds :=
 r.bR (fun p zs e=>by rw [ao (fu e hl (by intro z;cases z))];exact e) n
theorem ar.app {H:Hp} {x:V} {d:PyData}:∀ {xs:List V} {ds:List PyData},ar H xs ds->aI H x d->ar H (xs ++ [x]) (ds ++ [d])
 | _,_,.nil,q=>.cons q .nil
 | _,_,.cons r rs,q=>.cons r (ar.app rs q)
theorem ar.len {H:Hp}:∀ {xs:List V} {ds:List PyData},ar H xs ds->xs.length=ds.length
 | _,_,.nil=>rfl
 | _,_,.cons _ rs=>by simp [ar.len rs]
theorem hR (d:eg):bU (ba d)=true:=by cases d <;> rfl
theorem fD (e:End):bU (b7 e)=true:=by cases e <;> rfl
theorem b5:∀ ds:List eg,bE (ds.map ba)=true
 | []=>rfl
 | d :: ds=>by show (bU (ba d) && bE (ds.map ba))=true;rw [hR,b5 ds];rfl
theorem cW (p:Piece):bU (aW p)=true:=by
 show (bE (p.1.map ba) && (bU (b7 p.2) && true))=true
 rw [b5,fD];rfl
theorem bu:∀ ps:List Piece,bE (ps.map aW)=true
 | []=>rfl
 | p :: ps=>by show (bU (aW p) && bE (ps.map aW))=true;rw [cW,bu ps];rfl
theorem kS (ps:List Piece):bU (cV ps)=true:=bu ps
structure cn (H:Hp) (b l:Addr) (xs:List Str):Prop where
 at_:H l=some (.lst (xs.map V.str))
 ne:l ≠ b
 mJ:xs ≠ []
 cZ:xs.length<=1000
 ok:∀ x ∈ xs,aX x
theorem cn.fix {H H':Hp} {b l:Addr} {xs:List Str} (h:cn H b l xs) (f:Fix b H H'):cn H' b l xs:=⟨f l _ h.at_ h.ne,h.ne,h.mJ,h.cZ,h.ok⟩
theorem cn.pos {H:Hp} {b l:Addr} {xs:List Str} (h:cn H b l xs):0 < ((xs.map V.str).length:Int)/\((xs.map V.str).length:Int) < 1073741824:=by
 have h1:=h.mJ
 have h2:=h.cZ
 have h3:0 < xs.length:=by cases xs with | nil=>exact absurd rfl h1 | cons _ _=>simp
 rw [List.length_map]
 omega
inductive lT  (vs:List V) (H:Hp) (Q:VK) (_:XK):Prop
 | mk (b:Addr) (_:vs = [.ref b]) (_:bG H b) (_:∀ l xs H',cn H' b l xs->xs.length<=4->bG H' b->Fix b H H'->Q (.ref l) H')
inductive h9  (vs:List V) (H:Hp) (Q:VK) (_:XK):Prop
 | mk (b:Addr) (_:vs = [.ref b]) (_:bG H b) (_:∀ n H',b9 n->bG H' b->Fix b H H'->Q (.int n) H')
inductive nJ  (vs:List V) (H:Hp) (Q:VK) (_:XK):Prop
 | mk (b l:Addr) (xs:List Str) (_:vs = [.ref b,.ref l]) (_:bG H b) (_:cn H b l xs) (_:∀ v d H',aI H' v (ba d)->cE xs d->bG H' b->Fix b H H'->Q v H')
inductive nK  (vs:List V) (H:Hp) (Q:VK) (_:XK):Prop
 | mk (b l:Addr) (xs:List Str) (c:Nat) (_:vs = [.ref b,.ref l,.int c]) (_:bG H b) (_:cn H b l xs) (_:0 < c) (_:c < 1073741824) (_:∀ v e H',aI H' v (b7 e)->dJ xs c e->bG H' b->Fix b H H'->Q v H')
inductive nL  (vs:List V) (H:Hp) (Q:VK) (_:XK):Prop
 | mk (b:Addr) (c m:Nat) (_:vs = [.ref b,.int c,.int m]) (_:bG H b) (_:0 < c) (_:c<=1000) (_:m<=1000) (_:∀ v xs ps H',aI H' v (cV ps)->ps.length=c->gs xs m ps->((∀ x ∈ xs,aX x)/\xs.length<=4)->bG H' b->Fix b H H'->Q v H')
inductive lU  (vs:List V) (H:Hp) (Q:VK) (_:XK):Prop
 | mk (b:Addr) (m:Nat) (_:vs = [.ref b,.int m]) (_:bG H b) (_:0 < m) (_:m<=1000) (_:∀ (n:Nat) H',0 < n->n<=max m 4->bG H' b->Fix b H H'->Q (.int n) H')
def iK:Str := "abcdefghijklmnopqrstuvwxyz"
theorem kg:iK.cps.toList=(List.range 26).map (· + 97):=by decide +kernel
theorem lV:iK.length<=sizeLine:=by decide +kernel
theorem nM {r:Int} (h0:0<=r) (h1:r < 26):∃ c,cy iK.cps.toList r=some c/\97<=c/\c<=122:=by
 have hl:iK.cps.toList.length=26:=by rw [kg];simp
 obtain⟨c,hc,hm⟩:=mG (xs:=iK.cps.toList) h0 (by rw [hl];exact h1)
 refine⟨c,hc,?_⟩
 rw [kg] at hm
 obtain⟨k,hk,rfl⟩:=List.mem_map.mp hm
 have:=List.mem_range.mp hk
 omega
theorem ia {xs:List Str} {r:Int} (h0:0<=r) (h1:r < ((xs.map V.str).length:Int)):∃ x,cy (xs.map V.str) r=some (V.str x)/\x ∈ xs:=by
 obtain⟨v,hv,hm⟩:=mG h0 h1
 obtain⟨x,hx,rfl⟩:=List.mem_map.mp hm
 exact⟨x,hv,hx⟩
theorem cz {σ : L2.St} {H:Hp} {Q:Bool->Hp->Prop} (h:Q true H):r6 σ H Q:=h
theorem bH {i:Nat} {v:V} {σ : L2.St} {H:Hp} {Q:L2.St->Hp->Prop} (h:Q (σ.set i (some v)) H):gN i v σ H Q:=h
theorem aI.cq {H:Hp} {v:V} {ds:List PyData} (h:aI H v (.tuple ds)):∃ p xs,v=.ref p/\H p=some (.tup xs)/\ar H xs ds:=by
 cases h with
 | tup e r=>exact⟨_,_,rfl,e,r⟩
theorem ar.cons_inv {H:Hp} {xs:List V} {d:PyData} {ds:List PyData} (h:ar H xs (d :: ds)):∃ x r,xs=x :: r/\aI H x d/\ar H r ds:=by
 cases h with
 | cons a b=>exact⟨_,_,rfl,a,b⟩
theorem ar.nil_inv {H:Hp} {xs:List V} (h:ar H xs []):xs = []:=by cases h;rfl
theorem ar.get {H:Hp}:∀ {xs:List V} {ds:List PyData} {i:Nat} {d:PyData},ar H xs ds->ds[i]? = some d->∃ x,xs[i]? = some x/\aI H x d
 | _,_,_,_,.nil,e=>by simp at e
 | _,_,0,_,.cons r _,e=>by
  simp at e
  subst e
  exact⟨_,rfl,r⟩
 | _,_,i+1,d,.cons _ t,e=>by
  obtain⟨x,h1,h2⟩:=ar.get (i:=i) (d:=d) t (by simpa using e)
  exact⟨x,by simpa using h1,h2⟩
theorem cX {n:Nat} (h:n<=1000000):n < sizeLine:=Nat.lt_of_le_of_lt h (by decide)
theorem cu {c:Bool} {A B:Prop} (hc:c=false) (h:B):if c=true then A else B:=by subst hc;exact bx h
theorem cH {c:Bool} {A B:Prop} (hc:c=true) (h:A):if c=true then A else B:=by subst hc;exact aU h
structure RS where
 uV:Nat
 place:Nat
 w:Str->Int
 taken:Nat
 told:List Int
 word:Str
 uW:List Nat
def vO:Option Int->V
 | none=>.aO
 | some i=>.int i
theorem ab.put {H H':Hp} {l:Addr} {o:HO} (s:ab H H') (n:H l=none):ab H (upd H' l o):=fun c u e=>by rw [ao (aZ e n)];exact s c u e
section
variable {X:Cx} {C:Addr} {m x:Str} {k:Nat} {ps:List Str} {sp:Sp} {oe e:Expr} {es:List Expr} {ta:TE} {t:TA} {p pos apos:Pos}
end
section
variable {a0 a1 a2 a3 a4 a5 a6 a7 z:V}
end
section
variable {C:Addr} {H H':Hp} {p pl d nl sl:Addr} {plv:V} {nums:List Int} {S:RS} {m:Nat}
end
end L2
namespace HT
open PySem PyProof.Rows PySem.Spec
section
variable {prog:Program} {w:World} {A:Around} {E:Value->Shared->Prop} {s:Shared}
theorem gZ {t sl:Addr} {items:Array Value} {vl vu:Value} {lo hi:Option Int} {Q:Value->Shared->Prop} (ht:IsTup s.heap t items) (hs:s.heap.IsSliceOf sl vl vu .none) (pl:IsPart vl lo) (pu:IsPart vu hi)
  (hw:aH items.size 0 lo=0/\aH items.size items.size hi=items.size) (h:Q (.ref t) s):wpAny (model prog w) A (getItem (.ref t) (.ref sl)) Q E s:=by
 obtain⟨os,hos,hcs,hds⟩:=id hs
 have hTs:s.TypeIs (.ref sl) "slice" := ⟨os,hos,hcs⟩
 unfold getItem
 try with_reducible refine wpAny_holding ?_
 first | refine wpAny_bind (wpAny_pure ?_) | skip
 refine wpAny_bind (wpAny_sequenceKey ht.typeIs (by decide) ?_)
 refine wpAny_bind (wpAny_callSpecial?_slot (name:=Str.ofString "__getitem__") ht.typeIs PyProof.Rows.slot_tuple_getitem
  (wpAny_call_entry PyProof.Rows.slot_tuple_getitem ht.typeIs entry_tuple_getitem ?_ (args_tuple_getitem _ _)))
 show wpAny _ _ (Builtin.Tuple.tupleItemsOf (.ref t) >>= _) _ _ s
 refine wpAny_bind (tupleItemsOf_ ht ?_)
 refine wpAny_bind (wpAny_typeOf hTs ?_)
 rw [if_pos (by decide)]
 refine wpAny_bind (d7 hs pl pu ?_)
 have hno:((((aH items.size 0 lo:Nat):Int) == 0 && (1:Int) == 1 && (aH items.size items.size hi - aH items.size 0 lo) == items.size)=true):=by
  rw [hw.1,hw.2]
  simp
 show wpAny _ _ (if (((aH items.size 0 lo:Nat):Int) == 0 && (1:Int) == 1 && (aH items.size items.size hi - aH items.size 0 lo) == items.size)=true then _ else _) _ _ s
 rw [if_pos hno]
 refine wpAny_bind ?_
 unfold Builtin.Tuple.tupleIsExact
 refine wpAny_bind (wpAny_typeOf ht.typeIs (wpAny_pure ?_))
 rw [if_pos (by decide)]
 refine wpAny_bind (wpAny_rule ?_)
 first
  | exact wpAny_pure ⟨_,rfl,wpAny_pure h⟩
  | exact wpAny_bind (wpAny_pure (wpAny_pure ⟨_,rfl,wpAny_pure h⟩))
  | exact wpAny_pure (wpAny_pure ⟨_,rfl,wpAny_pure h⟩)
end
end HT
namespace L2
open PySem PySem.Spec PyProof.Rows
section
variable {X:Cx}
inductive tf (K:PySem.W.Frag) (x:V) (lo:Option Int) (hi:Option Int) (H:Hp) (Q:VK):Prop
 | mk (a xs:_) (_:x=.ref a) (_:aJ K H a xs) (_:((HT.aH xs.length 0 lo=0/\HT.aH xs.length xs.length hi=xs.length)->Q (.ref a) H)) (_:(¬ (HT.aH xs.length 0 lo=0/\HT.aH xs.length xs.length hi=xs.length)->∀ p,H p=none->Q (.ref p) (upd H p (.tup (cS xs lo hi)))))
theorem qD:ny X (tf X.K):=by
 intro pins s σ H x v vl vu lo hi sl Q I rx hs pl pu h
 obtain⟨a,xs,rfl,hx,q1,q2⟩:=h
 by_cases hw:HT.aH xs.length 0 lo=0/\HT.aH xs.length xs.length hi=xs.length
 ·cases rx
  obtain⟨its,r,ht,hz⟩:=I.tuple hx
  have hlen:its.toArray.size=xs.length:=by rw [List.size_toArray];exact r.length.symm
  refine⟨"tuple",_,PyProof.Rows.slot_tuple_getitem.lookup,ht.typeIs,?_⟩
  exact HT.gZ ht hs pl pu (by rw [hlen];exact hw) ⟨.ref a,H,I,rfl,q1 hw⟩
 ·exact rQ pins s σ H (.ref a) v vl vu lo hi sl Q I rx hs pl pu ⟨a,xs,rfl,hx,hw,q2 hw⟩
end
def pick (w:Str) (xs:List V) (ks:List Str):List V:=((xs.zip ks).filter fun p=>decide (p.2=w)).map (·.1)
def KTup (K:PySem.W.Frag) (a:Addr) (ks:List Str):Prop:=∃ (o:Obj) (its:Array Value) (n:Nat),K.lookup a=some o/\o.cls=.type "tuple" /\ o.data=.seq its n/\its.size<=sizeLine/\Vals (ks.map V.str) its.toList
structure oZ (K:PySem.W.Frag) (mg:Str->Option Value) (aE s0 s1 s2 s3:Addr):Prop where
 tab:oW K mg "END_PARTS" aE [("stop",s0),("go",s1),("less",s2),("is",s3)]
 q0:KTup K s0 []
 q1:KTup K s1 ["piece"]
 q2:KTup K s2 ["name", "number", "piece", "piece"]
 q3:KTup K s3 ["name", "number", "piece", "piece"]
section
variable {prog:Program} {w:World} {A:Around} {E:Value->Shared->Prop} {s:Shared}
end
section
variable {X:Cx}
end
section
variable {X:Cx}
end
end L2
namespace LS
open PySem
open PySem.Spec PyProof.Rows
section
variable {prog:Program} {w:World} {K:Type} [DecidableEq K] {knd:KeyKind prog w K}
variable {A:Around} {E:Value->Shared->Prop} {s:Shared}
variable {a:Addr} {ks:List K} {o:Obj} {es:Array (Int × Value)} {ep:Nat} {t:SetTable} {h h':Heap}
end
section
variable {prog:Program} {w:World} {A:Around} {E:Value->Shared->Prop} {s:Shared}
end
section
variable {prog:Program} {w:World} {K:Type} [DecidableEq K] {knd:KeyKind prog w K}
variable {A:Around} {E:Value->Shared->Prop} {s:Shared} {a:Addr} {ks:List K} {o:Obj} {es:Array (Int × Value)} {ep:Nat} {t:SetTable}
end
section
variable {prog:Program} {w:World} {K:Type} [DecidableEq K] {knd:KeyKind prog w K}
variable {A:Around} {E:Value->Shared->Prop} {s:Shared} {a I:Addr} {ks:List K} {o:Obj} {es:Array (Int × Value)} {ep:Nat} {t:SetTable}
end
open PySem.Calls PySem.W
section
variable {prog:Program} {w:World} {K:Type} [DecidableEq K] {knd:KeyKind prog w K}
variable {A:Around} {E:Value->Shared->Prop} {s:Shared} {a:Addr} {ks:List K} {o:Obj} {es:Array (Int × Value)} {ep:Nat} {t:SetTable}
end
end LS
namespace L2
open PySem PySem.Spec PyProof.Rows LS
section
variable {prog:Program} {w:World} {A:Around} {E:Value->Shared->Prop} {s:Shared} {a:Addr} {ks:List Key} {o:Obj} {es:Array (Int × Value)} {ep:Nat} {t:SetTable}
end
section
variable {X:Cx} {pins:List (Addr × Obj)} {σ : List (Option V)} {H:Hp} {s:Shared}
end
end L2
namespace LS
open PySem PySem.Spec PyProof.Rows L2
section
variable {K:Type} [DecidableEq K]
end
section
variable {prog:Program} {w:World} {A:Around} {E:Value->Shared->Prop} {s:Shared}
end
section
variable {prog:Program} {w:World} {A:Around} {E:Value->Shared->Prop} {s:Shared}
end
end LS
namespace L2
open PySem PySem.Spec PyProof.Rows LS
section
variable {X:Cx}
theorem Inv.uU {pins:List (Addr × Obj)} {σ : List (Option V)} {H:Hp} {s:Shared} {n:Nat} (I:Inv X pins σ H s):Inv X pins σ H { s with toks:=n }:=⟨I.ok,I.os,I.bare,I.base,I.loc,I.cell,I.free,I.cP,I.pin,I.ai,I.len⟩
variable {o e:Expr} {es:List Expr} {to:TE} {t:TA} {name:Str} {apos cpos:Pos} {id:String} {r:V->List V->Hp->VK->Prop}
end
structure mK (K:PySem.W.Frag) (mg:Str->Option Value) (aD d0 d1 d2 d3 d4:Addr):Prop where
 tab:oW K mg "DEED_PARTS" aD [("put",d0),("copy",d1),("add",d2),("read",d3),("tell",d4)]
 q0:KTup K d0 ["name", "number"]
 q1:KTup K d1 ["name", "name"]
 q2:KTup K d2 ["name", "number"]
 q3:KTup K d3 ["name"]
 q4:KTup K d4 ["name"]
theorem cv {k:Str} {d:Addr} {D:List (Str × Addr)}:KTD.datumAt k ((k,d) :: D)=some d:=by
 show (if decide (k=k)=true then some d else KTD.datumAt k D)=some d
 rw [if_pos (decide_eq_true rfl)]
theorem b0 {k x:Str} {d:Addr} {D:List (Str × Addr)} {o:Option Addr} (h:¬ k=x) (e:KTD.datumAt k D=o):KTD.datumAt k ((x,d) :: D)=o:=by
 show (if decide (k=x)=true then some d else KTD.datumAt k D)=o
 rw [if_neg (by rw [decide_eq_false h];decide)]
 exact e
section
variable {X:Cx}
end
section
variable {a0 a1 z:V}
end
section
variable {C D:Addr} {H H':Hp} {wp p pl d nl sl:Addr} {plv:V} {nums:List Int} {S:RS} {m:Nat}
end
section
variable (C D:Addr)
end
section
variable {C D:Addr} {H H':Hp} {wp p pl d nl sl st d2 tl bl np:Addr} {plv:V} {nums nums':List Int} {S S':RS} {m m':Nat}
end
section
variable (C D:Addr)
end
section
variable {C D:Addr} {H0 H H1 H2:Hp} {wp p pl d nl sl st st' d2 tl bl np b:Addr} {plv:V} {nums more:List Int} {S S':RS} {m m':Nat}
end
section
variable {X:Cx}
inductive tj  (x:V) (y:V) (H:Hp) (Q:VK):Prop
 | mk (a b xs ys:_) (_:x=.ref a) (_:y=.ref b) (_:H a=some (.tup xs)) (_:H b=some (.tup ys)) (_:xs.length+ys.length<=sizeLine) (_:∀ t H',H' t=some (.tup (xs++ys))->ab H H'->Q (.ref t) H')
theorem lW:bT X (binaryOp .Add) tj:=by
 intro pins s σ H x y v u Q I rx ry h
 obtain⟨a,b,xs,ys,rfl,rfl,ha,hb,hz,q⟩:=h
 cases rx
 cases ry
 obtain⟨its,r1,p1,_⟩:=I.tuple (aJ.of ha)
 obtain⟨its2,r2,p2,_⟩:=I.tuple (aJ.of hb)
 by_cases hx:xs = []
 ·subst hx
  have hi:its = []:=r1.i1.mpr rfl
  subst hi
  obtain⟨⟨cls,dd,data,sl⟩,ho,hc,n,hd⟩:=id p1
  obtain⟨⟨cls2,dd2,data2,sl2⟩,ho2,hc2,n2,hd2⟩:=id p2
  simp only at hc hd hc2 hd2
  subst hc hd hc2 hd2
  exact concat_meets ⟨_,ho,rfl⟩ ⟨_,ho2,rfl⟩ noFill_tuple_add seq_tuple_add PySem.F.slot_tuple_add PySem.F.entry_tuple_add (PySem.F.args_tuple_add_2 _ _)
   (tuple_addW0 a b [].toArray its2.toArray n n2 dd dd2 sl sl2 (by simp)) ⟨ho,ho2,⟨.ref b,H,I,rfl,q b H hb (ab.refl H)⟩⟩
 ·refine HT.qo p1 p2 (fun z=>hx (r1.i1.mp z)) (fun z=>⟨.ref a,H,I,rfl,q a H (by rw [r2.i1.mp z,List.append_nil];exact ha) (ab.refl H)⟩) (fun z=>?_) (by rw [<-r1.length,<-r2.length];exact hz)
  have fr:=I.ai.fresh (a:=s.heap.objs.size) (Nat.le_refl _)
  refine⟨.ref s.heap.objs.size,_,I.laid (t':=s.toks) (o:=.tup (xs++ys)) (fun b ob q=>Heap.get?_push_of_some _ q) (Nat.le_refl _) ?_,rfl,q _ _ U (ab.new fr)⟩
  exact⟨by rw [List.length_append];exact hz,_,r1.append r2,⟨_,Heap.get?_push_size _ rfl,rfl,_,rfl,rfl⟩⟩
end
section
variable {ps:List Piece} {nums more:List Int} {S S0:RS} {m n:Nat}
end
section
variable {ps:List Piece} {nums more:List Int} {S:RS} {m n:Nat}
end
inductive Call where
 | hand (ns:List Int)
 | go (n:Nat)
structure sk where
 S:RS
 nums:List Int
 m:Nat
structure WA where
 wp:Addr
 p:Addr
 pl:Addr
 d:Addr
 nl:Addr
 sl:Addr
section
variable {C D:Addr} {H H' H0:Hp} {x y:WA} {pv pv':V} {s s':sk} {c:Addr} {o:HO}
end
section
variable (C D:Addr)
end
section
variable {C D:Addr} {H0 H H1:Hp} {w0 w1 w2:WA} {wl cl nb:Addr} {plv ov:V} {x0 x1 x2 x':sk} {n0 n1 n':List Int} {vs:List V} {cs:List Call}
end
end L2
namespace PySem
section
variable {prog:Program} {w:World} {A:Around} {E:Value->Shared->Prop} {s:Shared}
end
end PySem
namespace PySem
section
variable {prog:Program} {w:World} {K:Type} [DecidableEq K] {knd:KeyKind prog w K} {A:Around} {s:Shared}
end
end PySem
namespace L2
open PySem PySem.Spec PyProof.Rows
theorem kh:∀ {xs:List V} {us:List Value} {j:Nat} {x:V},Vals xs us->xs[j]? = some x->∃ u,us[j]? = some u/\RelV x u
 | _,_,_,_,.nil,e=>by simp at e
 | _,_,0,_,.cons r _,e=>by
  cases (Option.some.inj e)
  exact⟨_,rfl,r⟩
 | _,_,j+1,x,.cons _ t,e=>by
  obtain⟨u,h1,h2⟩:=kh (j:=j) (x:=x) t (by simpa using e)
  exact⟨u,by simpa using h1,h2⟩
section
variable {X:Cx}
theorem all_range (bs:List Bool):((List.range bs.length).all fun i=>(bs[i]?).getD true)=bs.all id:=by
 rw [Bool.eq_iff_iff]
 simp only [List.all_eq_true,List.mem_range]
 constructor
 ·intro h b hb
  obtain⟨i,hi,rfl⟩:=List.getElem_of_mem hb
  have:=h i hi
  simpa [hi] using this
 ·intro h i hi
  have:=h bs[i] (List.getElem_mem hi)
  simpa [hi] using this
theorem eN (hc:X.calm=true):cm X (.builtin "all") (fun vs H Q=>∃ (p:Addr) (bs:List Bool),vs = [.ref p]/\ax X.K H p (bs.map V.bl)/\Q (.bl (bs.all id)) H):=by
 intro pins s σ H vs us Q I r h
 obtain⟨p,bs,rfl,hS,q⟩:=h
 obtain⟨u,rfl,ru⟩:=vals1 r
 cases (show u=Value.ref p from ru)
 obtain⟨its,rv,pl,hz⟩:=I.list hS
 have hl:=pl.isList
 have hlt:p < s.heap.objs.size:=by
  obtain⟨_,e,_⟩:=hl
  exact Heap.lt_size e
 have hsz:its.toArray.size=bs.length:=by
  have:=rv.length
  simp at this
  simp [this]
 refine call_all_walk (wpAny_pyIter_list hl ?_)
 refine⟨s.heap.objs.size,[s.heap.objs.size,p],[s.heap.objs.size],its.toArray.size,_,_,fun j=>(bs[j]?).getD true,rfl,Walks.list (A:=X.A.in1) (I.ok.hd hc) _ p (Nat.ne_of_lt hlt) its.toArray,
  ⟨⟨_,Heap.get?_push_size _ rfl,rfl,rfl⟩,hl.push _⟩,fun j v t Q' E' hP hQ=>?_,fun g tk hk=>?_⟩
 ·have hj:its[j]? = some v:=by simpa using hP
  have hjl:j < bs.length:=by
   have:=(List.getElem?_eq_some_iff.mp hj).1
   rw [<-rv.length,List.length_map] at this
   exact this
  have hb:bs[j]? = some bs[j]:=by simp [hjl]
  obtain⟨w',hw,rw'⟩:=kh (j:=j) (x:=V.bl bs[j]) rv (by rw [List.getElem?_map,hb];rfl)
  rw [hj] at hw
  cases hw
  cases (show v=Value.bool bs[j] from rw')
  have hQ':Q' ((bs[j]?).getD true) t:=hQ
  rw [hb] at hQ'
  exact wpAny_truthy_bool hQ'
 ·refine⟨.bl (bs.all id),H,?_,?_,q⟩
  ·refine I.kept (t':=tk) fun b o e=>hk b o (fun hm=>?_) (Heap.get?_push_of_some _ e)
   rw [List.mem_singleton.mp hm] at e
   exact Nat.lt_irrefl _ (Heap.lt_size e)
  ·show _=Value.bool (bs.all id)
   rw [hsz,all_range]
end
section
variable {X:Cx}
end
theorem iL:bootBuiltins "all" = some (.builtin "all"):=by decide +kernel
section
variable {C D:Addr} {H0 H H1:Hp} {w0 w1:WA} {plv:V} {x0 x1 x':sk}
end
open LS
section
variable {X:Cx}
end
section
variable {a0 a1 z:V}
end
section
variable {C r m d:Addr} {H H':Hp} {ms:List Nat}
end
section
variable (C:Addr)
end
theorem bW:∀ ds:List PyData,(∀ d ∈ ds,d.canLay0=true)->(PyData.tuple ds).canLay0=true
 | [],_=>rfl
 | d :: ds,h=>by
  have ih:=bW ds fun x hx=>h x (List.mem_cons_of_mem _ hx)
  show (d.canLay0 && (PyData.tuple ds).canLay0)=true
  rw [h d (List.mem_cons_self ..),ih]
  rfl
theorem gS {m:Nat}:∀ ds:List PyData,(∀ d ∈ ds,d.depth<=m)->PyData.depthAll ds<=m
 | [],_=>Nat.zero_le _
 | d :: ds,h=>by
  have ih:=gS ds fun x hx=>h x (List.mem_cons_of_mem _ hx)
  have h1:=h d (List.mem_cons_self ..)
  show max d.depth (PyData.depthAll ds)<=m
  omega
theorem o1 (d:eg):(ba d).depth<=1:=by cases d <;> exact Nat.le_refl 1
theorem qE (e:End):(b7 e).depth<=1:=by cases e <;> exact Nat.le_refl 1
theorem jq (p:Piece):(aW p).depth<=3:=by
 have h1:=gS (p.1.map ba) fun d hd=>by obtain⟨x,_,rfl⟩:=List.mem_map.mp hd;exact o1 x
 have h2:=qE p.2
 show max (PyData.depthAll (p.1.map ba)+1) (max (b7 p.2).depth 0)+1<=3
 omega
theorem cg {x:Str} (h:aX x):PyData.canLay0 (.str x)=true:=by
 show (x.cps.all fun c=>decide (c < 0x110000))=true
 rw [<-Array.all_toList,List.all_eq_true]
 intro c hc
 have:=h.az c hc
 exact decide_eq_true (by omega)
theorem o2 {xs:List Str} (hx:∀ x ∈ xs,aX x) {d:eg} (h:cE xs d):(ba d).canLay0=true:=by
 cases d with
 | put x n =>
  refine bW _ fun y hy=>?_
  rcases List.mem_cons.mp hy with rfl | hy
  ·decide +kernel
  rcases List.mem_cons.mp hy with rfl | hy
  ·exact cg (hx _ h.1)
  rw [List.mem_singleton.mp hy];rfl
 | copy x z =>
  refine bW _ fun y hy=>?_
  rcases List.mem_cons.mp hy with rfl | hy
  ·decide +kernel
  rcases List.mem_cons.mp hy with rfl | hy
  ·exact cg (hx _ h.1)
  rw [List.mem_singleton.mp hy];exact cg (hx _ h.2)
 | add x n =>
  refine bW _ fun y hy=>?_
  rcases List.mem_cons.mp hy with rfl | hy
  ·decide +kernel
  rcases List.mem_cons.mp hy with rfl | hy
  ·exact cg (hx _ h.1)
  rw [List.mem_singleton.mp hy];rfl
 | read x =>
  refine bW _ fun y hy=>?_
  rcases List.mem_cons.mp hy with rfl | hy
  ·decide +kernel
  rw [List.mem_singleton.mp hy];exact cg (hx _ h)
 | tell x =>
  refine bW _ fun y hy=>?_
  rcases List.mem_cons.mp hy with rfl | hy
  ·decide +kernel
  rw [List.mem_singleton.mp hy];exact cg (hx _ h)
theorem qF {xs:List Str} (hx:∀ x ∈ xs,aX x) {c:Nat} {e:End} (h:dJ xs c e):(b7 e).canLay0=true:=by
 cases e with
 | stop =>
  refine bW _ fun y hy=>?_
  rw [List.mem_singleton.mp hy];decide +kernel
 | go p =>
  refine bW _ fun y hy=>?_
  rcases List.mem_cons.mp hy with rfl | hy
  ·decide +kernel
  rw [List.mem_singleton.mp hy];rfl
 | kf b x n p q =>
  refine bW _ fun y hy=>?_
  rcases List.mem_cons.mp hy with rfl | hy
  ·cases b <;> decide +kernel
  rcases List.mem_cons.mp hy with rfl | hy
  ·exact cg (hx _ h.1)
  rcases List.mem_cons.mp hy with rfl | hy
  ·rfl
  rcases List.mem_cons.mp hy with rfl | hy
  ·rfl
  rw [List.mem_singleton.mp hy];rfl
def uB (ps:List Piece):Prop:=∀ p ∈ ps,(PyData.tuple (p.1.map ba)).canLay0=true/\(b7 p.2).canLay0=true
theorem o3 {xs:List Str} (hx:∀ x ∈ xs,aX x) {m:Nat} {ps:List Piece} (ok:gs xs m ps):uB ps:=fun p hp =>
 ⟨bW _ fun d hd=>by obtain⟨x,hx',rfl⟩:=List.mem_map.mp hd;exact o2 hx ((ok.mI p hp).2 x hx'),qF hx (ok.ends p hp)⟩
theorem sm {X:Cx} {K:PySem.W.Frag} {o e:Expr} {es:List Expr} {to:TE} {t:TA} {name:Str} {apos cpos:Pos} {T id:String} {r:V->List V->Hp->VK->Prop} (hK:X.K=K) (pa:PlainAttrs T) (slot:Slot T name id) (hty:typeOf (.builtin id)=pure (.type "method_descriptor")) (hm:lM X id r) (ho:PE X o to) (ha:PA X (e :: es) t)
  (hbase:attributeBase o name X.env (eval o X.env)=eval o X.env:=by rfl)
  (hfew:((backTo cpos (starEach (e :: es) X.env)).all (fun x=>!x.1) && (backToKw cpos (keywordEach [] X.env)).all (fun x=>x.1.isSome)
   && decide ((e :: es).length+([]:List Keyword).length+(if ([]:List Keyword).isEmpty then 0 else 1) < 30))=true:=by rfl)
  (hline:(apos.endLine == cpos.line)=true:=by rfl) (hs:starEach (e :: es) X.env=(false,eval e X.env) :: starEach es X.env:=by rfl) (hplain:(backTo cpos (starEach es X.env)).any (·.1)=false:=by rfl) :
  PE X (.Call (.Attribute o name apos) (e :: es) [] cpos) (tM K T r to t):=by
 subst hK
 exact b8 pa slot hty hm ho ha hbase hfew hline hs hplain
section
variable {X:Cx} {tg:Expr}
theorem nN:cm X (.type "int") (fun vs H Q=>∃ (x:Str) (n:Int),vs = [.str x]/\PySem.intText? x=some n/\x.length<=640/\Q (.int n) H):=by
 intro pins s σ H xs us Q I r h
 obtain⟨x,n,rfl,hn,hl,q⟩:=h
 obtain⟨u,rfl,t,rfl⟩:=vals1 r
 exact PySem.W.KIN.call_text hn hl ⟨.int n,H,I.uU,⟨_,rfl⟩,q⟩
theorem jD:lM X "str.startswith" (fun x vs H Q=>∃ a b:Str,x=.str a/\vs = [.str b]/\Q (.bl (Txt.startswith a b)) H):=by
 intro pins s σ H x vs v us Q I rx rv h
 obtain⟨a,b,rfl,rfl,q⟩:=h
 obtain⟨t,rfl⟩:=(show ∃ t,v=Value.str a t from rx)
 obtain⟨u,rfl,t',rfl⟩:=vals1 rv
 exact SC.startswith ⟨.bl _,H,I,rfl,q⟩
theorem eO:bT X (compareOp .LtE) (fun x y H Q=>∃ i j,x=.str i/\y=.str j/\Q (.bl (!decide (j.cps.toList < i.cps.toList))) H):=by
 intro pins s σ H x y v u Q I rx ry h
 obtain⟨i,j,rfl,rfl,q⟩:=h
 obtain⟨t,rfl⟩:=rx
 obtain⟨t',rfl⟩:=ry
 exact P.le_str (aN I q rfl)
inductive uC  (x:V) (lo:Option Int) (hi:Option Int) (H:Hp) (Q:VK):Prop
 | mk (a:Str) (_:x=.str a) (_:a.length<=1000000) (_:Q (.str (Txt.slice a lo hi)) H)
theorem so:ny X uC:=by
 intro pins s σ H x v vl vu lo hi sl Q I rx hs pl pu h
 obtain⟨a,rfl,ha,q⟩:=h
 obtain⟨t,rfl⟩:=(show ∃ t,v=Value.str a t from rx)
 refine⟨"str",_,F.slot_str_getitem.lookup,typeIs_str _ _ _,?_⟩
 have hz:∀ l u,(Txt.slice a l u).length<=sizeLine:=fun l u=>Nat.le_trans (Txt.slice_le a _ _) (Nat.le_of_lt (cX ha))
 cases pl with
 | none=>cases pu with
  | none=>exact wpAny_getItem_str_slice (l:=none) (u:=none) (st:=none) hs rfl (post_val_or_str ⟨hz _ _,fun t' k=>⟨.str _,H,I.tok k,⟨_,rfl⟩,q⟩⟩)
  | int j uj=>exact wpAny_getItem_str_slice (l:=none) (u:=some (j,uj)) (st:=none) hs rfl (post_val_or_str ⟨hz _ _,fun t' k=>⟨.str _,H,I.tok k,⟨_,rfl⟩,q⟩⟩)
 | int i ui=>cases pu with
  | none=>exact wpAny_getItem_str_slice (l:=some (i,ui)) (u:=none) (st:=none) hs rfl (post_val_or_str ⟨hz _ _,fun t' k=>⟨.str _,H,I.tok k,⟨_,rfl⟩,q⟩⟩)
  | int j uj=>exact wpAny_getItem_str_slice (l:=some (i,ui)) (u:=some (j,uj)) (st:=none) hs rfl (post_val_or_str ⟨hz _ _,fun t' k=>⟨.str _,H,I.tok k,⟨_,rfl⟩,q⟩⟩)
def sr (x:Str):It:=⟨fun i _=>i < x.cps.size,fun i H v H'=>H' = H/\∃ c,x.cps[i]? = some c/\v=.str ⟨#[c]⟩,fun i _=>i=x.cps.size⟩
theorem ki {P:Program} {w:World} {K:PySem.W.Frag} {tg:Expr} {ty:String} (it:Addr) (x:Str) (t:Tok) (hn:["enumerate", "zip", "dict_itemiterator", "dict_reverseitemiterator", "odict_iterator", "itertools.zip_longest", "itertools.pairwise"].contains ty=false)
  (W:∀ A:Around,A.handled=none->Walks P w A it [it] [it] x.cps.size (SignAt x) (fun i h=>h.IsStrIter it ty x t i))
  (S:∀ (A:Around) (i:Nat) (s:Shared) (Q:Value->Shared->Prop) (E:Value->Shared->Prop),s.heap.IsStrIter it ty x t i->Q (.ref it) s->wpAny (model P w) A (pyIter (.ref it)) Q E s):Turn P w K tg (sr x) [it] it (fun i h=>h.IsStrIter it ty x t i) where
 mem:=by simp
 obj:=fun i h st b hb=>by
  have e:b=it:=by simpa using hb
  subst e
  obtain⟨o,e,c,d⟩:=st
  exact⟨o,e,fun v z=>by rw [d] at z;cases z⟩
 keep:=fun i h h' st k=>by
  obtain⟨o,e,r⟩:=st
  exact⟨o,k it (by simp) o e,r⟩
 item:=by
  intro X hP hw hK hc i pins s σ H E I hf st hg
  subst hP hw hK
  obtain⟨f0,f1,f2,f3,f4,f5⟩:=hf it (by simp)
  refine (W X.A (I.ok.hd hc)).item i s _ _ hg st fun v h' tk hv st' kk=>?_
  obtain⟨c,u,hc',rfl⟩:=hv
  have I1:Inv X pins σ H { s with heap:=h',toks:=tk }:=I.turned (fun b o hb e=>kk b o (by simpa using hb) e) f0 f1 f3 f4 f5
  obtain⟨o,e,c1,d⟩:=id st'
  exact⟨_,rfl,jK (s:={ s with heap:=h',toks:=tk }) e c1 d hn ⟨.str ⟨#[c]⟩,H,I1,⟨u,rfl⟩,⟨rfl,c,hc',rfl⟩,st',fun b hb=>(hf b hb).1⟩⟩
 done:=by
  intro X hP hw hK hc i pins s σ H E I hf st hg
  subst hP hw hK
  obtain⟨f0,f1,f2,f3,f4,f5⟩:=hf it (by simp)
  cases (show i=x.cps.size from hg)
  exact (W X.A (I.ok.hd hc)).done s _ _ st fun h' tk kk=>⟨rfl,I.turned (fun b o hb e=>kk b o (by simpa using hb) e) f0 f1 f3 f4 f5⟩
 self:=fun A i s Q E st h=>S A i s Q E st h
def uD (tl:TE):TI:=fun σ H R=>tl σ H fun v H1=>∃ x:Str,v=.str x/\R (sr x) H1
theorem nO {l:Expr} {tl:TE} (hl:PE X l tl):PI X tg l (uD tl):=by
 intro pins s σ H R I h
 refine aB (hl pins s σ H _ I h) fun v s1 ⟨x,H1,I1,r1,q1⟩=>?_
 obtain⟨z,rfl,q⟩:=q1
 obtain⟨t,rfl⟩:=(show ∃ t,v=Value.str z t from r1)
 cases ha:z.cps.all (· < 128)
 ·refine wpAny_pyIter_wide ha ?_
  refine⟨s1.heap.objs.size,[s1.heap.objs.size],_,_,H1,rfl,I1.kept (t':=s1.toks) fun b o e=>Heap.get?_push_of_some _ e,ki _ z t (ty := "str_iterator") (by decide) (fun A hA=>Walks.strWide hA _ z t) (fun _ _ _ _ _ st h=>wpAny_pyIter_striter_wide st h),⟨_,Heap.get?_push_size _ rfl,rfl,rfl⟩,fun b hb=>?_,q⟩
  have e:b=s1.heap.objs.size:=by simpa using hb
  subst e
  exact I1.eS (Nat.le_refl _) (I1.ai.fresh (Nat.le_refl _))
 ·refine wpAny_pyIter_ascii ha ?_
  refine⟨s1.heap.objs.size,[s1.heap.objs.size],_,_,H1,rfl,I1.kept (t':=s1.toks) fun b o e=>Heap.get?_push_of_some _ e,ki _ z t (ty := "str_ascii_iterator") (by decide) (fun A hA=>Walks.strAscii hA _ z t) (fun _ _ _ _ _ st h=>wpAny_pyIter_striter_ascii st h),⟨_,Heap.get?_push_size _ rfl,rfl,rfl⟩,fun b hb=>?_,q⟩
  have e:b=s1.heap.objs.size:=by simpa using hb
  subst e
  exact I1.eS (Nat.le_refl _) (I1.ai.fresh (Nat.le_refl _))
theorem nP {acc:Addr} {x:Str} {n:Nat} {js:List Nat} {g:TG} {ct:TT} {te:TE} {σ : St} {H1:Hp} {Q:VK} (Pv:Nat->List V->St->Hp->Prop) (h0:Pv 0 [] (fT n js σ) (upd H1 acc (.lst [])))
  (hl:∀ i ys τ H,i<=x.cps.size->Pv i ys τ H->H acc=some (.lst ys)/\ys.length < sizeLine)
  (hs:∀ i c ys τ H,x.cps[i]? = some c->Pv i ys τ H->g (.str ⟨#[c]⟩) τ H fun τ1 H4=>ct τ1 H4 fun b H5=>if b=true then te τ1 H5 fun y H6=>H6 acc=some (.lst ys)/\Pv (i+1) (ys ++ [y]) τ1 (upd H6 acc (.lst (ys ++ [y]))) else Pv (i+1) ys τ1 H5)
  (hd:∀ ys τ H,Pv x.cps.size ys τ H->Q (.ref acc) H) :
  jo (sr x) n js g ct te acc σ H1 Q:=by
 refine⟨fun i m ys τ H=>m=x.cps.size - i/\i<=x.cps.size/\Pv i ys τ H,⟨x.cps.size,by simp,Nat.zero_le _,h0⟩,?_⟩
 rintro i m ys τ H ⟨rfl,hi,p⟩
 obtain⟨q2,q3⟩:=hl i ys τ H hi p
 refine⟨q2,q3,?_⟩
 by_cases hlt:i < x.cps.size
 ·refine .inr ⟨hlt,Pv (i+1),fun ys' τ' H' p'=>⟨x.cps.size - (i+1),by omega,rfl,hlt,p'⟩,fun v H' y=>?_⟩
  obtain⟨e,c,hc,rfl⟩:=y
  subst e
  exact hs i c ys τ _ hc p
 ·have e:i=x.cps.size:=by omega
  subst e
  exact .inl ⟨rfl,hd ys τ H p⟩
end
open PySem.Builtin.Str PySem.Builtin PySem.StrLaws PySem.NumText
def sg (x:Str):List Nat:=x.cps.toList
theorem kj {x y:Str} (h:sg x=sg y):x=y:=by
 obtain⟨a⟩:=x
 obtain⟨b⟩:=y
 exact congrArg Str.mk (Array.toList_inj.mp h)
theorem aG (x:Str):(sg x).length=x.length:=Array.length_toList
theorem o4 (x:Str) (l u:Option Int):Txt.slice x l u=sliceText x l u:=rfl
theorem qG {x:Str} {i:Nat} (h:i<=x.length):sg (Txt.slice x (some (i:Int)) none)=(sg x).drop i:=by
 have hl:=aG x
 rw [o4,sliceText_from ⟨by omega,by show (i:Int)<=((sg x).length:Nat);omega⟩]
 show ((sg x).drop (i:Int).toNat).take _=_
 rw [Int.toNat_natCast]
 refine List.take_of_length_le ?_
 rw [List.length_drop]
 show _<=(((sg x).length:Int) - (i:Int)).toNat
 omega
structure lX (m:Nat) (x:Str):Prop where
 cZ:x.length<=m
 ok:∀ c ∈ sg x,c < 0x110000
theorem lX.lay {m:Nat} {x:Str} (h:lX m x):PyData.canLay0 (.str x)=true:=by
 show (x.cps.all fun c=>decide (c < 0x110000))=true
 rw [<-Array.all_toList,List.all_eq_true]
 exact fun c hc=>decide_eq_true (h.ok c hc)
def b1 (c:Nat):Bool:=decide (48<=c) && decide (c<=57)
def di:List Nat->List Nat
 | 45 :: r=>r
 | l=>l
def cY (x:Str):Bool:=decide (1<=(di (sg x)).length) && (decide ((di (sg x)).length<=40) && ((di (sg x)).all b1 && !(decide ((di (sg x)).head? = some 48) && decide (x ≠ "0"))))
def fo (x:Str):Option Int:=if cY x=true then PySem.intText? x else none
theorem nQ (x:Str):Txt.startswith x "-" = decide ((sg x).head? = some 45):=by
 obtain⟨⟨cs⟩⟩:=x
 cases cs with
 | nil=>rfl
 | cons c r =>
  show (decide (0+1<=(c :: r).length) && ((c :: r).toArray.extract 0 (0+1) == #[45]))=_
  have e:(c :: r).toArray.extract 0 (0+1) = #[c]:=by simp
  rw [e]
  show (decide (0+1<=r.length+1) && (#[c] == #[45]))=decide (some c=some 45)
  rw [decide_eq_true (by omega:0+1<=r.length+1),Bool.true_and]
  by_cases h:c=45
  ·subst h;rfl
  ·rw [decide_eq_false (fun z=>h (Option.some.inj z))]
   simp [h]
theorem ib {l:List Nat} (h:l.head? = some 45):l=45 :: di l:=by
 cases l with
 | nil=>cases h
 | cons c r=>cases h;rfl
theorem fE {l:List Nat} (h:¬ l.head? = some 45):di l=l:=by
 cases l with
 | nil=>rfl
 | cons c r =>
  unfold di
  split
  ·next e=>injection e with e1 e2;subst e1;exact absurd rfl h
  ·rfl
theorem good_reads {x:Str} (hl:x.length<=640) (h:cY x=true):∃ n,PySem.intText? x=some n:=by
 unfold cY at h
 rw [Bool.and_eq_true,Bool.and_eq_true,Bool.and_eq_true] at h
 obtain⟨h1,h2,h3,h4⟩:=h
 have hd:∀ c ∈ di (sg x),48<=c/\c<=57:=fun c hc=>by
  have:=List.all_eq_true.mp h3 c hc
  unfold b1 at this
  rw [Bool.and_eq_true] at this
  exact⟨of_decide_eq_true this.1,of_decide_eq_true this.2⟩
 have hne:di (sg x) ≠ []:=fun z=>by rw [z] at h1;cases h1
 by_cases hm:(sg x).head? = some 45
 ·exact⟨_,intText_neg (ib hm) hd hne (by omega)⟩
 ·rw [fE hm] at hd hne
  exact⟨_,intText_digits hd hne (by omega)⟩
inductive nR  (vs:List V) (H:Hp) (Q:VK) (_:XK):Prop
 | mk (x:Str) (_:vs = [.str x]) (_:lX 600 x) (_:∀ H',ab H H'->Q (vO (fo x)) H')
theorem le_0 (c:Nat):(!decide ((⟨#[c]⟩:Str).cps.toList < ("0" : Str).cps.toList))=decide (48<=c):=by
 have e:("0" : Str).cps.toList = [48]:=by decide +kernel
 rw [e]
 show (!decide ([c] < [48]))=_
 by_cases h:48<=c
 ·rw [decide_eq_true h,decide_eq_false (fun z=>by rw [List.cons_lt_cons_iff] at z;rcases z with z | ⟨_,z⟩;omega;cases z)];rfl
 ·rw [decide_eq_false h,decide_eq_true (List.cons_lt_cons_iff.mpr (.inl (by omega)))];rfl
theorem uE (c:Nat):(!decide (("9" : Str).cps.toList < (⟨#[c]⟩:Str).cps.toList))=decide (c<=57):=by
 have e:("9" : Str).cps.toList = [57]:=by decide +kernel
 rw [e]
 show (!decide ([57] < [c]))=_
 by_cases h:c<=57
 ·rw [decide_eq_true h,decide_eq_false (fun z=>by rw [List.cons_lt_cons_iff] at z;rcases z with z | ⟨_,z⟩;omega;cases z)];rfl
 ·rw [decide_eq_false h,decide_eq_true (List.cons_lt_cons_iff.mpr (.inl (by omega)))];rfl
theorem qH {x f:Str} (hf:sg f=di (sg x)):cY x=(decide (1<=f.length) && (decide (f.length<=40) && ((sg f).all b1 && !(decide ((sg f).head? = some 48) && decide (x ≠ "0"))))):=by
 unfold cY
 rw [<-hf,aG]
theorem sv {f:Str} (h:1<=f.length):∃ c,(sg f).head? = some c/\cy f.cps.toList 0=some c:=by
 have hl:=aG f
 cases e:sg f with
 | nil=>rw [e] at hl;simp at hl;omega
 | cons c r=>exact⟨c,rfl,bJ (j:=0) (by show (sg f)[0]? = some c;rw [e];rfl)⟩
theorem o5 (c:Nat):decide (V.str ⟨#[c]⟩=V.str "0")=decide (c=48):=by
 have e:("0" : Str)=⟨#[48]⟩:=by decide +kernel
 rw [e]
 by_cases h:c=48
 ·subst h;rw [decide_eq_true rfl,decide_eq_true rfl]
 ·rw [decide_eq_false h,decide_eq_false (fun z=>h (by injection z with z;injection z with z;injection z with z;injection z))]
theorem lY:∀ ds:List PyData,(∀ d ∈ ds,d.canLay0=true)->(PyData.list ds).canLay0=true
 | [],_=>rfl
 | d :: ds,h=>by
  have ih:=lY ds fun x hx=>h x (List.mem_cons_of_mem _ hx)
  show (d.canLay0 && (PyData.list ds).canLay0)=true
  rw [h d (List.mem_cons_self ..),ih]
  rfl
section
variable {P:Program} {w:World} {K:PySem.W.Frag} {mg:Str->Option Value} {base h:Heap} {x q m:Str} {st:Stmt} {f C:Addr} {fd:FuncData} {k:Nat} {ps:List Str} {sp:Sp}
structure bg (K:PySem.W.Frag) (x:Str) (st:Stmt) (f:Addr) (fd:FuncData):Prop where
 a:PySem.W.nsIn K mainGlobals x=some (some (.ref f))
 F:bN K x x st f fd
section
variable {oc:Value} {od an:Option Addr} {osl:Array (Option Value)} {kV doc pm cdv ct:Value}
theorem def_mk (a:PySem.W.nsIn K mainGlobals x=some (some (.ref f))) (l:K.lookup f=some ⟨oc,od,.func (PySem.W.fnOf x x (bV st) (bS st) (ah st) .none kV doc pm an cdv ct),osl⟩)
  (c:PySem.W.codeIn K cdv x=true) (k:PySem.W.keepIn K (.ref f)=true):bg K x st f (PySem.W.fnOf x x (bV st) (bS st) (ah st) .none kV doc pm an cdv ct):=⟨a,rW l c k⟩
end
def jO (x q:Str) (st:Stmt) (ps:List Str):Prop:=∀ (kV doc pm:Value) (an:Option Addr) (cdv ct:Value) (us:List Value),us.length=ps.length->bindArgs (PySem.W.fnOf x q (bV st) (bS st) (ah st) .none kV doc pm an cdv ct) ⟨us,[]⟩=pure (ps.zip us)
theorem aY (P:Program) (w:World) (base:Heap) (X:K.In h) (G:h.Ns mainGlobals mg) (d:bg K x st f fd) (o:bf P w K mg base bK k f fd ps sp) (b:jO x x st ps):Own P w K mg base x k ps sp:=⟨⟨_,_,o,PySem.W.mg_of X G d.a,d.F.kp,d.F.binds b⟩⟩
section
variable {p1 p2 p3 p4 p5 p6:Str}
theorem eQ (h:∀ (kV doc pm:Value) (an:Option Addr) (cdv ct u1:Value),bindArgs (PySem.W.fnOf x q (bV st) (bS st) (ah st) .none kV doc pm an cdv ct) ⟨[u1],[]⟩=pure [(p1,u1)]):jO x q st [p1]:=fun _ _ _ _ _ _ us hl=>match us,hl with | [_],_=>h ..
theorem lZ (h:∀ (kV doc pm:Value) (an:Option Addr) (cdv ct u1 u2:Value),bindArgs (PySem.W.fnOf x q (bV st) (bS st) (ah st) .none kV doc pm an cdv ct) ⟨[u1,u2],[]⟩=pure [(p1,u1),(p2,u2)]):jO x q st [p1,p2]:=fun _ _ _ _ _ _ us hl=>match us,hl with | [_,_],_=>h ..
theorem nS (h:∀ (kV doc pm:Value) (an:Option Addr) (cdv ct u1 u2 u3:Value),bindArgs (PySem.W.fnOf x q (bV st) (bS st) (ah st) .none kV doc pm an cdv ct) ⟨[u1,u2,u3],[]⟩=pure [(p1,u1),(p2,u2),(p3,u3)]):jO x q st [p1,p2,p3]:=fun _ _ _ _ _ _ us hl=>match us,hl with | [_,_,_],_=>h ..
end
end
theorem bY {N ps:List Str} {sc:Scope} (h1:sc.kind=.function:=by rfl) (h2:sc.isCoroutine=false:=by rfl) (h3:sc.isGenerator=false:=by rfl) (h4:N.Nodup:=by decide +kernel) (h5:N.take ps.length=ps:=by rfl) (h6:∀ x ∈ ps,sc.names.lookup x=some .local\/sc.names.lookup x=some .cell:=by decide +kernel) (h7:∀ y ∈ sc.names,y.2 ≠ .free:=by decide +kernel):aC N ps sc:=⟨h1,h2,h3,h4,h5,h6,h7⟩
theorem aw {X:Cx} {x:Str} {k m:Nat} {ps:List Str} {sp:Sp} {e:Expr} {es:List Expr} {t:TA} {p pos:Pos} (o:Own X.prog X.w X.K X.mg X.base x k ps sp) (hr:bZ m X.A) (ha:PA X (e :: es) t) (hk:k<=m:=by decide) (hg:Gl X x:=by rfl)
  (hdb:(x == ("__debug__" : Str))=false:=by decide) (he:starEach (e :: es) X.env=(false,eval e X.env) :: starEach es X.env:=by rfl) (hpl:(backTo pos (starEach es X.env)).any (·.1)=false:=by rfl):PE X (.Call (.Name x p) (e :: es) [] pos) (mC sp [] E0 t):=rX o (hr.mono hk) hg ha hdb he hpl
theorem bh {X:Cx} {i:Nat} {x:Str} {e:Expr} {te:TE} {pos pos':Pos} (hN:X.N.Nodup) (he:PE X e te) (hi:X.N[i]? = some x:=by rfl) (hx:Loc X.env.scope x:=by first | exact Or.inl rfl | exact Or.inr rfl) (hs:swapsWith e (some (.Name x pos')) pos.line X.env=pure false:=by rfl) (hf:X.fn x=true\/X.env.scope.names.lookup x=some .local:=by first | exact .inl rfl | exact .inr rfl | assumption) :
  PS X (.Assign [.Name x pos'] e pos) (mw te (gN i)):=rE hN hi hx he hs hf
theorem bc {X:Cx} {i:Nat} {x:Str} {pos:Pos} (hN:X.N.Nodup) (hi:X.N[i]? = some x:=by rfl) (hx:Loc X.env.scope x:=by first | exact Or.inl rfl | exact Or.inr rfl) (hf:X.fn x=true\/X.env.scope.names.lookup x=some .local:=by first | exact .inl rfl | exact .inr rfl | assumption):PG X (.Name x pos) (gN i):=qh hN hi hx hf
theorem aT {X:Cx} {a b:Expr} {ta tb:TE} {pos:Pos} {r:R2} (hr:nz X r) (ha:PE X a ta) (hb:PE X b tb) (hs:lL b:=by exact fun _ _=>rfl):PE X (.Subscript a b pos) (nc r ta tb):=sV hr ha hb hs
theorem au {X:Cx} {e1:Expr} {t1:TE} (h1:PE X e1 t1) (s1:starEach [e1] X.env=(false,eval e1 X.env) :: starEach [] X.env:=by rfl):PA X [e1] (fA t1 mz):=(br h1 d6 s1)
theorem aL {X:Cx} {e1 e2:Expr} {t1 t2:TE} (h1:PE X e1 t1) (h2:PE X e2 t2) (s1:starEach [e1,e2] X.env=(false,eval e1 X.env) :: starEach [e2] X.env:=by rfl) (s2:starEach [e2] X.env=(false,eval e2 X.env) :: starEach [] X.env:=by rfl):PA X [e1,e2] (fA t1 (fA t2 mz)):=(br h1 (br h2 d6 s2) s1)
theorem eT {X:Cx} {e1 e2 e3:Expr} {t1 t2 t3:TE} (h1:PE X e1 t1) (h2:PE X e2 t2) (h3:PE X e3 t3) (s1:starEach [e1,e2,e3] X.env=(false,eval e1 X.env) :: starEach [e2,e3] X.env:=by rfl) (s2:starEach [e2,e3] X.env=(false,eval e2 X.env) :: starEach [e3] X.env:=by rfl) (s3:starEach [e3] X.env=(false,eval e3 X.env) :: starEach [] X.env:=by rfl):PA X [e1,e2,e3] (fA t1 (fA t2 (fA t3 mz))):=(br h1 (br h2 (br h3 d6 s3) s2) s1)
section
variable {prog:Program} {w:World} {A:Around} {E:Value->Shared->Prop} {s:Shared}
theorem o6 {Q:Int->Shared->Prop} (h:∀ n tk,Q n { s with toks:=tk }):wpAny (model prog w) A (pyHash .none) Q E s:=by
 show wpAny _ _ (pyHashByItsType .none) _ _ _
 exact PySem.W.pyHash_slot (T := "NoneType") rfl PySem.F.slot_NoneType_hash PySem.F.entry_NoneType_hash (PySem.F.args_NoneType_hash_1 _) (by decide) (.inl rfl) (wpAny_bind (wpAny_pure (wpAny_bind (wpAny_mkInt (wpAny_pure ⟨_,_,rfl,h _ _⟩)))))
theorem o7 {d:Addr} {o:Obj} {es:Array DictEntry} {ep:Nat} {hsh:Int} {Q:Option Nat->Shared->Prop} (ho:s.heap.get? d=some o) (hd:o.data=.dict es ep) (hall:∀ e ∈ es,∃ x t,e.key=.str x t) (h:Q none s):wpAny (model prog w) A (dictFind d .none hsh) Q E s:=by
 have hv:((Value.none :: (placesWithHash es.size (fun i=>es[i]?.map (·.hash)) hsh).filterMap fun i=>es[i]?.map (·.key)).all carriedByValue)=true:=by
  refine List.all_eq_true.mpr fun v hv=>?_
  rcases List.mem_cons.mp hv with rfl | hv
  ·rfl
  ·obtain⟨i,_,hi⟩:=List.mem_filterMap.mp hv
   obtain⟨e,he,rfl⟩:=Option.map_eq_some_iff.mp hi
   obtain⟨x,t,ek⟩:=hall e (Array.mem_of_getElem? he)
   rw [ek]
   rfl
 unfold dictFind
 try with_reducible refine wpAny_holding ?_
 refine wpAny_bind (wpAny_dictEntries ho hd ?_)
 dsimp only
 rw [if_pos hv]
 unfold dictWalkPlain
 refine wpAny_bind (wpAny_forIn_list _ (fun _ b s'=>s' = s/\b=(none,())) _ ?_ ?_ _ _ ⟨rfl,rfl⟩)
 ·rintro i rest b s' ⟨rfl,rfl⟩
  cases he:es[i]? with
  | none=>exact wpAny_pure ⟨rfl,rfl⟩
  | some e =>
   obtain⟨x,t,ek⟩:=hall e (Array.mem_of_getElem? he)
   dsimp only
   by_cases hh:(e.hash == hsh)=true
   ·rw [if_pos hh,ek]
    refine wpAny_bind (wpAny_dictEpoch ho hd (wpAny_bind (SeqAt.EqAt.str_none x t prog w E _ (wpAny_bind (wpAny_dictEpoch ho hd ?_)))))
    show wpAny _ _ (if (ep != ep)=true then _ else _) _ E _
    rw [if_neg (by simp)]
    exact wpAny_bind (wpAny_rule (wpAny_pure ⟨rfl,rfl⟩))
   ·rw [if_neg hh]
    exact wpAny_pure ⟨rfl,rfl⟩
 ·rintro b s' ⟨rfl,rfl⟩
  exact wpAny_pure h
theorem km {a:Addr} {o:Obj} {es:Array DictEntry} {ep:Nat} {k:Str} {t:Tok} {D:List (Str × Addr)} {Q:Option Value->Shared->Prop} (ho:s.heap.get? a=some o) (hd:o.data=.dict es ep)
  (hr:KTD.Rows (fun d v=>v=Value.ref d) es.toList D) (ha:KTD.datumAt k D=none) (q:Q none { s with toks:=s.toks+1 }):wpAny (model prog w) A (dictGet a (.str k t)) Q E s:=by
 unfold dictGet
 try with_reducible refine wpAny_holding ?_
 refine wpAny_bind (wpAny_pyHash_str (wpAny_bind (KTD.kt_dictFind_strs (s:={ s with toks:=s.toks+1 }) ho hd (by have:=hr.exact;obtain⟨l⟩:=es;simpa using this) ?_)))
 have hq:Q (findBy (fun k v=>v.isStr k) es k) { s with toks:=s.toks+1 }:=by
  have e:findBy (fun k v=>v.isStr k) es k=none:=by
   rw [<-hr.find_none ha]
   obtain⟨l⟩:=es
   simp [findBy]
  rw [e]
  exact q
 rw [findBy_of_findIdx?] at hq
 cases hi:es.findIdx? fun e=>e.key.isStr k with
 | some i=>rw [hi] at hq;exact wpAny_bind (wpAny_dictEntries (s:={ s with toks:=s.toks+1 }) ho hd (wpAny_pure hq))
 | none=>rw [hi] at hq;exact wpAny_pure hq
theorem nT {R:Addr->Value->Prop} {es:List DictEntry} {D:List (Str × Addr)} (h:KTD.Rows R es D):∀ e ∈ es,∃ x t,e.key=.str x t:=by
 induction h with
 | nil=>exact fun _ h=>nomatch h
 | cons hk _ _ ih =>
  intro e he
  rcases List.mem_cons.mp he with rfl | he
  ·exact⟨_,_,hk⟩
  ·exact ih e he
theorem kT {a:Addr} {o:Obj} {es:Array DictEntry} {ep:Nat} {D:List (Str × Addr)} {Q:Option Value->Shared->Prop} (ho:s.heap.get? a=some o) (hd:o.data=.dict es ep)
  (hr:KTD.Rows (fun d v=>v=Value.ref d) es.toList D) (q:∀ tk,Q none { s with toks:=tk }):wpAny (model prog w) A (dictGet a .none) Q E s:=by
 unfold dictGet
 try with_reducible refine wpAny_holding ?_
 exact wpAny_bind (o6 fun n tk=>wpAny_bind (o7 (s:={ s with toks:=tk }) ho hd (fun e he=>nT hr e (Array.mem_toList_iff.mpr he)) (wpAny_pure (q tk))))
def tabAt (D:List (Str × Addr)):V->Option (Option Addr)
 | .str x=>some (KTD.datumAt x D)
 | .aO=>some none
 | _=>none
def gu:Option Addr->V
 | some d=>.ref d
 | none=>.aO
theorem o8 {a:Addr} {o:Obj} {es:Array DictEntry} {ep:Nat} {D:List (Str × Addr)} {y:V} {u:Value} {r:Option Addr} {Q:Value->Shared->Prop} (ty:s.TypeIs (.ref a) "dict") (hs:(a == sysModules)=false) (ho:s.heap.get? a=some o) (hd:o.data=.dict es ep)
  (hr:KTD.Rows (fun d v=>v=Value.ref d) es.toList D) (ry:RelV y u) (ha:tabAt D y=some r) (q:∀ v tk,RelV (gu r) v->Q v { s with toks:=tk }):wpAny (model prog w) A (call (.builtin "dict.get") [.ref a,u]) Q E s:=by
 refine wpAny_call_entry PySem.F.slot_dict_get ty PySem.F.entry_dict_get ?_ (PySem.F.args_dict_get_2 _ _)
 show wpAny _ _ (dictGet a u >>= _) _ _ s
 cases y with
 | str x =>
  obtain⟨t,rfl⟩:=(show ∃ t,u=Value.str x t from ry)
  cases hx:KTD.datumAt x D with
  | some d =>
   obtain rfl:some d=r:=by simpa [tabAt,hx] using ha
   exact wpAny_bind (oX ho hd hr hx (wpAny_pure ⟨_,rfl,q _ _ rfl⟩))
  | none =>
   obtain rfl:none=r:=by simpa [tabAt,hx] using ha
   refine wpAny_bind (km ho hd hr hx ?_)
   show wpAny _ _ (Builtin.Dict.missed a _ >>= _) _ _ _
   exact wpAny_bind (wpAny_missed_other hs (wpAny_pure ⟨.none,rfl,q _ _ rfl⟩))
 | aO =>
  cases (show u=Value.none from ry)
  obtain rfl:none=r:=by simpa [tabAt] using ha
  refine wpAny_bind (kT ho hd hr fun tk=>?_)
  show wpAny _ _ (Builtin.Dict.missed a _ >>= _) _ _ _
  exact wpAny_bind (wpAny_missed_other hs (wpAny_pure ⟨.none,rfl,q _ _ rfl⟩))
 | _=>cases ha
end
section
variable {X:Cx}
inductive tm (D:List (Str × Addr)) (ty:TE) (σ : St) (H:Hp) (Q:VK):Prop
 | mk (_:ty σ H fun y H1=>∃ r,tabAt D y=some r/\Q (gu r) H1)
theorem jr {nm:Str} {a:Addr} {D:List (Str × Addr)} {e:Expr} {p apos cpos:Pos} {ty:TE} (G:oW X.K X.mg nm a D) (hs:(a == sysModules)=false) (hg:Gl X nm) (he:PE X e ty) (m:M1 X (.Name nm p) "get" apos e cpos) (hdb:(nm == ("__debug__" : Str))=false:=by decide) :
  PE X (.Call (.Attribute (.Name nm p) "get" apos) [e] [] cpos) (tm D ty):=by
 intro pins s σ H Q I h
 obtain⟨h⟩:=h
 obtain⟨es,ep,hk,hr⟩:=G.lk
 refine wpAny_Call_method m.base m.cZ m.line PySem.F.plainAttrs_dict PySem.F.slot_dict_get PySem.F.type_dict_get (aB (fh (v:=.ref a) hg G.uT rfl hdb pins s σ H (fun x H1=>x=.ref a/\ty σ H1 fun y H1=>∃ r,tabAt D y=some r/\Q (gu r) H1) I ⟨rfl,h⟩) fun u s1 ⟨x,H1,I1,rx,ex,q1⟩=>?_)
 subst ex
 obtain rfl:u=Value.ref a:=rx
 have ho1:=I1.cQ a _ hk
 refine⟨⟨_,ho1,rfl⟩,?_,?_⟩
 ·intro b q
  cases q
  exact⟨_,ho1,rfl⟩
 rw [m.trees]
 refine Calls.callWith_builtin rfl (Calls.evalArgs_plain (Calls.spliced_cons (aB (he pins s1 σ H1 _ I1 q1) fun iv s2 ⟨y,H2,I2,ry,r,hy,q2⟩=>Calls.spliced_nil ?_)))
 have ho2:=I2.cQ a _ hk
 exact o8 ⟨_,ho2,rfl⟩ hs ho2 rfl hr ry hy fun v tk rv=>⟨gu r,H2,I2.tok tk,rv,q2⟩
end
def b3 (c:Nat):Bool:=decide (97<=c) && decide (c<=122)
def fU:PyData->Bool
 | .str x=>(decide (1<=x.length) && decide (x.length<=8)) && (sg x).all b3
 | _=>false
def dt:PyData->Bool
 | .int _=>true
 | _=>false
def bD (d:PyData) (k:Str) (n:Nat):Bool :=
 if k = "name" then fU d else if k = "number" then dt d else match d with
  | .int i=>decide (0<=i) && decide (i < (n:Int))
  | _=>false
def mL:PyData->Bool
 | .str _=>true
 | _=>false
def gv:PyData->Bool
 | .tuple _=>true
 | _=>false
def p8:PyData->Bool
 | .bool _=>true
 | _=>false
def intD:PyData->Bool
 | .int _=>true
 | .bool _=>true
 | _=>false
def cF:PyData->Option Str
 | .tuple (.str x :: _)=>some x
 | _=>none
def cb (x:Str):Option (List Str) :=
 if x = "put" then some ["name", "number"] else if x = "copy" then some ["name", "name"] else if x = "add" then some ["name", "number"] else if x = "read" then some ["name"] else if x = "tell" then some ["name"] else none
def eU (x:Str):Option (List Str) :=
 if x = "stop" then some [] else if x = "go" then some ["piece"] else if x = "less" then some ["name", "number", "piece", "piece"] else if x = "is" then some ["name", "number", "piece", "piece"] else none
def eh:List PyData->List Str->Nat->Bool
 | [],[],_=>true
 | d :: ds,k :: ks,n=>bD d k n && eh ds ks n
 | _,_,_=>false
def i7 (d:PyData) (ks:Option (List Str)) (n:Nat):Bool:=match ks,d with
 | some ks,.tuple (_ :: ds)=>decide (ds.length=ks.length) && eh ds ks n
 | _,_=>false
def cw (d:PyData):Bool:=i7 d ((cF d).bind cb) 0
def gw (d:PyData) (n:Nat):Bool:=i7 d ((cF d).bind eU) n
def ei (d:PyData) (n:Nat):Bool:=match d with
 | .tuple [.tuple ds,e]=>decide (ds.length<=12) && (ds.all cw && gw e n)
 | _=>false
mutual
def bQ:PyData->Bool
 | .str x=>decide (x.length<=1000) && (sg x).all fun c=>decide (c < 0x110000)
 | .tuple ds=>decide (ds.length<=1000) && cx ds
 | .list ds=>decide (ds.length<=1000) && cx ds
 | _=>true
def cx:List PyData->Bool
 | []=>true
 | d :: ds=>bQ d && cx ds
end
theorem dm {K:PySem.W.Frag} {H:Hp} {x:V} {d:PyData} (h:aI H x d):∃ t,cR K H x t/\PySem.W.kitOne K t (.type "str")=some (mL d)/\PySem.W.kitOne K t (.type "int")=some (intD d)/\PySem.W.kitOne K t (.type "bool")=some (p8 d)/\PySem.W.kitOne K t (.type "tuple")=some (gv d):=by
 cases h with
 | aO=>exact⟨_,.aO,rfl,rfl,rfl,rfl⟩
 | bl b=>exact⟨_,.bl b,rfl,rfl,rfl,rfl⟩
 | int i=>exact⟨_,.int i,rfl,rfl,rfl,rfl⟩
 | str x=>exact⟨_,.str x,rfl,rfl,rfl,rfl⟩
 | lst e _=>exact⟨_,.lst e,rfl,rfl,rfl,rfl⟩
 | tup e _=>exact⟨_,.tup e,rfl,rfl,rfl,rfl⟩
theorem uF (c:Nat):(!decide ((⟨#[c]⟩:Str).cps.toList < ("a" : Str).cps.toList))=decide (97<=c):=by
 have e:("a" : Str).cps.toList = [97]:=by decide +kernel
 rw [e]
 show (!decide ([c] < [97]))=_
 by_cases h:97<=c
 ·rw [decide_eq_true h,decide_eq_false (by rw [List.cons_lt_cons_iff];simp;omega)];rfl
 ·rw [decide_eq_false h,decide_eq_true (by rw [List.cons_lt_cons_iff];simp;omega)];rfl
theorem uG (c:Nat):(!decide (("z" : Str).cps.toList < (⟨#[c]⟩:Str).cps.toList))=decide (c<=122):=by
 have e:("z" : Str).cps.toList = [122]:=by decide +kernel
 rw [e]
 show (!decide ([122] < [c]))=_
 by_cases h:c<=122
 ·rw [decide_eq_true h,decide_eq_false (by rw [List.cons_lt_cons_iff];simp;omega)];rfl
 ·rw [decide_eq_false h,decide_eq_true (by rw [List.cons_lt_cons_iff];simp;omega)];rfl
theorem o9 (d:PyData):dt d=(intD d && !p8 d):=by cases d <;> rfl
theorem qI {d:PyData} (h:mL d=false):fU d=false:=by cases d <;> first | rfl | cases h
theorem pd {d:PyData} (h:gv d=false):cF d=none:=by cases d <;> first | rfl | cases h
theorem sx {H:Hp} {x:V} {d:PyData} (h:aI H x d) (e:mL d=true):∃ y,x=.str y/\d=.str y:=by cases h <;> first | exact⟨_,rfl,rfl⟩ | cases e
theorem kn {H:Hp} {x:V} {d:PyData} (h:aI H x d) (e:gv d=true):∃ p xs ds,x=.ref p/\d=.tuple ds/\H p=some (.tup xs)/\ar H xs ds:=by cases h <;> first | exact⟨_,_,_,rfl,rfl,‹_›,‹_›⟩ | cases e
theorem sy {H:Hp} {x:V} {d:PyData} (h:aI H x d) (e:dt d=true):∃ i,x=.int i/\d=.int i:=by cases h <;> first | exact⟨_,rfl,rfl⟩ | cases e
inductive ko (vs:List V) (H:Hp) (Q:VK) (_:XK):Prop
 | mk (x:V) (d:PyData) (_:vs = [x]) (_:aI H x d) (_:Q (.bl (dt d)) H)
inductive ma (vs:List V) (H:Hp) (Q:VK) (_:XK):Prop
 | mk (x:V) (d:PyData) (_:vs = [x]) (_:aI H x d) (_:bQ d=true) (_:∀ H',ab H H'->Q (.bl (fU d)) H')
inductive md (vs:List V) (H:Hp) (Q:VK) (_:XK):Prop
 | mk (x:V) (d:PyData) (k:Str) (n:Nat) (_:vs = [x,.str k,.int n]) (_:aI H x d) (_:bQ d=true) (_:∀ H',ab H H'->Q (.bl (bD d k n)) H')
def mM:Option Str->V
 | some x=>.str x
 | none=>.aO
inductive ic (vs:List V) (H:Hp) (Q:VK) (_:XK):Prop
 | mk (x:V) (d:PyData) (_:vs = [x]) (_:aI H x d) (_:Q (mM (cF d)) H)
inductive eu (K:PySem.W.Frag):V->Option (List Str)->Prop
 | no:eu K .aO none
 | some (a:Addr) (ks:List Str):KTup K a ks->eu K (.ref a) (some ks)
inductive kq (K:PySem.W.Frag) (vs:List V) (H:Hp) (Q:VK) (_:XK):Prop
 | mk (x:V) (d:PyData) (kv:V) (ks:Option (List Str)) (n:Nat) (_:vs = [x,kv,.int n]) (_:aI H x d) (_:bQ d=true) (_:eu K kv ks) (_:(ks ≠ none->∃ d0 ds,d=.tuple (d0 :: ds))) (_:∀ H',ab H H'->Q (.bl (i7 d ks n)) H')
theorem gx:∀ {ds:List PyData} {i:Nat} {d:PyData},cx ds=true->ds[i]? = some d->bQ d=true
 | d0 :: ds,0,d,h,e=>by
  simp only [cx,Bool.and_eq_true] at h
  cases e
  exact h.1
 | d0 :: ds,i+1,d,h,e=>by
  simp only [cx,Bool.and_eq_true] at h
  exact gx h.2 (by simpa using e)
def eC (ds:List PyData) (ks:List Str) (n:Nat):List Bool:=(ds.zip ks).map fun p=>bD p.1 p.2 n
theorem jt:∀ (ds:List PyData) (ks:List Str) (n:Nat),ds.length=ks.length->(eC ds ks n).all id=eh ds ks n
 | [],[],n,_=>rfl
 | d :: ds,k :: ks,n,h=>by
  show (bD d k n && (eC ds ks n).all id)=(bD d k n && eh ds ks n)
  rw [jt ds ks n (by simpa using h)]
mutual
theorem aI.bp {H H':Hp} (f:ab H H'):∀ {x:V} {d:PyData},aI H x d->aI H' x d
 | _,_,.aO=>.aO
 | _,_,.bl b=>.bl b
 | _,_,.int i=>.int i
 | _,_,.str x=>.str x
 | _,_,.lst e r=>.lst (f _ _ e) (ar.bp f r)
 | _,_,.tup e r=>.tup (f _ _ e) (ar.bp f r)
theorem ar.bp {H H':Hp} (f:ab H H'):∀ {xs:List V} {ds:List PyData},ar H xs ds->ar H' xs ds
 | _,_,.nil=>.nil
 | _,_,.cons a r=>.cons (aI.bp f a) (ar.bp f r)
end
theorem qJ {K:PySem.W.Frag} {mg:Str->Option Value} {aD d0 d1 d2 d3 d4:Addr} (G:mK K mg aD d0 d1 d2 d3 d4) (o:Option Str):∃ r,tabAt [("put",d0),("copy",d1),("add",d2),("read",d3),("tell",d4)] (mM o)=some r/\eu K (gu r) (o.bind cb):=by
 cases o with
 | none=>exact⟨none,rfl,.no⟩
 | some x =>
  refine⟨_,rfl,?_⟩
  show eu K (gu (KTD.datumAt x [("put",d0),("copy",d1),("add",d2),("read",d3),("tell",d4)])) (cb x)
  unfold cb
  by_cases h0:x = "put"
  ·rw [if_pos h0,h0,cv];exact .some _ _ G.q0
  rw [if_neg h0,b0 h0 rfl]
  by_cases h1:x = "copy"
  ·rw [if_pos h1,h1,cv];exact .some _ _ G.q1
  rw [if_neg h1,b0 h1 rfl]
  by_cases h2:x = "add"
  ·rw [if_pos h2,h2,cv];exact .some _ _ G.q2
  rw [if_neg h2,b0 h2 rfl]
  by_cases h3:x = "read"
  ·rw [if_pos h3,h3,cv];exact .some _ _ G.q3
  rw [if_neg h3,b0 h3 rfl]
  by_cases h4:x = "tell"
  ·rw [if_pos h4,h4,cv];exact .some _ _ G.q4
  rw [if_neg h4,b0 h4 rfl]
  exact .no
theorem sA {K:PySem.W.Frag} {mg:Str->Option Value} {aE s0 s1 s2 s3:Addr} (G:oZ K mg aE s0 s1 s2 s3) (o:Option Str):∃ r,tabAt [("stop",s0),("go",s1),("less",s2),("is",s3)] (mM o)=some r/\eu K (gu r) (o.bind eU):=by
 cases o with
 | none=>exact⟨none,rfl,.no⟩
 | some x =>
  refine⟨_,rfl,?_⟩
  show eu K (gu (KTD.datumAt x [("stop",s0),("go",s1),("less",s2),("is",s3)])) (eU x)
  unfold eU
  by_cases h0:x = "stop"
  ·rw [if_pos h0,h0,cv];exact .some _ _ G.q0
  rw [if_neg h0,b0 h0 rfl]
  by_cases h1:x = "go"
  ·rw [if_pos h1,h1,cv];exact .some _ _ G.q1
  rw [if_neg h1,b0 h1 rfl]
  by_cases h2:x = "less"
  ·rw [if_pos h2,h2,cv];exact .some _ _ G.q2
  rw [if_neg h2,b0 h2 rfl]
  by_cases h3:x = "is"
  ·rw [if_pos h3,h3,cv];exact .some _ _ G.q3
  rw [if_neg h3,b0 h3 rfl]
  exact .no
theorem nU {d:PyData} {x:Str} (h:cF d=some x):∃ d0 ds,d=.tuple (d0 :: ds):=by
 unfold cF at h
 split at h
 ·exact⟨_,_,rfl⟩
 ·cases h
theorem ju {d:PyData} {f:Str->Option (List Str)} (h:(cF d).bind f ≠ none):∃ d0 ds,d=.tuple (d0 :: ds):=by
 cases e:cF d with
 | none=>rw [e] at h;exact absurd rfl h
 | some x=>exact nU e
inductive me (vs:List V) (H:Hp) (Q:VK) (_:XK):Prop
 | mk (x:V) (d:PyData) (_:vs = [x]) (_:aI H x d) (_:bQ d=true) (_:∀ H',ab H H'->Q (.bl (cw d)) H')
inductive nV (vs:List V) (H:Hp) (Q:VK) (_:XK):Prop
 | mk (x:V) (d:PyData) (n:Nat) (_:vs = [x,.int n]) (_:aI H x d) (_:bQ d=true) (_:∀ H',ab H H'->Q (.bl (gw d n)) H')
inductive kr (vs:List V) (H:Hp) (Q:VK) (_:XK):Prop
 | mk (x:V) (d:PyData) (n:Nat) (_:vs = [x,.int n]) (_:aI H x d) (_:bQ d=true) (_:∀ H',ab H H'->Q (.bl (ei d n)) H')
theorem pe {d:PyData} {n:Nat} (h:gv d=false):ei d n=false:=by cases d <;> first | rfl | cases h
theorem nW {ds:List PyData} {n:Nat} (h:¬ ds.length=2):ei (.tuple ds) n=false:=by
 unfold ei
 split
 ·rename_i e;cases e;exact absurd rfl h
 ·rfl
theorem nX {d1 d2:PyData} {n:Nat} (h:gv d1=false):ei (.tuple [d1,d2]) n=false:=by cases d1 <;> first | rfl | cases h
theorem ar.qK {H:Hp} {xs:List V} {ds:List PyData} (r:ar H xs ds) (h:bQ (.tuple ds)=true):xs.length<=1000/\cx ds=true:=by
 simp only [bQ,Bool.and_eq_true] at h
 exact⟨by rw [r.len];exact of_decide_eq_true h.1,h.2⟩
theorem hU {X:Cx} {K:PySem.W.Frag} (hK:X.K=K):cm X (.builtin "len") (fun xs H Q=>∃ p ys,xs = [V.ref p]/\(ax K H p ys\/aJ K H p ys)/\Q (V.int (ys.length:Nat)) H):=by subst hK;exact bo
theorem qL {x:Str} (h:bQ (.str x)=true):x.length<=1000/\∀ c ∈ sg x,c < 0x110000:=by
 simp only [bQ,Bool.and_eq_true] at h
 exact⟨of_decide_eq_true h.1,fun c hc=>of_decide_eq_true (List.all_eq_true.mp h.2 c hc)⟩
theorem sC:cb "put" = some (["name", "number"]:List Str):=by decide +kernel
theorem qM:cb "copy" = some (["name", "name"]:List Str):=by decide +kernel
theorem sD:cb "add" = some (["name", "number"]:List Str):=by decide +kernel
theorem qN:cb "read" = some (["name"]:List Str):=by decide +kernel
theorem qO:cb "tell" = some (["name"]:List Str):=by decide +kernel
theorem fq (d:PyData) (n:Nat):bD d "name" n=fU d:=if_pos rfl
theorem mf (d:PyData) (n:Nat):bD d "number" n=dt d:=by
 unfold bD
 rw [if_neg (by decide +kernel),if_pos rfl]
theorem i8 (x:Str) (ds:List PyData):cw (.tuple (.str x :: ds))=(match cb x with | some ks=>decide (ds.length=ks.length) && eh ds ks 0 | none=>false):=by
 show i7 (.tuple (.str x :: ds)) (cb x) 0=_
 cases cb x <;> rfl
theorem mh {x:Str} {d:PyData} {ds:List PyData} (hx:x = "read" \/ x = "tell") (h:fU d=true):cw (.tuple (.str x :: d :: ds))=decide (ds.length=0):=by
 have hk:cb x=some (["name"]:List Str):=by rcases hx with rfl | rfl;exact qN;exact qO
 rw [i8,hk]
 cases ds with
 | nil=>show (true && (bD d "name" 0 && true))=true;rw [fq,h];rfl
 | cons d2 ds=>simp
theorem nY {d e:PyData} (h:fU d=true):cw (.tuple [.str "copy",d,e])=fU e:=by
 rw [i8,qM]
 show (true && (bD d "name" 0 && (bD e "name" 0 && true)))=_
 rw [fq,fq,h,Bool.and_true];rfl
theorem mi {x:Str} {d e:PyData} (hx:x = "put" \/ x = "add") (h:fU d=true):cw (.tuple [.str x,d,e])=dt e:=by
 have hk:cb x=some (["name", "number"]:List Str):=by rcases hx with rfl | rfl;exact sC;exact sD
 rw [i8,hk]
 show (true && (bD d "name" 0 && (bD e "number" 0 && true)))=_
 rw [fq,mf,h,Bool.and_true];rfl
section
variable {X:Cx}
end
section
variable {X:Cx} {e a b o:Expr} {es:List Expr} {st:Stmt} {rest:List Stmt} {te ta tb to:TE} {t:TA} {u v:TS} {pos:Pos}
end
section
variable {P:Program} {w:World} {K:PySem.W.Frag} {mg:Str->Option Value} {base:Heap}
end
section
variable {X:Cx}
end
theorem pf {xs:List V} {k:Nat} (h:k<=xs.length):cS xs (some (k:Int)) none=xs.drop k:=by
 unfold cS
 rw [HT.qp,HT.j7,Nat.min_eq_left h]
 exact List.take_of_length_le (by rw [List.length_drop];omega)
def jv (x:Str):Nat:=if x = "stop" then 1 else if x = "go" then 2 else if x = "less" then 5 else if x = "is" then 5 else 0
def iM (d:PyData) (n:Nat):Bool:=bD d "piece" n
theorem mj (x:Str):(eU x=none/\jv x=0)\/(∃ ks,eU x=some ks/\jv x=ks.length+1/\(ks = []\/ks=(["piece"]:List Str)\/ks=(["name", "number", "piece", "piece"]:List Str))):=by
 unfold eU jv
 by_cases h0:x = "stop"
 ·rw [if_pos h0,if_pos h0];exact .inr ⟨_,rfl,rfl,.inl rfl⟩
 rw [if_neg h0,if_neg h0]
 by_cases h1:x = "go"
 ·rw [if_pos h1,if_pos h1];exact .inr ⟨_,rfl,rfl,.inr (.inl rfl)⟩
 rw [if_neg h1,if_neg h1]
 by_cases h2:x = "less"
 ·rw [if_pos h2,if_pos h2];exact .inr ⟨_,rfl,rfl,.inr (.inr rfl)⟩
 rw [if_neg h2,if_neg h2]
 by_cases h3:x = "is"
 ·rw [if_pos h3,if_pos h3];exact .inr ⟨_,rfl,rfl,.inr (.inr rfl)⟩
 rw [if_neg h3,if_neg h3]
 exact .inl ⟨rfl,rfl⟩
theorem nZ (x:Str) (ds:List PyData) (n:Nat):gw (.tuple (.str x :: ds)) n=(match eU x with | some ks=>decide (ds.length=ks.length) && eh ds ks n | none=>false):=by
 show i7 (.tuple (.str x :: ds)) (eU x) n=_
 cases eU x <;> rfl
theorem ph {x:Str} {d1 d2 d3 d4:PyData} {n:Nat} (h:jv x=5):gw (.tuple [.str x,d1,d2,d3,d4]) n=((fU d1 && dt d2) && [d3,d4].all fun d=>iM d n):=by
 rw [nZ]
 rcases mj x with ⟨e,hs⟩ | ⟨ks,e,hs,rfl | rfl | rfl⟩
 ·omega
 ·simp at hs;omega
 ·simp at hs;omega
 ·rw [e]
  show (true && (bD d1 "name" n && (bD d2 "number" n && (bD d3 "piece" n && (bD d4 "piece" n && true)))))=_
  rw [fq,mf,Bool.true_and,Bool.and_assoc]
  rfl
theorem ku {x:Str} {ds:List PyData} {n:Nat} (h:jv x=ds.length+1) (h5:¬ ds.length+1=5):gw (.tuple (.str x :: ds)) n=ds.all fun d=>iM d n:=by
 rw [nZ]
 rcases mj x with ⟨e,hs⟩ | ⟨ks,e,hs,rfl | rfl | rfl⟩
 ·omega
 ·rw [e]
  obtain rfl:ds = []:=List.length_eq_zero_iff.mp (by simp at hs;omega)
  rfl
 ·rw [e]
  obtain⟨d,rfl⟩:∃ d,ds = [d]:=List.length_eq_one_iff.mp (by simp at hs;omega)
  show (true && (bD d "piece" n && true))=(iM d n && true)
  rfl
 ·simp at hs;omega
theorem pA (d:PyData) (n:Nat):iM d n=(match d with | .int i=>decide (0<=i) && decide (i < (n:Int)) | _=>false):=by
 unfold iM bD
 rw [if_neg (by decide +kernel),if_neg (by decide +kernel)]
 all_goals (cases d <;> rfl)
def jP:PyData->Prop
 | .str x=>x.length<=1000/\∀ c ∈ sg x,c < 0x110000
 | .int _=>True
 | _=>False
def dM:Nat->PyData->Prop
 | 0,_=>False
 | n+1,d=>jP d\/∃ ds,d=.tuple ds/\ds.length<=999/\∀ e ∈ ds,dM n e
theorem kx:∀ {ds:List PyData},(∀ e ∈ ds,bQ e=true)->cx ds=true
 | [],_=>rfl
 | d :: ds,h=>by
  show (bQ d && cx ds)=true
  rw [h d List.mem_cons_self,kx fun e he=>h e (List.mem_cons_of_mem _ he)]
  rfl
theorem i9 {ds:List PyData} (hl:ds.length<=1000) (h:∀ e ∈ ds,bQ e=true):bQ (.tuple ds)=true:=by
 show (decide (ds.length<=1000) && cx ds)=true
 rw [decide_eq_true hl,kx h]
 rfl
theorem pB {d:PyData} (h:jP d):bQ d=true:=by
 cases d with
 | str x =>
  show (decide (x.length<=1000) && (sg x).all fun c=>decide (c < 0x110000))=true
  rw [decide_eq_true h.1,List.all_eq_true.mpr fun c hc=>decide_eq_true (h.2 c hc)]
  rfl
 | int i=>rfl
 | _=>cases h
theorem ie:∀ {n:Nat} {d:PyData},dM n d->bQ d=true
 | 0,_,h=>h.elim
 | n+1,d,.inl h=>pB h
 | n+1,d,.inr ⟨ds,e,hl,h⟩=>by
  subst e
  exact i9 (by omega) fun e he=>ie (h e he)
theorem dN:∀ {ds:List PyData},(∀ e ∈ ds,bU e=true)->bE ds=true
 | [],_=>rfl
 | d :: ds,h=>by
  show (bU d && bE ds)=true
  rw [h d List.mem_cons_self,dN fun e he=>h e (List.mem_cons_of_mem _ he)]
  rfl
theorem pC {x:Str} (h:aX x):jP (.str x):=by
 refine⟨?_,?_⟩
 ·have:=h.hi
  omega
 ·intro c hc
  have:=h.az c hc
  omega
theorem jw {x:Str} (h:(decide (x.length<=1000) && (sg x).all fun c=>decide (c < 0x110000))=true):jP (.str x):=by
 rw [Bool.and_eq_true] at h
 exact⟨of_decide_eq_true h.1,fun c hc=>of_decide_eq_true (List.all_eq_true.mp h.2 c hc)⟩
theorem fF {x:Str} (h:aX x):fU (.str x)=true:=by
 show ((decide (1<=x.length) && decide (x.length<=8)) && (sg x).all b3)=true
 rw [decide_eq_true h.lo,decide_eq_true h.hi]
 show (sg x).all b3=true
 refine List.all_eq_true.mpr fun c hc=>?_
 have:=h.az c hc
 unfold b3
 rw [decide_eq_true this.1,decide_eq_true this.2]
 rfl
theorem pD {xs:List Str} (hn:∀ x ∈ xs,aX x) {d:eg} (h:cE xs d):cw (ba d)=true:=by
 cases d with
 | put x n=>exact (mi (.inl rfl) (fF (hn _ h.1))).trans rfl
 | copy x y=>exact (nY (fF (hn _ h.1))).trans (fF (hn _ h.2))
 | add x n=>exact (mi (.inr rfl) (fF (hn _ h.1))).trans rfl
 | read x=>exact (mh (.inl rfl) (fF (hn _ h))).trans rfl
 | tell x=>exact (mh (.inr rfl) (fF (hn _ h))).trans rfl
theorem mN {p c:Nat} (h:p < c):iM (.int p) c=true:=by
 rw [pA]
 show (decide (0<=(p:Int)) && decide ((p:Int) < (c:Int)))=true
 rw [decide_eq_true (by omega),decide_eq_true (by omega)]
 rfl
theorem qP:jv "stop" = 1:=by decide +kernel
theorem tq:jv "go" = 2:=by decide +kernel
theorem tu (b:Bool):jv (wT b)=5:=by cases b <;> decide +kernel
theorem qQ {xs:List Str} (hn:∀ x ∈ xs,aX x) {c:Nat} {e:End} (h:dJ xs c e):gw (b7 e) c=true:=by
 cases e with
 | stop=>exact (ku (ds:=[]) qP (by decide)).trans rfl
 | go p =>
  refine (ku (ds:=[.int p]) tq (by show ¬ 2=5;decide)).trans ?_
  show (iM (.int p) c && true)=true
  rw [mN h]
  rfl
 | kf b x n p q =>
  refine (ph (tu b)).trans ?_
  rw [fF (hn _ h.1)]
  show (iM (.int p) c && (iM (.int q) c && true))=true
  rw [mN h.2.2.1,mN h.2.2.2]
  rfl
theorem n9 {xs:List Str} (hn:∀ x ∈ xs,aX x) {c:Nat} {p:Piece} (hl:p.1.length<=12) (hd:∀ d ∈ p.1,cE xs d) (he:dJ xs c p.2):ei (aW p) c=true:=by
 show (decide ((p.1.map ba).length<=12) && ((p.1.map ba).all cw && gw (b7 p.2) c))=true
 rw [qQ hn he,List.length_map,decide_eq_true hl,List.all_eq_true.mpr fun d h=>?_]
 ·rfl
 ·obtain⟨d',h',rfl⟩:=List.mem_map.mp h
  exact pD hn (hd _ h')
theorem cJ {xs:List Str} (hn:∀ x ∈ xs,aX x) {n:Nat} {x:Str} (h:x ∈ xs):dM (n+1) (.str x):=.inl (pC (hn x h))
theorem oa {xs:List Str} (hn:∀ x ∈ xs,aX x) {d:eg} (h:cE xs d):dM 2 (ba d):=by
 have wd:∀ {x:Str},(decide (x.length<=1000) && (sg x).all fun c=>decide (c < 0x110000))=true->dM 1 (.str x):=fun h=>.inl (jw h)
 have nn:∀ {i:Int},dM 1 (.int i):=fun {i}=>.inl trivial
 cases d with
 | put x n =>
  refine .inr ⟨_,rfl,(by show 3<=999;decide),fun e he=>?_⟩
  rcases List.mem_cons.mp he with rfl | he;· exact wd (by decide +kernel)
  rcases List.mem_cons.mp he with rfl | he;· exact cJ hn h.1
  rw [List.mem_singleton.mp he];exact nn
 | copy x y =>
  refine .inr ⟨_,rfl,(by show 3<=999;decide),fun e he=>?_⟩
  rcases List.mem_cons.mp he with rfl | he;· exact wd (by decide +kernel)
  rcases List.mem_cons.mp he with rfl | he;· exact cJ hn h.1
  rw [List.mem_singleton.mp he];exact cJ hn h.2
 | add x n =>
  refine .inr ⟨_,rfl,(by show 3<=999;decide),fun e he=>?_⟩
  rcases List.mem_cons.mp he with rfl | he;· exact wd (by decide +kernel)
  rcases List.mem_cons.mp he with rfl | he;· exact cJ hn h.1
  rw [List.mem_singleton.mp he];exact nn
 | read x =>
  refine .inr ⟨_,rfl,(by show 2<=999;decide),fun e he=>?_⟩
  rcases List.mem_cons.mp he with rfl | he;· exact wd (by decide +kernel)
  rw [List.mem_singleton.mp he];exact cJ hn h
 | tell x =>
  refine .inr ⟨_,rfl,(by show 2<=999;decide),fun e he=>?_⟩
  rcases List.mem_cons.mp he with rfl | he;· exact wd (by decide +kernel)
  rw [List.mem_singleton.mp he];exact cJ hn h
theorem pE {xs:List Str} (hn:∀ x ∈ xs,aX x) {c:Nat} {e:End} (h:dJ xs c e):dM 3 (b7 e):=by
 have wd:∀ {x:Str},(decide (x.length<=1000) && (sg x).all fun c=>decide (c < 0x110000))=true->dM 2 (.str x):=fun h=>.inl (jw h)
 have nn:∀ {i:Int},dM 2 (.int i):=fun {i}=>.inl trivial
 cases e with
 | stop =>
  refine .inr ⟨_,rfl,(by show 1<=999;decide),fun e he=>?_⟩
  rw [List.mem_singleton.mp he];exact wd (by decide +kernel)
 | go p =>
  refine .inr ⟨_,rfl,(by show 2<=999;decide),fun e he=>?_⟩
  rcases List.mem_cons.mp he with rfl | he;· exact wd (by decide +kernel)
  rw [List.mem_singleton.mp he];exact nn
 | kf b x n p q =>
  refine .inr ⟨_,rfl,(by show 5<=999;decide),fun e he=>?_⟩
  rcases List.mem_cons.mp he with rfl | he;· cases b <;> exact wd (by decide +kernel)
  rcases List.mem_cons.mp he with rfl | he;· exact cJ hn h.1
  rcases List.mem_cons.mp he with rfl | he;· exact nn
  rcases List.mem_cons.mp he with rfl | he;· exact nn
  rw [List.mem_singleton.mp he];exact nn
open Builtin Builtin.Str
def gy (s sub:Str) (hi limit:Nat) (st:Array Nat × Nat) (i:Nat):Array Nat × Nat :=
 if ((st.1.size < limit/\st.2<=i)/\i+sub.length<=hi)/\subAt s sub i=true then (st.1.push i,i+sub.length) else st
theorem ig (s sub:Str) (hi limit:Nat):∀ (l:List Nat) (st:Array Nat × Nat),(forIn l st (occBody s sub hi limit)).run=l.foldl (gy s sub hi limit) st
 | [],st=>rfl
 | i :: l,st=>by
  rw [List.forIn_cons,List.foldl_cons]
  unfold occBody gy
  split
  ·exact ig s sub hi limit l _
  ·exact ig s sub hi limit l _
theorem fG {s sub:Str} {hi limit:Nat}:∀ {l:List Nat} {st:Array Nat × Nat},(∀ i ∈ l,¬ (st.2<=i/\subAt s sub i=true))->l.foldl (gy s sub hi limit) st=st
 | [],st,_=>rfl
 | i :: l,st,h=>by
  rw [List.foldl_cons,show gy s sub hi limit st i=st from if_neg fun z=>h i List.mem_cons_self ⟨z.1.1.2,z.2⟩]
  exact fG fun j hj=>h j (List.mem_cons_of_mem _ hj)
def gA (w:Nat):Nat->List (List Nat)->List Nat
 | _,[]=>[]
 | a,q :: r=>a :: gA w (a+w+q.length) r
theorem ky {x y:Str} {i c0:Nat} {ys:List Nat} (hy:sg y=c0 :: ys) (h:subAt x y i=true):(sg x)[i]? = some c0:=by
 rw [subAt_eq] at h
 have e:=eq_of_beq h
 rw [show y.cps.toList=c0 :: ys from hy] at e
 have h2:(((x.cps.toList.drop i).take y.length))[0]? = some c0:=by rw [e];rfl
 rw [List.getElem?_take] at h2
 split at h2
 ·rw [List.getElem?_drop] at h2
  exact h2
 ·cases h2
theorem og {x y:Str} {c0:Nat} {ys:List Nat} (hy:sg y=c0 :: ys) {limit:Nat}:∀ (qs:List (List Nat)) (p:List Nat) (a:Nat) (st:Array Nat × Nat),
  (sg x).drop a=p++qs.flatMap (fun q=>sg y++q)->a<=x.length->c0 ∉ p->(∀ q ∈ qs,c0 ∉ q)->st.2<=a->st.1.size+qs.length < limit ->
  ((List.range' a (x.length+1 - a)).foldl (gy x y x.length limit) st).1.toList=st.1.toList++gA y.length (a+p.length) qs:=by
 intro qs
 have ylen:y.length=ys.length+1:=by rw [<-aG,hy];rfl
 induction qs with
 | nil =>
  intro p a st hx ha hp _ hf hl
  rw [List.flatMap_nil,List.append_nil] at hx
  rw [fG fun i hi z=>?_]
  ·show st.1.toList=st.1.toList ++ []
   rw [List.append_nil]
  ·have h1:=ky hy z.2
   have hr:=List.mem_range'_1.mp hi
   have h2:p[i - a]? = some c0:=by rw [<-hx,List.getElem?_drop,show a+(i - a)=i by omega];exact h1
   exact hp (List.mem_of_getElem? h2)
 | cons q qs ih =>
  intro p a st hx ha hp hq hf hl
  have hlen:x.length - a=p.length+(y.length+q.length+(qs.flatMap (fun q=>sg y++q)).length):=by
   have:=congrArg List.length hx
   rw [List.length_drop,aG,List.length_append,List.flatMap_cons,List.length_append,List.length_append,aG] at this
   omega
  have d1:(sg x).drop (a+p.length)=sg y++(q++qs.flatMap (fun q=>sg y++q)):=by
   rw [<-List.drop_drop,hx,List.drop_left,List.flatMap_cons,List.append_assoc]
  have d2:(sg x).drop (a+p.length+y.length)=q++qs.flatMap (fun q=>sg y++q):=by
   rw [<-List.drop_drop,d1,<-aG y,List.drop_left]
  have er:List.range' a (x.length+1 - a)=List.range' a p.length++((a+p.length) :: (List.range' (a+p.length+1) (y.length - 1)++List.range' (a+p.length+y.length) (x.length+1 - (a+p.length+y.length)))):=by
   have e0:x.length+1 - a=p.length+(1+((y.length - 1)+(x.length+1 - (a+p.length+y.length)))):=by omega
   rw [e0,<-List.range'_append_1 (s:=a) (m:=p.length),<-List.range'_append_1 (s:=a+p.length) (m:=1),<-List.range'_append_1 (s:=a+p.length+1) (m:=y.length - 1),show a+p.length+1+(y.length - 1)=a+p.length+y.length by omega]
   rfl
  have k1:(List.range' a p.length).foldl (gy x y x.length limit) st=st:=fG fun i hi z=>by
   have h1:=ky hy z.2
   have hr:=List.mem_range'_1.mp hi
   have h2:p[i - a]? = some c0:=by
    have h3:((sg x).drop a)[i - a]? = some c0:=by rw [List.getElem?_drop,show a+(i - a)=i by omega];exact h1
    rw [hx,List.getElem?_append_left (by omega)] at h3
    exact h3
   exact hp (List.mem_of_getElem? h2)
  have k2:(List.range' (a+p.length+1) (y.length - 1)).foldl (gy x y x.length limit) (st.1.push (a+p.length),a+p.length+y.length)=(st.1.push (a+p.length),a+p.length+y.length):=fG fun i hi z=>by
   have hr:=List.mem_range'_1.mp hi
   have z1:a+p.length+y.length<=i:=z.1
   omega
  rw [er,List.foldl_append,k1]
  have hat:subAt x y (a+p.length)=true:=by
   rw [subAt_eq,show x.cps.toList.drop (a+p.length)=_ from d1,List.take_left' (aG y)]
   exact beq_self_eq_true _
  rw [List.foldl_cons,show gy x y x.length limit st (a+p.length)=(st.1.push (a+p.length),a+p.length+y.length) from if_pos ⟨⟨⟨by omega,by omega⟩,by omega⟩,hat⟩,List.foldl_append,k2]
  rw [ih q (a+p.length+y.length) (st.1.push (a+p.length),a+p.length+y.length) d2 (by omega) (hq q List.mem_cons_self) (fun q' h'=>hq q' (List.mem_cons_of_mem _ h')) (Nat.le_refl _) (by rw [Array.size_push];rw [List.length_cons] at hl;show st.1.size+1+qs.length < limit;omega)]
  rw [Array.toList_push,List.append_assoc]
  rfl
theorem jx {x:Str} {w:Nat}:∀ (qs:List Str) (p:Str) (a:Nat) (z:List Nat),z.length=w->(sg x).drop a=sg p++(qs.map sg).flatMap (fun q=>z++q)->a<=x.length ->
  partsFrom x w a (gA w (a+p.length) (qs.map sg))=p :: qs
 | [],p,a,z,hz,hx,ha=>by
  rw [List.map_nil,List.flatMap_nil,List.append_nil] at hx
  show [strSub x a x.length] = [p]
  congr 1
  refine kj ?_
  show (strSub x a x.length).cps.toList=_
  rw [strSub_toList,show x.cps.toList.drop a=_ from hx]
  refine List.take_of_length_le ?_
  have:=congrArg List.length hx
  rw [List.length_drop,aG] at this
  omega
 | q :: qs,p,a,z,hz,hx,ha=>by
  rw [List.map_cons,List.flatMap_cons] at hx
  have hlen:=congrArg List.length hx
  rw [List.length_drop,aG,List.length_append,List.length_append,List.length_append,aG,aG] at hlen
  show strSub x a (a+p.length) :: partsFrom x w (a+p.length+w) (gA w (a+p.length+w+(sg q).length) (qs.map sg))=p :: q :: qs
  congr 1
  ·refine kj ?_
   show (strSub x a (a+p.length)).cps.toList=_
   rw [strSub_toList,show x.cps.toList.drop a=_ from hx,Nat.add_sub_cancel_left]
   exact List.take_left' (aG p)
  ·rw [aG]
   refine jx qs q (a+p.length+w) z hz ?_ (by omega)
   rw [Nat.add_assoc,<-List.drop_drop,hx,show p.length+w=(sg p).length+w by rw [aG],<-List.drop_drop,List.drop_left,List.append_assoc,<-hz,List.drop_left]
theorem jy (z:Str):∀ (rest:List Str) (a:Array Nat),(rest.foldl (fun acc p=>acc++z.cps++p.cps) a).toList=a.toList++(rest.map sg).flatMap (fun q=>sg z++q)
 | [],a=>by rw [List.foldl_nil,List.map_nil,List.flatMap_nil,List.append_nil]
 | x :: r,a=>by
  rw [List.foldl_cons,jy z r,List.map_cons,List.flatMap_cons,Array.toList_append,Array.toList_append,List.append_assoc,List.append_assoc,List.append_assoc]
  rfl
theorem ja (z p:Str) (qs:List Str):sg (Txt.join z (p :: qs))=sg p++(qs.map sg).flatMap (fun q=>sg z++q):=by
 show (List.foldl (fun acc q=>acc++z.cps++q.cps) p.cps qs).toList=_
 exact jy z qs p.cps
theorem fH {z:Str} {c0:Nat} {ys:List Nat} (hz:sg z=c0 :: ys) (hk:strKind z=1) {p:Str} {qs:List Str} (hp:c0 ∉ sg p) (hq:∀ q ∈ qs,c0 ∉ sg q):Txt.split (Txt.join z (p :: qs)) z=p :: qs:=by
 have hx:=ja z p qs
 have zl:z.length=ys.length+1:=by rw [<-aG,hz];rfl
 have one:qs = []->Txt.join z (p :: qs)=p:=fun e=>by
  subst e
  refine kj ?_
  rw [hx]
  exact List.append_nil _
 generalize Txt.join z (p :: qs)=x at hx one
 have hocc:occurrences x z 0 x.length (x.length+1)=gA z.length (0+p.length) (qs.map sg):=by
  have hl:qs.length<=x.length:=by
   rw [<-aG,hx,List.length_append]
   refine Nat.le_trans ?_ (Nat.le_add_left _ _)
   clear hx one hq
   induction qs with
   | nil=>exact Nat.zero_le _
   | cons q qs ih =>
    rw [List.map_cons,List.flatMap_cons,List.length_append,List.length_append,aG,List.length_cons]
    omega
  rw [occ_eq,ig]
  have:=og (x:=x) hz (limit:=x.length+1) (qs.map sg) (sg p) 0 (#[],0) (by rw [List.drop_zero];exact hx) (Nat.zero_le _) hp (fun q h=>by obtain⟨q',h',rfl⟩:=List.mem_map.mp h;exact hq q' h') (Nat.le_refl _) (by rw [List.length_map];show 0+qs.length < x.length+1;omega)
  rw [aG] at this
  exact this
 unfold Txt.split
 rw [hocc,hk]
 cases qs with
 | nil =>
  rw [one rfl]
  split
  ·rfl
  ·rfl
 | cons q qs =>
  rw [if_neg,if_neg (by show ¬ false=true;decide),partsBetween_eq]
  ·exact jx (q :: qs) p 0 (sg z) (aG z) (by rw [List.drop_zero];exact hx) (Nat.zero_le _)
  ·have h1:z.length<=x.length:=by
    rw [<-aG x,hx,List.map_cons,List.flatMap_cons,List.length_append,List.length_append,List.length_append,aG z]
    omega
   have h2:¬ strKind x < 1:=by
    unfold PySem.Builtin.Str.strKind
    split
    ·decide
    ·split <;> decide
   rw [decide_eq_false (by omega),decide_eq_false h2]
   decide
open PySem.W
def cN (i:Int):Str:=PySem.Str.ofString (toString i)
theorem gU:∀ (k m:Nat),m < 10 ^ (k+1)->(Nat.toDigits 10 m).length<=k+1
 | 0,m,h=>by
  rw [Nat.toDigits_of_lt_base (by simpa using h)]
  exact Nat.le_refl _
 | k+1,m,h=>by
  by_cases hm:m < 10
  ·rw [Nat.toDigits_of_lt_base hm]
   show 1<=_
   omega
  ·have h10:m % 10 < 10:=Nat.mod_lt m (by decide)
   have t:Nat.toDigits 10 (m / 10)++Nat.toDigits 10 (m % 10)=Nat.toDigits 10 (10 * (m / 10)+m % 10):=Nat.toDigits_append_toDigits (by decide) (by omega) h10
   rw [Nat.div_add_mod] at t
   have:=gU k (m / 10) (by rw [Nat.div_lt_iff_lt_mul (by decide),<-Nat.pow_succ];exact h)
   rw [<-t,List.length_append,Nat.toDigits_of_lt_base h10]
   show _+1<=_
   omega
theorem pF (m:Nat):0 < m->(Nat.toDigits 10 m).head? ≠ some '0':=by
 induction m using Nat.strongRecOn with
 | _ m ih =>
  intro h0
  by_cases h:m < 10
  ·rw [Nat.toDigits_of_lt_base h]
   obtain rfl | rfl | rfl | rfl | rfl | rfl | rfl | rfl | rfl:m=1\/m=2\/m=3\/m=4\/m=5\/m=6\/m=7\/m=8\/m=9:=by omega
   all_goals decide
  ·have hm:m % 10 < 10:=Nat.mod_lt m (by decide)
   have t:Nat.toDigits 10 (m / 10)++Nat.toDigits 10 (m % 10)=Nat.toDigits 10 (10 * (m / 10)+m % 10):=Nat.toDigits_append_toDigits (by decide) (by omega) hm
   rw [Nat.div_add_mod] at t
   have hh:=ih (m / 10) (by omega) (by omega)
   rw [<-t]
   cases e:Nat.toDigits 10 (m / 10) with
   | nil =>
    have:=toDigits_len_ge 10 (m / 10)
    rw [e] at this
    exact absurd this (by decide)
   | cons c r =>
    rw [e] at hh
    exact hh
theorem dU (m:Nat):∀ c ∈ (Nat.toDigits 10 m).map Char.toNat,48<=c/\c<=57:=fun c hc=>by
 obtain⟨ch,hch,e⟩:=List.mem_map.mp hc
 have r:=digit_range (Nat.isDigit_of_mem_toDigits (by decide) (by decide) hch)
 rw [<-e]
 exact r
theorem iN (m:Nat):sg (cN (m:Int))=(Nat.toDigits 10 m).map Char.toNat:=PySem.W.KIN.signs_num m
theorem iO (m:Nat):sg (cN (Int.negSucc m))=45 :: (Nat.toDigits 10 (m+1)).map Char.toNat:=by
 show (PySem.Str.ofString (toString (Int.negSucc m))).cps.toList=_
 rw [signs_ofString]
 show ("-" ++ Nat.repr (m+1)).toList.map Char.toNat=_
 rw [String.toList_append,List.map_append,Nat.toList_repr]
 rfl
theorem oh (m:Nat):(Nat.toDigits 10 m).map Char.toNat ≠ []:=fun e=>by
 have:=toDigits_len_ge 10 m
 rw [List.map_eq_nil_iff.mp e] at this
 exact absurd this (by decide)
theorem oi {i:Int}:∀ c ∈ sg (cN i),c=45\/(48<=c/\c<=57):=by
 cases i with
 | ofNat m =>
  intro c hc
  rw [show sg (cN (Int.ofNat m))=_ from iN m] at hc
  exact .inr (dU m c hc)
 | negSucc m =>
  intro c hc
  rw [iO] at hc
  rcases List.mem_cons.mp hc with h | h
  ·exact .inl h
  ·exact .inr (dU _ c h)
theorem ml {i:Int} (h:b9 i):(sg (cN i)).length<=41/\0 < (sg (cN i)).length:=by
 obtain⟨h1,h2⟩:=h
 cases i with
 | ofNat m =>
  have hm:m < 10 ^ (39+1):=by have h2:(m:Int) < 10 ^ 40:=h2;omega
  rw [show sg (cN (Int.ofNat m))=_ from iN m,List.length_map]
  have:=gU 39 m hm
  have:=toDigits_len_ge 10 m
  omega
 | negSucc m =>
  have hm:m+1 < 10 ^ (39+1):=by rw [Int.negSucc_eq] at h1;omega
  rw [iO,List.length_cons,List.length_map]
  have:=gU 39 (m+1) hm
  omega
theorem pG {i:Int} (h:b9 i):cY (cN i)=true:=by
 obtain⟨h1,h2⟩:=h
 have key:∀ (m:Nat),m < 10 ^ (39+1)->∀ x:Str,di (sg x)=(Nat.toDigits 10 m).map Char.toNat->(m=0->x = "0")->cY x=true:=fun m hm x hx h0=>by
  unfold cY
  rw [hx,List.length_map]
  have l1:=gU 39 m hm
  have l2:=toDigits_len_ge 10 m
  rw [decide_eq_true (by omega),decide_eq_true (by omega),List.all_eq_true.mpr fun c hc=>?_]
  ·rw [Bool.true_and,Bool.true_and,Bool.true_and]
   by_cases hz:m=0
   ·rw [decide_eq_false (show ¬ x ≠ "0" from fun z=>z (h0 hz)),Bool.and_false]
    rfl
   ·rw [decide_eq_false (show ¬ ((Nat.toDigits 10 m).map Char.toNat).head? = some 48 from fun z=>?_)]
    ·rfl
    ·have hh:=pF m (by omega)
     cases e:Nat.toDigits 10 m with
     | nil=>rw [e] at z;cases z
     | cons c r =>
      rw [e] at z hh
      have z:c.toNat=48:=Option.some.inj z
      exact hh (congrArg some ((Char.ofNat_toNat c).symm.trans (congrArg Char.ofNat z)))
  ·have:=dU m c hc
   unfold b1
   rw [decide_eq_true this.1,decide_eq_true this.2]
   rfl
 cases i with
 | ofNat m =>
  have hm:m < 10 ^ (39+1):=by have h2:(m:Int) < 10 ^ 40:=h2;omega
  refine key m hm _ ?_ fun e=>by subst e;rfl
  have e:=iN m
  rw [show sg (cN (Int.ofNat m))=_ from e,fE]
  intro z
  have:=dU m 45 (List.mem_of_mem_head? z)
  omega
 | negSucc m =>
  have hm:m+1 < 10 ^ (39+1):=by rw [Int.negSucc_eq] at h1;omega
  refine key (m+1) hm _ ?_ fun e=>by omega
  rw [iO]
  rfl
theorem sE {i:Int} (h:b9 i):fo (cN i)=some i:=by
 unfold fo
 rw [if_pos (pG h)]
 have hl:=(ml h).1
 cases i with
 | ofNat m =>
  have e:=iN m
  have:=intText_digits (x:=cN (Int.ofNat m)) (fun c hc=>dU m c (by rw [<-e];exact hc)) (by show sg (cN (m:Int)) ≠ [];rw [e];exact oh m) (by rw [<-aG];omega)
  rw [this,show (cN (Int.ofNat m)).cps.toList=_ from e,PySem.W.KIN.val_back]
  rfl
 | negSucc m =>
  have e:=iO m
  rw [intText_neg (x:=cN (Int.negSucc m)) e (fun c hc=>dU _ c hc) (oh _) (by rw [<-aG];omega),PySem.W.KIN.val_back]
  rfl
theorem qR {x:Str} (h:aX x):fo x=none:=by
 unfold fo
 rw [if_neg]
 intro z
 unfold cY at z
 have hl:=h.lo
 rw [<-aG] at hl
 cases e:sg x with
 | nil=>rw [e] at hl;exact absurd hl (by decide)
 | cons c r =>
  have hc:=h.az c (by show c ∈ sg x;rw [e];exact List.mem_cons_self)
  have hf:di (sg x)=sg x:=fE (by rw [e];intro z;have z:c=45:=Option.some.inj z;omega)
  rw [hf,e,List.all_cons,show b1 c=false by unfold b1;rw [decide_eq_false (show ¬ c<=57 by omega),Bool.and_false],Bool.false_and,Bool.false_and,Bool.and_false,Bool.and_false] at z
  cases z
section
variable {X:Cx}
theorem jA:cm X (.type "str") (fun vs H Q=>(∃ x:Str,vs = [.str x]/\Q (.str x) H)\/∃ i:Int,vs = [.int i]/\i.natAbs.log2 < 1920/\Q (.str (cN i)) H):=by
 intro pins s σ H xs us Q I r h
 rcases h with ⟨x,rfl,q⟩ | ⟨i,rfl,hi,q⟩
 ·obtain⟨u,rfl,t,rfl⟩:=vals1 r
  exact PySem.P.str_of_str ⟨.str x,H,I,⟨_,rfl⟩,q⟩
 ·obtain⟨u,rfl,t,rfl⟩:=vals1 r
  exact PySem.P.str_of_int hi ⟨.str (cN i),H,I.tok _,⟨_,rfl⟩,q⟩
end
section
variable {prog:Program} {w:World} {A:Around} {E:Value->Shared->Prop} {s:Shared} {Q:Value->Shared->Prop}
theorem om {x y:Str} {t u:Tok} (hy:(y.length == 0)=false) (hz:x.length+2<=sizeLine)
  (h:∀ (l:List (Str × Tok)) (k:Nat),l.map (·.1)=Txt.split x y->Q (.ref s.heap.objs.size) { s with heap:=s.heap.push { cls:=.type "list",data:=.seq (strValues l).toArray },toks:=k }) :
  wpAny (model prog w) A (call (.builtin "str.split") [.str x t,.str y u]) Q E s:=by
 by_cases h1:(decide (x.length < y.length) || decide (Builtin.Str.strKind x < Builtin.Str.strKind y))=true
 ·exact call_meets F.slot_str_split (typeIs_str _ _ _) F.entry_str_split (F.args_str_split_2 _ _) (meets_str_split_cannot_occur x y t u h1) (h [(x,t)] s.toks (if_pos h1).symm)
 have h1f:=Bool.eq_false_iff.mpr h1
 by_cases h2:(Builtin.Str.occurrences x y 0 x.length (x.length+1)).isEmpty=true
 ·exact call_meets F.slot_str_split (typeIs_str _ _ _) F.entry_str_split (F.args_str_split_2 _ _) (meets_str_split_not_found x y t u h1f hy h2) (h [(x,t)] s.toks ((if_neg h1).trans (if_pos h2)).symm)
 have h2f:=Bool.eq_false_iff.mpr h2
 have hn:(Builtin.Str.partsBetween x (Builtin.Str.occurrences x y 0 x.length (x.length+1)) y.length).length<=sizeLine:=by
  have e1:=StrLaws.occ_length_le x y 0 x.length (x.length+1)
  rw [length_partsBetween]
  omega
 refine call_meets F.slot_str_split (typeIs_str _ _ _) F.entry_str_split (F.args_str_split_2 _ _) (meets_str_split_sep x y t u h1f hy h2f (by omega) hn) ?_
 have hh:=h (numbered s.toks (Builtin.Str.partsBetween x (Builtin.Str.occurrences x y 0 x.length (x.length+1)) y.length)) (s.toks+(Builtin.Str.partsBetween x (Builtin.Str.occurrences x y 0 x.length (x.length+1)) y.length).length) ((numbered_texts _ _).trans ((if_neg h1).trans (if_neg h2)).symm)
 rw [<-strsFrom_eq] at hh
 exact hh
end
section
variable {X:Cx}
inductive sF (x:V) (vs:List V) (H:Hp) (Q:VK):Prop
 | mk (a b:Str) (_:x=.str a) (_:vs = [.str b]) (_:(b.length == 0)=false) (_:a.length<=1000000) (_:∀ l,H l=none->Q (.ref l) (upd H l (.lst ((Txt.split a b).map V.str))))
theorem iP:∀ (l:List (Str × Tok)) (xs:List Str),l.map (·.1)=xs->Vals (xs.map V.str) (strValues l)
 | [],_,e=>by subst e;exact .nil
 | (x,t) :: l,_,e=>by subst e;exact .cons ⟨t,rfl⟩ (iP l _ rfl)
theorem ij:lM X "str.split" sF:=by
 intro pins s σ H x vs v us Q I rx rv h
 obtain⟨a,b,rfl,rfl,hb,ha,q⟩:=h
 obtain⟨t,e⟩:=(show ∃ t,v=Value.str a t from rx)
 subst e
 obtain⟨u,rfl,t',rfl⟩:=vals1 rv
 have hn:=split_le a b
 have hsz:1000002<=sizeLine:=by decide
 refine om hb (by omega) fun l k e=>?_
 refine⟨.ref s.heap.objs.size,_,I.laid (t':=k) (o:=.lst ((Txt.split a b).map V.str)) (fun c o ho=>Heap.get?_push_of_some _ ho) (Nat.le_refl _) (show bA X.prog X.w _ _ _ (.lst ((Txt.split a b).map V.str)) from ⟨by rw [List.length_map];omega,strValues l,0,iP l _ e,Heap.get?_push_size _ rfl⟩),rfl,q _ (I.ai.fresh (Nat.le_refl _))⟩
end
section
variable {prog:Program} {w:World} {A:Around} {E:Value->Shared->Prop} {s:Shared}
theorem jB (hh:A.handled=none) (it l:Addr) (hne:l ≠ it) (its:Array Value):Draws prog w A it [it,l] its.size (fun i v=>its[i]? = some v) (fun i h=>h.IsTupleIter it l i/\h.IsTuple l its) where
 live:=fun _ _ st=>let ⟨o,ho,_⟩:=st.1;⟨o,ho⟩
 frame:=fun _ _ _ st hk=>⟨st.1.at fun o e=>hk it (by simp) o e,cL st.2 fun o e=>hk l (by simp) o e⟩
 item:=fun i s Q E hi st hQ=>iJ st.1 st.2 (x:=its[i]) (by simp [hi]) fun g gi sb=>hQ _ g s.toks (by simp [hi]) ⟨gi,cL st.2 fun o e=>sb.extBut _ _ hne e⟩ sb
 done:=fun s Q E st hE=>i6 hh st.1 st.2 (by simp) hE
abbrev p9 (h:Heap) (l:Addr):Heap:=h.push { cls:=.type "tuple_iterator",data:=.fields #[.ref l,.int 0 0] }
abbrev tP (h:Heap) (l:Addr):Heap:=(p9 h l).push { cls:=.type "enumerate",data:=.fields #[.none,.bool false,.ref h.objs.size,rawInt 0,.none,.none] }
theorem sG (l:Addr) (its:Array Value):Meets (Builtin.«enumerate.__new__» ⟨[.type "enumerate",.ref l],[]⟩) (fun _ R s=>s.heap.IsTuple l its/\R (.ok (.ret (.ref (p9 s.heap l).objs.size))) { s with heap:=tP s.heap l }) :=
 .of_wp fun P w' A' R' s' hh=>by
  obtain⟨hp,g,d,tk,os⟩:=s'
  obtain⟨gl,hh⟩:=hh
  have hsub:=sub_enumerate
  have la:Heap.IsTuple (Shared.heap ⟨hp,g,d,tk,os⟩) l its:=gl
  obtain⟨ol,el,cl,kl,dl⟩:=id gl
  wp_walk using AutoSeq1.wpAny_loadPart' el
  refine wpAny_stack_any fun st=>wpAny_pure ?_
  split
  ·rename_i c _ _ _ _ _
   cases (c == Value.type "enumerate")
   ·wp_walk using AutoSeq1.wpAny_loadPart' el,wpAny_pyIter_tuple la
    exact⟨_,rfl,hh⟩
   ·wp_walk using AutoSeq1.wpAny_loadPart' el,wpAny_pyIter_tuple la
    exact⟨_,rfl,hh⟩
  ·wp_walk using AutoSeq1.wpAny_loadPart' el,wpAny_pyIter_tuple la
   exact⟨_,rfl,hh⟩
theorem qS {l:Addr} {its:Array Value} {Q:Value->Shared->Prop} (hL:s.heap.IsTuple l its)
  (h:∀ g,IsEnum g (s.heap.objs.size+1) s.heap.objs.size 0 .none->g.IsTupleIter s.heap.objs.size l 0->(∀ b o,s.heap.get? b=some o->g.get? b=some o)->Q (.ref (s.heap.objs.size+1)) { s with heap:=g }) :
  wpAny (model prog w) A (call (.type "enumerate") [.ref l]) Q E s:=by
 refine callType_new F.called_enumerate (by decide) (F.typeCall_enumerate_1 _) (F.newCall_enumerate_1 _) (fun obj=>F.args_object_init_2 obj _) F.entry_enumerate_new (sG l its) ⟨hL,?_⟩
 have hz:(p9 s.heap l).objs.size=s.heap.objs.size+1:=Heap.size_push ..
 have he:IsEnum (tP s.heap l) (p9 s.heap l).objs.size s.heap.objs.size 0 .none:=Heap.get?_push_size _ rfl
 show _/\_
 rw [hz] at he ⊢
 exact⟨⟨_,he,rfl⟩,h _ he ⟨_,Heap.get?_push_of_some _ (Heap.get?_push_size _ rfl),rfl,rfl⟩ fun b o x=>Heap.get?_push_of_some _ (Heap.get?_push_of_some _ x)⟩
end
def kA (Sq:Hp->Addr->List V->Prop) (a:Addr):It :=
 ⟨fun i H=>∃ xs x,Sq H a xs/\xs[i]? = some x,
  fun i H v H'=>∃ t x,v=.ref t/\H t=none/\H' = upd H t (.tup [.int (i:Nat),x])/\∀ xs,Sq H a xs->xs[i]? = some x,
  fun i H=>∃ xs,Sq H a xs/\xs.length=i⟩
section
variable {X:Cx} {pins:List (Addr × Obj)} {σ : List (Option V)} {H:Hp} {s:Shared}
theorem mn {a e it:Addr} {n i:Nat} {x:V} {Pv:Nat->Value->Prop} {St:Nat->Heap->Prop} {E:Value->Shared->Prop} {elts:List Expr} {kk:Nat} {pos:Pos}
  (D:Draws X.prog X.w X.A.in1 it [it,a] n Pv St) (I:Inv X pins σ H s) (hf:∀ b ∈ [e,it],df X pins H b) (he:∃ old,IsEnum s.heap e it i old) (hst:St i s.heap) (hlt:i < n) (hne:e ≠ it) (hea:e ≠ a) (hx:∀ v,Pv i v->RelV x v) :
  wpAny (model X.prog X.w) X.A (pyNext (.ref e)) (fun r s1=>∃ u,r=some u /\
   wpAny (model X.prog X.w) X.A (letOwnedTupleGo (.Tuple elts kk pos) (.ref e) u) (fun _ s2=>∃ v H',Inv X pins σ H' s2/\RelV v u/\(∃ t,v=.ref t/\H t=none/\H' = upd H t (.tup [.int (i:Nat),x]))/\((∃ old,IsEnum s2.heap e it (i+1:Nat) old)/\St (i+1) s2.heap)/\∀ b ∈ [e,it],H' b=none) E s1) E s:=by
 obtain⟨old,he⟩:=he
 have lite:it < s.heap.objs.size:=by obtain⟨_,y⟩:=D.live _ _ hst;exact Heap.lt_size y
 have lee:e < s.heap.objs.size:=Heap.lt_size he
 have sz:∀ c ∈ [e,it],c ≠ s.heap.objs.size:=fun c hc z=>by
  subst z
  simp only [List.mem_cons,List.not_mem_nil,or_false] at hc
  rcases hc with z | z
  ·rw [<-z] at lee;exact absurd lee (Nat.lt_irrefl _)
  ·rw [<-z] at lite;exact absurd lite (Nat.lt_irrefl _)
 refine wpAny_pyNext_enum_itemD D he hst hlt hne (by simp only [List.mem_cons,List.not_mem_nil,or_false,not_or];exact⟨hne,hea⟩) fun xv h' tk px ho hs' hT hsz hk=>?_
 refine⟨.ref s.heap.objs.size,rfl,wpAny_letOwnedTupleGo_enum ho fun g' ge sb=>?_⟩
 have fr:=I.ai.fresh (a:=s.heap.objs.size) (Nat.le_refl _)
 have I1:Inv X pins σ (upd H s.heap.objs.size (.tup [.int (i:Nat),x])) { s with heap:=s.heap.push { cls:=.type "tuple",data:=.seq #[.int i tk,xv] },toks:=tk+1 } :=
  I.laid (fun _ _ e=>Heap.get?_push_of_some _ e) (Nat.le_refl _) ⟨by show 2<=sizeLine;decide,[.int i tk,xv],.cons ⟨tk,rfl⟩ (.cons (hx xv px) .nil),by first | exact IsTup.new _ _ | exact⟨_,Heap.get?_push_size _ rfl,rfl,_,rfl,rfl⟩⟩
 have f1:∀ c ∈ [e,it],df X pins (upd H s.heap.objs.size (.tup [.int (i:Nat),x])) c:=fun c hc=>by
  obtain⟨f0,fr'⟩:=hf c hc
  exact⟨by rw [ao (sz c hc)];exact f0,fr'⟩
 have I2:Inv X pins σ (upd H s.heap.objs.size (.tup [.int (i:Nat),x])) { s with heap:=g',toks:=tk+1 }:=Inv.fm (s:={ s with heap:=s.heap.push { cls:=.type "tuple",data:=.seq #[.int i tk,xv] },toks:=tk+1 }) (fp:=[e,it]) (h':=g') (t':=tk+1) I1 (fun c o hc q=>by
  simp only [List.mem_cons,List.not_mem_nil,or_false,not_or] at hc
  refine sb.extBut _ _ hc.1 ?_
  rcases Heap.get?_push_cases q with ⟨rfl,rfl⟩ | q
  ·exact hT
  ·exact hk c o hc.1 hc.2 q) f1
 refine⟨.ref s.heap.objs.size,_,I2,rfl,⟨_,rfl,fr,rfl⟩,⟨⟨xv,by simpa using ge⟩,D.frame _ _ _ hs' fun b hb o q=>(sb.2 b fun z=>?_).trans q⟩,fun c hc=>(f1 c hc).1⟩
 subst z
 simp only [List.mem_cons,List.not_mem_nil,or_false] at hb
 exact hb.elim hne hea
theorem mO {P:Program} {w:World} {K:PySem.W.Frag} {elts:List Expr} {kk:Nat} {pos:Pos} (a e it:Addr) (hne:e ≠ it) (hea:e ≠ a) (hia:a ≠ it) :
  Turn P w K (.Tuple elts kk pos) (kA (aJ K) a) [e,it] e (fun i h=>(∃ old,IsEnum h e it (i:Nat) old)/\h.IsTupleIter it a i) where
 mem:=by simp
 obj:=fun i h st c hc=>by
  obtain⟨⟨old,ge⟩,⟨oj,ej,cj,dj⟩⟩:=st
  simp only [List.mem_cons,List.not_mem_nil,or_false] at hc
  rcases hc with rfl | rfl
  ·exact⟨_,ge,fun v e=>by cases e⟩
  ·exact⟨oj,ej,fun v e=>by rw [dj] at e;cases e⟩
 keep:=fun i h g st kp=>by
  obtain⟨⟨old,ge⟩,⟨oj,ej,rj⟩⟩:=st
  exact⟨⟨old,kp e (by simp) _ ge⟩,⟨oj,kp it (by simp) _ ej,rj⟩⟩
 item:=by
  intro X hP hw hK hc i pins s σ H E I hf st hg
  subst hP hw hK
  obtain⟨xs,x,ha,hx⟩:=hg
  obtain⟨is,ra,pa,_⟩:=I.tuple ha
  have la:=ra.length
  have hil:i < is.toArray.size:=by have:=(List.getElem?_eq_some_iff.mp hx).1;simp;omega
  refine wpAny_mono (mn (elts:=elts) (kk:=kk) (pos:=pos) (jB (A:=X.A.in1) (I.ok.hd hc) it a hia is.toArray) I hf st.1 ⟨st.2,show s.heap.IsTuple a is.toArray from pa⟩ hil hne hea (x:=x) (fun v hv=>?_)) (fun r s1 hr=>?_) fun _ _ z=>z
  ·obtain⟨u,hu,ru⟩:=ra.get hx
   have:is[i]? = some v:=by simpa using hv
   rw [hu] at this
   cases this
   exact ru
  ·obtain⟨u,e1,hgo⟩:=hr
   refine⟨u,e1,wpAny_mono hgo (fun _ s2 ⟨v,H',I',rv,⟨t,e2,ht,e3⟩,⟨g1,g2⟩,g3⟩=>⟨v,H',I',rv,⟨t,x,e2,ht,e3,fun xs' h1=>by rw [I.eJ h1 ha];exact hx⟩,⟨g1,g2.1⟩,g3⟩) fun _ _ z=>z⟩
 done:=by
  intro X hP hw hK hc i pins s σ H E I hf st hg
  subst hP hw hK
  obtain⟨xs,ha,hl⟩:=hg
  obtain⟨is,ra,pa,_⟩:=I.tuple ha
  obtain⟨⟨old,ge⟩,gi⟩:=st
  have la:=ra.length
  have hsz:is.toArray.size=i:=by simp;omega
  refine wpAny_pyNext_enum_endD (jB (A:=X.A.in1) (I.ok.hd hc) it a hia is.toArray) ge ⟨by rw [hsz];exact gi,show s.heap.IsTuple a is.toArray from pa⟩ fun h' eb=>⟨rfl,I.fm (fp:=[e,it]) (t':=s.toks) (fun c o hc q=>?_) hf⟩
  simp only [List.mem_cons,List.not_mem_nil,or_false,not_or] at hc
  exact eb c o hc.2 q
 self:=fun _ _ _ _ _ st h=>wpAny_pyIter_enum st.1.choose_spec h
theorem mP {P:Program} {w:World} {K:PySem.W.Frag} {elts:List Expr} {kk:Nat} {pos:Pos} (a e it:Addr) (hne:e ≠ it) (hea:e ≠ a) (hia:a ≠ it) :
  Turn P w K (.Tuple elts kk pos) (kA (ax K) a) [e,it] e (fun i h=>(∃ old,IsEnum h e it (i:Nat) old)/\h.IsListIter it a i) where
 mem:=by simp
 obj:=fun i h st c hc=>by
  obtain⟨⟨old,ge⟩,⟨oj,ej,cj,dj⟩⟩:=st
  simp only [List.mem_cons,List.not_mem_nil,or_false] at hc
  rcases hc with rfl | rfl
  ·exact⟨_,ge,fun v e=>by cases e⟩
  ·exact⟨oj,ej,fun v e=>by rw [dj] at e;cases e⟩
 keep:=fun i h g st kp=>by
  obtain⟨⟨old,ge⟩,⟨oj,ej,rj⟩⟩:=st
  exact⟨⟨old,kp e (by simp) _ ge⟩,⟨oj,kp it (by simp) _ ej,rj⟩⟩
 item:=by
  intro X hP hw hK hc i pins s σ H E I hf st hg
  subst hP hw hK
  obtain⟨xs,x,ha,hx⟩:=hg
  obtain⟨is,ra,pa,_⟩:=I.list ha
  have la:=ra.length
  have hil:i < is.toArray.size:=by have:=(List.getElem?_eq_some_iff.mp hx).1;simp;omega
  refine wpAny_mono (mn (elts:=elts) (kk:=kk) (pos:=pos) (Draws.list (A:=X.A.in1) (I.ok.hd hc) it a hia is.toArray) I hf st.1 ⟨st.2,pa.isList⟩ hil hne hea (x:=x) (fun v hv=>?_)) (fun r s1 hr=>?_) fun _ _ z=>z
  ·obtain⟨u,hu,ru⟩:=ra.get hx
   have:is[i]? = some v:=by simpa using hv
   rw [hu] at this
   cases this
   exact ru
  ·obtain⟨u,e1,hgo⟩:=hr
   refine⟨u,e1,wpAny_mono hgo (fun _ s2 ⟨v,H',I',rv,⟨t,e2,ht,e3⟩,⟨g1,g2⟩,g3⟩=>⟨v,H',I',rv,⟨t,x,e2,ht,e3,fun xs' h1=>by rw [I.jZ h1 ha];exact hx⟩,⟨g1,g2.1⟩,g3⟩) fun _ _ z=>z⟩
 done:=by
  intro X hP hw hK hc i pins s σ H E I hf st hg
  subst hP hw hK
  obtain⟨xs,ha,hl⟩:=hg
  obtain⟨is,ra,pa,_⟩:=I.list ha
  obtain⟨⟨old,ge⟩,gi⟩:=st
  have la:=ra.length
  have hsz:is.toArray.size=i:=by simp;omega
  refine wpAny_pyNext_enum_endD (Draws.list (A:=X.A.in1) (I.ok.hd hc) it a hia is.toArray) ge ⟨by rw [hsz];exact gi,pa.isList⟩ fun h' eb=>⟨rfl,I.fm (fp:=[e,it]) (t':=s.toks) (fun c o hc q=>?_) hf⟩
  simp only [List.mem_cons,List.not_mem_nil,or_false,not_or] at hc
  exact eb c o hc.2 q
 self:=fun _ _ _ _ _ st h=>wpAny_pyIter_enum st.1.choose_spec h
theorem kB:bootBuiltins "enumerate" = some (.type "enumerate"):=by decide +kernel
def tw (K:PySem.W.Frag) (ta:TA):TI:=fun σ H R=>ta σ H fun vs H1=>∃ a,vs = [.ref a]/\((∃ xs,aJ K H1 a xs)/\R (kA (aJ K) a) H1\/(∃ xs,ax K H1 a xs)/\R (kA (ax K) a) H1)
theorem qT {a:Expr} {ta:TA} {p pos tp:Pos} {elts:List Expr} {kk:Nat} (hg:Gl X "enumerate") (hm:X.mg "enumerate" = none) (ha:PA X [a] ta) (hs:starEach [a] X.env = [(false,eval a X.env)]:=by rfl) :
  PI X (.Tuple elts kk tp) (.Call (.Name "enumerate" p) [a] [] pos) (tw X.K ta):=by
 intro pins s σ H R I h
 refine Call_ (fg I hg hm kB (PyProof.Rows.callWith_type1 (aB (ha pos pins s σ H _ I h) fun us s1 ⟨vs,H1,I1,r1,q1⟩=>?_) hs rfl))
 obtain⟨x,e,q⟩:=q1
 subst e
 cases r1 with
 | cons r rr =>
  cases rr
  cases r
  have le1:∀ c ∈ [s1.heap.objs.size+1,s1.heap.objs.size],s1.heap.objs.size<=c:=fun c hc=>by
   simp only [List.mem_cons,List.not_mem_nil,or_false] at hc
   rcases hc with rfl | rfl
   ·exact Nat.le_succ _
   ·exact Nat.le_refl _
  rcases q with ⟨⟨xs,hx⟩,q⟩ | ⟨⟨xs,hx⟩,q⟩
  ·obtain⟨is,rx,px,_⟩:=I1.tuple hx
   have lx:x < s1.heap.objs.size:=px.lt
   refine qS (show s1.heap.IsTuple x is.toArray from px) fun g ge gi up=>?_
   refine wpAny_pyIter_enum ge ?_
   have I2:Inv X pins σ H1 { s1 with heap:=g }:=I1.kept (t':=s1.toks) up
   exact⟨_,[s1.heap.objs.size+1,s1.heap.objs.size],_,kA (aJ X.K) x,H1,rfl,I2,mO x _ _ (Nat.ne_of_gt (Nat.lt_succ_self _)) (Nat.ne_of_gt (Nat.lt_succ_of_lt lx)) (Nat.ne_of_lt lx),⟨⟨_,ge⟩,gi⟩,fun c hc=>I1.eS (le1 c hc) (I1.ai.fresh (le1 c hc)),q⟩
  ·obtain⟨is,rx,px,_⟩:=I1.list hx
   have lx:x < s1.heap.objs.size:=by obtain⟨o,eo,_⟩:=px.isList;exact Heap.lt_size eo
   refine call_enumerate_list px.isList fun g ge gi _ up=>?_
   refine wpAny_pyIter_enum ge ?_
   have I2:Inv X pins σ H1 { s1 with heap:=g }:=I1.kept (t':=s1.toks) up
   exact⟨_,[s1.heap.objs.size+1,s1.heap.objs.size],_,kA (ax X.K) x,H1,rfl,I2,mP x _ _ (Nat.ne_of_gt (Nat.lt_succ_self _)) (Nat.ne_of_gt (Nat.lt_succ_of_lt lx)) (Nat.ne_of_lt lx),⟨⟨_,ge⟩,gi⟩,fun c hc=>I1.eS (le1 c hc) (I1.ai.fresh (le1 c hc)),q⟩
end
theorem qU {Sq:Hp->Addr->List V->Prop} {a acc:Addr} {xs:List V} {n:Nat} {js:List Nat} {g:TG} {ct:TT} {te:TE} {σ : St} {H1:Hp} {Q:VK} (Pv:Nat->List V->St->Hp->Prop) (h0:Pv 0 [] (fT n js σ) (upd H1 acc (.lst [])))
  (hl:∀ i zs τ H,i<=xs.length->Pv i zs τ H->Sq H a xs/\H acc=some (.lst zs)/\zs.length < sizeLine)
  (hs:∀ i x zs τ H t,xs[i]? = some x->H t=none->Pv i zs τ H->g (.ref t) τ (upd H t (.tup [.int (i:Nat),x])) fun τ1 H4=>ct τ1 H4 fun b H5=>if b=true then te τ1 H5 fun v H6=>H6 acc=some (.lst zs)/\Pv (i+1) (zs ++ [v]) τ1 (upd H6 acc (.lst (zs ++ [v]))) else Pv (i+1) zs τ1 H5)
  (hd:∀ zs τ H,Pv xs.length zs τ H->Q (.ref acc) H) :
  jo (kA Sq a) n js g ct te acc σ H1 Q:=by
 refine⟨fun i m zs τ H=>m=xs.length - i/\i<=xs.length/\Pv i zs τ H,⟨xs.length,by simp,Nat.zero_le _,h0⟩,?_⟩
 rintro i m zs τ H ⟨rfl,hi,p⟩
 obtain⟨qa,q2,q3⟩:=hl i zs τ H hi p
 refine⟨q2,q3,?_⟩
 by_cases hlt:i < xs.length
 ·refine .inr ⟨⟨xs,xs[i],qa,by simp [hlt]⟩,Pv (i+1),fun zs' τ' H' p'=>⟨xs.length - (i+1),by omega,rfl,hlt,p'⟩,fun v H' y=>?_⟩
  obtain⟨t,x,rfl,ht,rfl,h⟩:=y
  exact hs i x zs τ H t (h xs qa) ht p
 ·have e:i=xs.length:=by omega
  subst e
  exact .inl ⟨⟨xs,qa,rfl⟩,hd zs τ H p⟩
def aS:PyData->Str
 | .str x=>x
 | .int i=>cN i
 | _ => ""
def ik (d:PyData):Prop:=(∃ x,d=.str x/\aX x)\/∃ i,d=.int i/\b9 i
def stepT (ds:List PyData):Str:=Txt.join " " (ds.map aS)
def eV:PyData->List PyData
 | .tuple ds=>ds
 | _=>[]
def aQ (p:Piece):List (List PyData):=(p.1.map fun d=>eV (ba d)) ++ [eV (b7 p.2)]
def ay (p:Piece):Str:=Txt.join "; " ((aQ p).map stepT)
def dP (ps:List Piece):Str:=Txt.join "\n" (ps.map ay)
structure gB (ds:List PyData):Prop where
 hd:∃ x r,ds=.str x :: r
 ok:∀ d ∈ ds,ik d
 cZ:ds.length<=5
structure dA (xs:List Str) (m c:Nat) (p:Piece):Prop where
 nm:∀ x ∈ xs,aX x
 cZ:p.1.length<=m
 ds:∀ d ∈ p.1,cE xs d
 en:dJ xs c p.2
theorem tQ {x:Str} (h:(decide (1<=x.length) && (decide (x.length<=8) && (sg x).all fun c=>decide (97<=c) && decide (c<=122)))=true):aX x:=by
 rw [Bool.and_eq_true,Bool.and_eq_true] at h
 refine⟨of_decide_eq_true h.1,of_decide_eq_true h.2.1,fun c hc=>?_⟩
 have:=List.all_eq_true.mp h.2.2 c hc
 rw [Bool.and_eq_true] at this
 exact⟨of_decide_eq_true this.1,of_decide_eq_true this.2⟩
theorem gC {p c:Nat} (h:p < c) (hc:c<=400):b9 (p:Int):=by
 unfold b9
 omega
theorem gW {xs:List Str} (hn:∀ x ∈ xs,aX x) {d:eg} (h:cE xs d):gB (eV (ba d))/\ba d=.tuple (eV (ba d)):=by
 have W:∀ {x:Str},(decide (1<=x.length) && (decide (x.length<=8) && (sg x).all fun c=>decide (97<=c) && decide (c<=122)))=true->ik (.str x):=fun h=>.inl ⟨_,rfl,tQ h⟩
 cases d with
 | put x n =>
  refine⟨⟨⟨_,_,rfl⟩,fun e he=>?_,(by show 3<=5;decide)⟩,rfl⟩
  rcases List.mem_cons.mp he with rfl | he;· exact W (by decide +kernel)
  rcases List.mem_cons.mp he with rfl | he;· exact .inl ⟨_,rfl,hn _ h.1⟩
  rw [List.mem_singleton.mp he];exact .inr ⟨_,rfl,h.2⟩
 | copy x y =>
  refine⟨⟨⟨_,_,rfl⟩,fun e he=>?_,(by show 3<=5;decide)⟩,rfl⟩
  rcases List.mem_cons.mp he with rfl | he;· exact W (by decide +kernel)
  rcases List.mem_cons.mp he with rfl | he;· exact .inl ⟨_,rfl,hn _ h.1⟩
  rw [List.mem_singleton.mp he];exact .inl ⟨_,rfl,hn _ h.2⟩
 | add x n =>
  refine⟨⟨⟨_,_,rfl⟩,fun e he=>?_,(by show 3<=5;decide)⟩,rfl⟩
  rcases List.mem_cons.mp he with rfl | he;· exact W (by decide +kernel)
  rcases List.mem_cons.mp he with rfl | he;· exact .inl ⟨_,rfl,hn _ h.1⟩
  rw [List.mem_singleton.mp he];exact .inr ⟨_,rfl,h.2⟩
 | read x =>
  refine⟨⟨⟨_,_,rfl⟩,fun e he=>?_,(by show 2<=5;decide)⟩,rfl⟩
  rcases List.mem_cons.mp he with rfl | he;· exact W (by decide +kernel)
  rw [List.mem_singleton.mp he];exact .inl ⟨_,rfl,hn _ h⟩
 | tell x =>
  refine⟨⟨⟨_,_,rfl⟩,fun e he=>?_,(by show 2<=5;decide)⟩,rfl⟩
  rcases List.mem_cons.mp he with rfl | he;· exact W (by decide +kernel)
  rw [List.mem_singleton.mp he];exact .inl ⟨_,rfl,hn _ h⟩
theorem iQ {xs:List Str} (hn:∀ x ∈ xs,aX x) {c:Nat} {e:End} (h:dJ xs c e) (hc:c<=400):gB (eV (b7 e))/\b7 e=.tuple (eV (b7 e)):=by
 have W:∀ {x:Str},(decide (1<=x.length) && (decide (x.length<=8) && (sg x).all fun c=>decide (97<=c) && decide (c<=122)))=true->ik (.str x):=fun h=>.inl ⟨_,rfl,tQ h⟩
 cases e with
 | stop =>
  refine⟨⟨⟨_,_,rfl⟩,fun e he=>?_,(by show 1<=5;decide)⟩,rfl⟩
  rw [List.mem_singleton.mp he];exact W (by decide +kernel)
 | go p =>
  refine⟨⟨⟨_,_,rfl⟩,fun e he=>?_,(by show 2<=5;decide)⟩,rfl⟩
  rcases List.mem_cons.mp he with rfl | he;· exact W (by decide +kernel)
  rw [List.mem_singleton.mp he];exact .inr ⟨_,rfl,gC h hc⟩
 | kf b x n p q =>
  refine⟨⟨⟨_,_,rfl⟩,fun e he=>?_,(by show 5<=5;decide)⟩,rfl⟩
  rcases List.mem_cons.mp he with rfl | he;· cases b <;> exact W (by decide +kernel)
  rcases List.mem_cons.mp he with rfl | he;· exact .inl ⟨_,rfl,hn _ h.1⟩
  rcases List.mem_cons.mp he with rfl | he;· exact .inr ⟨_,rfl,h.2.1⟩
  rcases List.mem_cons.mp he with rfl | he;· exact .inr ⟨_,rfl,gC h.2.2.1 hc⟩
  rw [List.mem_singleton.mp he];exact .inr ⟨_,rfl,gC h.2.2.2 hc⟩
theorem il {d:PyData} (h:ik d):∀ c ∈ sg (aS d),c=45\/(48<=c/\c<=57)\/(97<=c/\c<=122):=by
 rcases h with ⟨x,rfl,h⟩ | ⟨i,rfl,h⟩
 ·exact fun c hc=>.inr (.inr (h.az c hc))
 ·exact fun c hc=>(oi c hc).imp id .inl
theorem iR {d:PyData} (h:ik d):(aS d).length<=41:=by
 rcases h with ⟨x,rfl,h⟩ | ⟨i,rfl,h⟩
 ·have:=h.hi
  show x.length<=41
  omega
 ·show (cN i).length<=41
  rw [<-aG]
  exact (ml h).1
def kC (x:Str):PyData:=match fo x with
 | some i=>.int i
 | none=>.str x
theorem tD {d:PyData} (h:ik d):kC (aS d)=d:=by
 rcases h with ⟨x,rfl,h⟩ | ⟨i,rfl,h⟩
 ·show (match fo x with | some i=>PyData.int i | none=>PyData.str x)=_
  rw [qR h]
 ·show (match fo (cN i) with | some i=>PyData.int i | none=>PyData.str (cN i))=_
  rw [sE h]
theorem qc:sg (" " : Str)=32 :: []:=by decide +kernel
theorem qd:sg ("; " : Str)=59 :: [32]:=by decide +kernel
theorem tE:sg ("\n" : Str)=10 :: []:=by decide +kernel
theorem qV:PySem.Builtin.Str.strKind (" " : Str)=1:=by decide +kernel
theorem qW:PySem.Builtin.Str.strKind ("; " : Str)=1:=by decide +kernel
theorem qX:PySem.Builtin.Str.strKind ("\n" : Str)=1:=by decide +kernel
theorem mQ {ds:List PyData} (h:gB ds):Txt.split (stepT ds) " " = ds.map aS:=by
 obtain⟨x,r,rfl⟩:=h.hd
 have no:∀ d ∈ PyData.str x :: r,32 ∉ sg (aS d):=fun d hd hc=>by
  have:=il (h.ok d hd) 32 hc
  omega
 exact fH qc qV (no _ List.mem_cons_self) fun q hq=>by
  obtain⟨d,hd,rfl⟩:=List.mem_map.mp hq
  exact no d (List.mem_cons_of_mem _ hd)
theorem iS {z p:Str} {qs:List Str} {c:Nat} (h:c ∈ sg (Txt.join z (p :: qs))):c ∈ sg z\/∃ q ∈ p :: qs,c ∈ sg q:=by
 rw [ja] at h
 rcases List.mem_append.mp h with h | h
 ·exact .inr ⟨p,List.mem_cons_self,h⟩
 ·obtain⟨l,hl,hc⟩:=List.mem_flatMap.mp h
  obtain⟨q,hq,rfl⟩:=List.mem_map.mp hl
  rcases List.mem_append.mp hc with hc | hc
  ·exact .inl hc
  ·exact .inr ⟨q,List.mem_cons_of_mem _ hq,hc⟩
theorem iT {ds:List PyData} (h:gB ds):∀ c ∈ sg (stepT ds),c=32\/c=45\/(48<=c/\c<=57)\/(97<=c/\c<=122):=fun c hc=>by
 obtain⟨x,r,rfl⟩:=h.hd
 rcases iS hc with hc | ⟨q,hq,hc⟩
 ·rw [qc] at hc
  exact .inl (List.mem_singleton.mp hc)
 ·obtain⟨d,hd,rfl⟩:=List.mem_map.mp (show q ∈ (PyData.str x :: r).map aS from hq)
  exact .inr (il (h.ok d hd) c hc)
theorem ip {z:Str} {k:Nat}:∀ {qs:List Str} {p:Str},(∀ q ∈ p :: qs,q.length<=k)->(Txt.join z (p :: qs)).length<=(qs.length+1) * (k+z.length):=by
 intro qs p h
 rw [<-aG,ja,List.length_append]
 have hp:=h p List.mem_cons_self
 have e:((qs.map sg).flatMap fun q=>sg z++q).length<=qs.length * (k+z.length):=by
  have h':∀ q ∈ qs,q.length<=k:=fun q hq=>h q (List.mem_cons_of_mem _ hq)
  clear h hp
  induction qs with
  | nil=>exact Nat.zero_le _
  | cons q qs ih =>
   rw [List.map_cons,List.flatMap_cons,List.length_append,List.length_append,aG,aG,List.length_cons,Nat.succ_mul]
   have:=ih fun q' h=>h' q' (List.mem_cons_of_mem _ h)
   have:=h' q List.mem_cons_self
   omega
 rw [aG,Nat.succ_mul]
 omega
theorem fI {ds:List PyData} (h:gB ds):(stepT ds).length<=210:=by
 obtain⟨x,r,rfl⟩:=h.hd
 have h1:(stepT (.str x :: r)).length<=((r.map aS).length+1) * (41+(" " : Str).length):=ip (p:=aS (.str x)) (qs:=r.map aS) fun q hq=>by
  obtain⟨d,hd,rfl⟩:=List.mem_map.mp (show q ∈ (PyData.str x :: r).map aS from hq)
  exact iR (h.ok d hd)
 have h2:=h.cZ
 rw [List.length_cons] at h2
 rw [List.length_map,show (" " : Str).length=1 by decide +kernel] at h1
 have:(r.length+1) * (41+1)<=5 * 42:=Nat.mul_le_mul (by omega) (Nat.le_refl _)
 omega
theorem cO {xs:List Str} {m c:Nat} {p:Piece} (h:dA xs m c p) (hc:c<=400):∀ ds ∈ aQ p,gB ds:=fun ds hd=>by
 rcases List.mem_append.mp hd with hd | hd
 ·obtain⟨d,hd',rfl⟩:=List.mem_map.mp hd
  exact (gW h.nm (h.ds d hd')).1
 ·rw [List.mem_singleton.mp hd]
  exact (iQ h.nm h.en hc).1
theorem eW (p:Piece):∃ s r,aQ p=s :: r:=by
 unfold aQ
 cases p.1 with
 | nil=>exact⟨_,_,rfl⟩
 | cons d ds=>exact⟨_,_,rfl⟩
theorem kU {xs:List Str} {m c:Nat} {p:Piece} (h:dA xs m c p) (hc:c<=400):Txt.split (ay p) "; " = (aQ p).map stepT:=by
 have ok:=cO h hc
 unfold ay
 obtain⟨s,r,e⟩:=eW p
 rw [e] at ok ⊢
 have no:∀ ds ∈ s :: r,59 ∉ sg (stepT ds):=fun ds hd hc'=>by
  have:=iT (ok ds hd) 59 hc'
  omega
 exact fH qd qW (no _ List.mem_cons_self) fun q hq=>by
  obtain⟨d,hd,rfl⟩:=List.mem_map.mp hq
  exact no d (List.mem_cons_of_mem _ hd)
theorem hV {xs:List Str} {m c:Nat} {p:Piece} (h:dA xs m c p) (hc:c<=400):∀ x ∈ sg (ay p),x=59\/x=32\/x=45\/(48<=x/\x<=57)\/(97<=x/\x<=122):=fun x hx=>by
 have ok:=cO h hc
 unfold ay at hx
 obtain⟨s,r,e⟩:=eW p
 rw [e] at ok hx
 rcases iS hx with hx | ⟨q,hq,hx⟩
 ·rw [qd] at hx
  rcases List.mem_cons.mp hx with hx | hx
  ·exact .inl hx
  ·exact .inr (.inl (List.mem_singleton.mp hx))
 ·obtain⟨d,hd,rfl⟩:=List.mem_map.mp (show q ∈ (s :: r).map stepT from hq)
  exact .inr (iT (ok d hd) x hx)
theorem du {xs:List Str} {m c:Nat} {p:Piece} (h:dA xs m c p) (hc:c<=400):(ay p).length<=(m+1) * 212:=by
 have ok:=cO h hc
 have hl:(aQ p).length<=m+1:=by
  unfold aQ
  rw [List.length_append,List.length_map]
  have:=h.cZ
  show _+1<=_
  omega
 unfold ay
 obtain⟨s,r,e⟩:=eW p
 rw [e] at ok hl ⊢
 have h1:(Txt.join "; " ((s :: r).map stepT)).length<=((r.map stepT).length+1) * (210+("; " : Str).length):=ip (p:=stepT s) (qs:=r.map stepT) fun q hq=>by
  obtain⟨d,hd,rfl⟩:=List.mem_map.mp (show q ∈ (s :: r).map stepT from hq)
  exact fI (ok d hd)
 rw [List.length_map,show ("; " : Str).length=2 by decide +kernel] at h1
 rw [List.length_cons] at hl
 exact Nat.le_trans h1 (Nat.mul_le_mul hl (Nat.le_refl _))
theorem mR {xs:List Str} {m c:Nat} {ps:List Piece} (h:∀ p ∈ ps,dA xs m c p) (hc:c<=400) (h0:0 < ps.length):Txt.split (dP ps) "\n" = ps.map ay:=by
 obtain⟨p,r,rfl⟩:=List.exists_cons_of_length_pos h0
 have no:∀ q ∈ p :: r,10 ∉ sg (ay q):=fun q hq hx=>by
  have:=hV (h q hq) hc 10 hx
  omega
 exact fH tE qX (no _ List.mem_cons_self) fun q hq=>by
  obtain⟨d,hd,rfl⟩:=List.mem_map.mp hq
  exact no d (List.mem_cons_of_mem _ hd)
theorem kF {xs:List Str} {m c:Nat} {ps:List Piece} (h:∀ p ∈ ps,dA xs m c p) (hc:c<=400) (h0:0 < ps.length) (hb:ps.length * (m+1)<=400):(dP ps).length<=90000:=by
 obtain⟨p,r,rfl⟩:=List.exists_cons_of_length_pos h0
 have h1:(dP (p :: r)).length<=((r.map ay).length+1) * ((m+1) * 212+("\n" : Str).length):=ip (p:=ay p) (qs:=r.map ay) fun q hq=>by
  obtain⟨d,hd,rfl⟩:=List.mem_map.mp (show q ∈ (p :: r).map ay from hq)
  exact du (h d hd) hc
 rw [List.length_map,show ("\n" : Str).length=1 by decide +kernel] at h1
 rw [List.length_cons] at hb
 have e:(r.length+1) * ((m+1) * 212+1)=((r.length+1) * (m+1)) * 212+(r.length+1):=by
  rw [Nat.mul_add,Nat.mul_one,Nat.mul_assoc]
 have h2:(r.length+1) * 1<=(r.length+1) * (m+1):=Nat.mul_le_mul (Nat.le_refl _) (by omega)
 omega
def vW (x:Str):V:=match fo x with
 | some i=>.int i
 | none=>.str x
theorem tF {H:Hp} (x:Str):aI H (vW x) (kC x):=by
 unfold vW kC
 cases fo x with
 | none=>exact .str _
 | some i=>exact .int _
inductive mq (vs:List V) (H:Hp) (Q:VK) (_:XK):Prop
 | mk (x:V) (ds:List PyData) (_:vs = [x]) (_:aI H x (.tuple ds)) (_:gB ds) (_:∀ H',ab H H'->Q (.str (stepT ds)) H')
inductive cG (vs:List V) (H:Hp) (Q:VK) (_:XK):Prop
 | mk (x:V) (p:Piece) (xs:List Str) (m c:Nat) (_:vs = [x]) (_:aI H x (aW p)) (_:dA xs m c p) (_:m<=12) (_:c<=400) (_:∀ H',ab H H'->Q (.str (ay p)) H')
inductive iU (vs:List V) (H:Hp) (Q:VK) (_:XK):Prop
 | mk (x:V) (ps:List Piece) (xs:List Str) (m c:Nat) (_:vs = [x]) (_:aI H x (cV ps)) (_:∀ p ∈ ps,dA xs m c p) (_:m<=12) (_:c<=400) (_:ps.length<=400) (_:∀ H',ab H H'->Q (.str (dP ps)) H')
inductive oo (vs:List V) (H:Hp) (Q:VK) (_:XK):Prop
 | mk (x:Str) (_:vs = [.str x]) (_:lX 600 x) (_:∀ H',ab H H'->Q (vW x) H')
inductive kG (vs:List V) (H:Hp) (Q:VK) (_:XK):Prop
 | mk (ds:List PyData) (_:vs = [.str (stepT ds)]) (_:gB ds) (_:∀ (t:Addr) H',aI H' (.ref t) (.tuple ds)->ab H H'->Q (.ref t) H')
inductive eX (vs:List V) (H:Hp) (Q:VK) (_:XK):Prop
 | mk (p:Piece) (xs:List Str) (m c:Nat) (at_:Int) (_:vs = [.str (ay p),.int (c:Nat),.int at_]) (_:dA xs m c p) (_:m<=12) (_:c<=400) (_:∀ v H',aI H' v (aW p)->ab H H'->Q v H')
inductive iV (vs:List V) (H:Hp) (Q:VK) (_:XK):Prop
 | mk (ps:List Piece) (xs:List Str) (m:Nat) (_:vs = [.str (dP ps)]) (_:∀ p ∈ ps,dA xs m ps.length p) (_:m<=12) (_:0 < ps.length) (_:ps.length<=400) (_:ps.length * (m+1)<=400) (_:∀ v H',aI H' v (cV ps)->ab H H'->Q v H')
theorem tG {d:PyData} (h:ik d):lX 600 (aS d):=⟨Nat.le_trans (iR h) (by decide),fun c hc=>by
  have:=il h c hc
  omega⟩
theorem mr {i:Int} (h:b9 i):i.natAbs.log2 < 1920:=by
 obtain⟨h1,h2⟩:=h
 by_cases hz:i.natAbs=0
 ·rw [hz];decide
 rw [Nat.log2_lt hz]
 have:i.natAbs < 10 ^ 40:=by omega
 exact Nat.lt_of_lt_of_le this (by decide +kernel)
theorem eD:∀ {k:Nat} (ys:List Str),(∀ y ∈ ys,y.length<=k)->(ys.map (·.length)).sum<=ys.length * k
 | k,[],_=>Nat.zero_le _
 | k,y :: ys,h=>by
  rw [List.map_cons,List.sum_cons,List.length_cons,Nat.succ_mul]
  have:=eD ys fun z hz=>h z (List.mem_cons_of_mem _ hz)
  have:=h y List.mem_cons_self
  omega
theorem ar.snoc_inv {H:Hp} {d:PyData}:∀ {ds:List PyData} {xs:List V},ar H xs (ds ++ [d])->∃ ys y,xs=ys ++ [y]/\ar H ys ds/\aI H y d
 | [],xs,h=>by
  obtain⟨x,r,rfl,h1,h2⟩:=ar.cons_inv h
  have z:=h2.nil_inv
  subst z
  exact⟨[],x,rfl,.nil,h1⟩
 | e :: ds,xs,h=>by
  obtain⟨x,r,rfl,h1,h2⟩:=ar.cons_inv h
  obtain⟨ys,y,rfl,h3,h4⟩:=ar.snoc_inv h2
  exact⟨x :: ys,y,rfl,.cons h1 h3,h4⟩
theorem oq {xs:List Str} {m c:Nat} {p:Piece} (h:dA xs m c p) (hm:m<=12):bQ (aW p)=true:=by
 have hl:=h.cZ
 refine i9 (by show 2<=1000;decide) fun e he=>?_
 rcases List.mem_cons.mp he with rfl | he
 ·refine i9 (by rw [List.length_map];omega) fun e he=>?_
  obtain⟨d,hd,rfl⟩:=List.mem_map.mp he
  exact ie (oa h.nm (h.ds d hd))
 ·rw [List.mem_singleton.mp he]
  exact ie (pE h.nm h.en)
theorem pH {xs:List V} {x:V}:cS (xs ++ [x]) none (some (-1))=xs:=by
 unfold cS
 have e:HT.aH (xs ++ [x]).length (xs ++ [x]).length (some (-1))=xs.length:=by
  show (if (-1:Int) < 0 then ((-1:Int)+((xs ++ [x]).length:Int)).toNat else min (-1:Int).toNat (xs ++ [x]).length)=_
  rw [if_pos (by decide),List.length_append]
  show ((-1:Int)+((xs.length+1:Nat):Int)).toNat=_
  omega
 rw [e,HT.j7,List.drop_zero,Nat.sub_zero,List.take_left]
section
variable {X:Cx} {K:PySem.W.Frag}
theorem pI (h:X.K=K):lM X "str.join" (rJoin K):=by
 subst h
 exact cM
theorem qY {tg l:Expr} {tl:TE} (h:X.K=K) (hl:PE X l tl):PI X tg l (rH K tl):=by
 subst h
 exact dY hl
end
end L2
namespace My
open PySem PySem.Spec PyProof.Rows L2
def top (i:Nat):Stmt:=PySem.Challenge.pw_ledpast_k21_plans_there_and_back.main.body.getD i (.Pass ⟨0,0,0,0⟩)
structure Bl (mg:Str->Option Value):Prop where
 len:mg "len" = none
 min:mg "min" = none
 range:mg "range" = none
 isinstance:mg "isinstance" = none
 bool:mg "bool" = none
 int:mg "int" = none
 str:mg "str" = none
 tuple:mg "tuple" = none
 all:mg "all" = none
 zip:mg "zip" = none
 list:mg "list" = none
 enumerate:mg "enumerate" = none
abbrev fJ:Stmt:=top 6
theorem kW:aC ["thing"] ["thing"] (ah fJ):=bY
abbrev gF:Stmt:=top 7
theorem mS:aC ["thing"] ["thing"] (ah gF):=bY
abbrev gG:Stmt:=top 13
theorem mT:aC ["thing", "kind", "count"] ["thing", "kind", "count"] (ah gG):=bY
abbrev eE:Stmt:=top 14
theorem jE:aC ["thing"] ["thing"] (ah eE):=bY
abbrev eY:Stmt:=top 15
theorem kH:aC ["thing", "kinds", "count"] ["thing", "kinds", "count"] (ah eY):=bY
abbrev gH:Stmt:=top 16
theorem mU:aC ["thing"] ["thing"] (ah gH):=bY
abbrev iq:Stmt:=top 17
theorem ou:aC ["thing", "count"] ["thing", "count"] (ah iq):=bY
abbrev fK:Stmt:=top 18
theorem eZ:aC ["thing", "count", "deeds", "end"] ["thing", "count"] (ah fK):=bY
abbrev dB:Stmt:=top 24
theorem ft:aC ["text", "figures"] ["text"] (ah dB):=bY
abbrev fL:Stmt:=top 21
theorem kX:aC ["things"] ["things"] (ah fL):=bY
abbrev eF:Stmt:=top 22
theorem dC:aC ["piece", "deeds", "end"] ["piece"] (ah eF):=bY
abbrev e4:Stmt:=top 23
theorem kI:aC ["plan"] ["plan"] (ah e4):=bY
abbrev e6:Stmt:=top 25
theorem gI:aC ["word", "number"] ["word"] (ah e6):=bY
abbrev e7:Stmt:=top 26
theorem gJ:aC ["text", "words"] ["text"] (ah e7):=bY
abbrev eG:Stmt:=top 27
theorem dD:aC ["line", "count", "at", "steps", "piece"] ["line", "count", "at"] (ah eG):=bY
abbrev fb:Stmt:=top 28
theorem gK:aC ["text", "lines"] ["text"] (ah fb):=bY
abbrev gL:Stmt:=top 30
theorem fM:aC ["script", "k", "cell"] ["script", "k"] (ah gL):=bY
abbrev fN:Stmt:=top 31
theorem hX:aC ["bag", "many", "found"] ["bag", "many"] (ah fN):=bY
abbrev fc:Stmt:=top 32
theorem bI:aC ["bag", "letters", "many", "base", "at", "names", "k", "name"] ["bag"] (ah fc):=bY
abbrev eH:Stmt:=top 33
theorem jF:aC ["bag"] ["bag"] (ah eH):=bY
abbrev fO:Stmt:=top 34
theorem fe:aC ["bag", "names", "word", "name"] ["bag", "names"] (ah fO):=bY
abbrev gM:Stmt:=top 35
theorem dQ:aC ["bag", "names", "count", "way", "word", "name"] ["bag", "names", "count"] (ah gM):=bY
abbrev fP:Stmt:=top 36
theorem b6:aC ["bag", "count", "most", "names", "pieces", "k", "many", "end"] ["bag", "count", "most"] (ah fP):=bY
abbrev ff:Stmt:=top 37
theorem kJ:aC ["bag", "most"] ["bag", "most"] (ah ff):=bY
abbrev cK:Stmt:=top 38
theorem dE:aC ["piece", "parts"] ["piece"] (ah cK):=bY
abbrev gX:Stmt:=top 39
theorem dz:aC ["script", "bag", "great", "count", "plan", "lines", "text", "at"] ["script"] (ah gX):=bY
section
variable {P:Program} {w:World} {K:PySem.W.Frag} {mg:Str->Option Value} {base:Heap}
theorem kY {f:Addr} {fd:FuncData} (F:bN K "is_whole" "is_whole" fJ f fd) (Z:Bl mg)  : bf P w K mg base bK 1 f fd ["thing"] ko:=by
 refine F.ok (k:=0) kW (fun vs H Q E h=>?_) (fun cdv A outer s H vs Q E hr h=>?_)
 ·obtain⟨x,d,rfl,_⟩:=h
  rfl
 ·obtain⟨x,d,rfl,hx,q⟩:=h
  refine⟨_,(af (av (jX (aA cI rfl Z.isinstance bL (aL (pv 0) (de (v:=.ty "int") rfl Z.int iG rfl))) (iy (rz (aA cI rfl Z.isinstance bL (aL (pv 0) (de (v:=.ty "bool") rfl Z.bool qw rfl)))))))),?_⟩
  obtain⟨t,ht,hs,hi,hb,hu⟩:=dm (K:=K) hx
  refine⟨_,rfl,_,_,_,_,rfl,ht,hi,_,rfl,?_⟩
  rw [o9] at q
  cases h1:L2.intD d with
  | false=>rw [h1] at q;exact bx q
  | true=>rw [h1] at q;exact aU ⟨_,rfl,_,_,_,_,rfl,ht,hb,_,rfl,q⟩
theorem mV {f:Addr} {fd:FuncData} (F:bN K "is_name" "is_name" gF f fd) (Z:Bl mg) {tk_LONGEST_NAME:Tok} (G_LONGEST_NAME:mg "LONGEST_NAME" = some (.int 8 tk_LONGEST_NAME)) {tk_MOST_PIECES:Tok} (G_MOST_PIECES:mg "MOST_PIECES" = some (.int 400 tk_MOST_PIECES)) {tk_MOST_DEEDS:Tok} (G_MOST_DEEDS:mg "MOST_DEEDS" = some (.int 12 tk_MOST_DEEDS)) {tk_MOST_FIGURES:Tok} (G_MOST_FIGURES:mg "MOST_FIGURES" = some (.int 40 tk_MOST_FIGURES))  : bf P w K mg base bK 1 f fd ["thing"] ma:=by
 refine F.ok (k:=0) mS (fun vs H Q E h=>?_) (fun cdv A outer s H vs Q E hr h=>?_)
 ·obtain⟨x,d,rfl,_⟩:=h
  rfl
 ·obtain⟨x,d,rfl,hx,hf,q⟩:=h
  refine⟨_,(ae (bw (PW.pt (ix (dX (dn (aA cI rfl Z.isinstance bL (aL (pv 0) (de (v:=.ty "str") rfl Z.str iH rfl))))) (fY (dX (j5 gP gP aa (aA d8 rfl Z.len bP (au (pv 0))) (fh (v:=.int 8) rfl G_LONGEST_NAME ⟨_,rfl⟩))))))
   (af (av fz))
   aP)
   (af (av (aA (eN rfl) rfl Z.all iL (au (bM ["sign"] [] [] rfl (nO (pv 0)) rfl (by decide +kernel) (by decide +kernel) (by decide +kernel) True.intro (fun _ _ _ _=>(bc (i:=0) (show ((["sign"]:List Str)++([]:List Str)).Nodup by decide +kernel) (hf:=Or.inr rfl))) (fun _ _ _ _=>bB) (fun _ _ _ _=>(hZ eO eO aF (pv 0) aF)))))))),?_⟩
  obtain⟨t,ht,hs,hi,hb,hu⟩:=dm (K:=K) hx
  refine⟨_,rfl,_,_,_,_,rfl,ht,hs,_,rfl,?_⟩
  cases h1:mL d with
  | false =>
   refine aU (aU ?_)
   have:=q H (ab.refl H)
   rw [qI h1] at this
   exact this
  | true =>
   refine bx ?_
   obtain⟨y,rfl,rfl⟩:=sx hx h1
   have hl:=(qL hf).1
   refine⟨_,rfl,y,rfl,Nat.le_of_lt (cX (by omega)),_,_,rfl,rfl,_,rfl,?_⟩
   have qn:((decide (1<=y.length) && decide (y.length<=8)) && (sg y).all b3)=false->∀ H1,ab H H1->Q (.bl false) H1:=fun h H1 s1=>by
    have e:fU (.str y)=false:=h
    have:=q H1 s1
    rw [e] at this
    exact this
   refine dg (fun h2=>?_) (fun h2=>?_)
   rotate_left
   ·refine⟨_,rfl,aU ?_⟩
    refine qn ?_ _ (ab.refl _)
    rw [decide_eq_false (fun z:1<=y.length=>h2 (decide_eq_true (by omega)))]
    rfl
   have h2:1<=y.length:=by have:=of_decide_eq_true h2;omega
   refine⟨_,_,rfl,rfl,_,rfl,?_⟩
   by_cases h3:y.length<=8
   rotate_left
   ·refine cH (by rw [decide_eq_false (by omega)];rfl) ?_
    refine qn ?_ _ (ab.refl _)
    rw [decide_eq_true h2,decide_eq_false h3]
    rfl
   refine cu (by rw [decide_eq_true (by omega)];rfl) ?_
   refine⟨_,rfl,y,rfl,fun acc na=>?_⟩
   refine nP (x:=y) (fun i ys τ H1=>∃ c:Option V,τ = [c]/\ys=(((sg y).take i).map b3).map V.bl/\H1 acc=some (.lst ys)/\ab H H1) ?_ ?_ ?_ ?_
   ·exact⟨none,rfl,rfl,U,ab.new na⟩
   ·rintro i ys τ H1 hi ⟨c,rfl,rfl,ha,s1⟩
    refine⟨ha,aK ?_⟩
    rw [List.length_map,List.length_map,List.length_take,aG]
    omega
   ·rintro i c ys τ H1 hi ⟨c',rfl,rfl,ha,s1⟩
    refine bH ?_
    refine cz ?_
    refine aU ?_
    have hci:(sg y)[i]? = some c:=by rw [<-hi];exact Array.getElem?_toList
    have fin:∀ b:Bool,b=b3 c->H1 acc=some (.lst ((((sg y).take i).map b3).map V.bl))/\∃ c1:Option V,[some (V.str ⟨#[c]⟩)] = [c1]/\((((sg y).take i).map b3).map V.bl ++ [V.bl b])=(((sg y).take (i+1)).map b3).map V.bl/\(upd H1 acc (.lst ((((sg y).take i).map b3).map V.bl ++ [V.bl b]))) acc=some (.lst ((((sg y).take i).map b3).map V.bl ++ [V.bl b]))/\ab H (upd H1 acc (.lst ((((sg y).take i).map b3).map V.bl ++ [V.bl b]))):=fun b hb=>by
     refine⟨ha,_,rfl,?_,U,s1.put na⟩
     rw [List.take_add_one,hci,hb,List.map_append,List.map_append]
     rfl
    refine⟨_,rfl,_,_,rfl,rfl,_,rfl,?_⟩
    rw [uF]
    refine dg (fun h=>?_) (fun h=>?_)
    ·refine⟨_,_,rfl,rfl,?_⟩
     rw [uG]
     exact fin _ (by unfold b3;rw [h];rfl)
    ·exact fin _ (by unfold b3;rw [Bool.eq_false_iff.mpr h];rfl)
   rintro ys τ H1 ⟨c,rfl,rfl,ha,s1⟩
   rw [show (sg y).take y.cps.size=sg y from List.take_of_length_le (by rw [aG];exact Nat.le_refl _)] at ha
   refine⟨acc,_,rfl,ax.of ha,?_⟩
   rw [show ((sg y).map b3).all id=(sg y).all b3 by rw [List.all_map];rfl]
   have e:fU (.str y)=(sg y).all b3:=by
    show ((decide (1<=y.length) && decide (y.length<=8)) && (sg y).all b3)=_
    rw [decide_eq_true h2,decide_eq_true h3]
    rfl
   rw [<-e]
   exact q H1 s1
theorem mW {f:Addr} {fd:FuncData} (F:bN K "is_part" "is_part" gG f fd) (Z:Bl mg) (O_is_whole:Own P w K mg base "is_whole" 1 ["thing"] ko) (O_is_name:Own P w K mg base "is_name" 1 ["thing"] ma):bf P w K mg base bK 2 f fd ["thing", "kind", "count"] md:=by
 refine F.ok (k:=1) mT (fun vs H Q E h=>?_) (fun cdv A outer s H vs Q E hr h=>?_)
 ·obtain⟨x,d,k,n,rfl,_⟩:=h
  rfl
 ·obtain⟨x,d,k,n,rfl,hx,hf,q⟩:=h
  refine⟨_,(ae (bw (aR dH (pv 1) aF (aV _))
   (af (av (aw O_is_name hr (au (pv 0)))))
   aP)
   (ae (bw (aR dH (pv 1) aF (aV _))
   (af (av (aw O_is_whole hr (au (pv 0)))))
   aP)
   (af (av (jX (aw O_is_whole hr (au (pv 0))) (iy (hZ gP jM aa (pv 0) (pv 2)))))))),?_⟩
  unfold bD at q
  refine⟨_,rfl,rfl,_,rfl,?_⟩
  by_cases h1:k = "name"
  ·refine cH (decide_eq_true (congrArg V.str h1)) ?_
   rw [if_pos h1] at q
   exact⟨_,rfl,x,d,rfl,hx,hf,q⟩
  refine cu (decide_eq_false (fun z=>h1 (V.str.inj z))) ?_
  rw [if_neg h1] at q
  refine⟨_,rfl,rfl,_,rfl,?_⟩
  by_cases h2:k = "number"
  ·refine cH (decide_eq_true (congrArg V.str h2)) ?_
   rw [if_pos h2] at q
   exact⟨_,rfl,x,d,rfl,hx,q H (ab.refl H)⟩
  refine cu (decide_eq_false (fun z=>h2 (V.str.inj z))) ?_
  rw [if_neg h2] at q
  have q:=q H (ab.refl H)
  refine⟨_,rfl,x,d,rfl,hx,_,rfl,?_⟩
  cases h3:dt d with
  | false =>
   refine bx ?_
   cases d <;> first | exact q | cases h3
  | true =>
   refine aU ?_
   obtain⟨i,rfl,rfl⟩:=sy hx h3
   refine⟨_,rfl,_,_,rfl,rfl,_,rfl,?_⟩
   cases h4:decide (0<=i) with
   | false =>
    refine bx ?_
    simp only [h4,Bool.false_and] at q
    exact q
   | true =>
    refine aU ?_
    simp only [h4,Bool.true_and] at q
    exact⟨_,rfl,_,_,rfl,rfl,q⟩
theorem jG {f:Addr} {fd:FuncData} (F:bN K "first_word" "first_word" eE f fd) (Z:Bl mg)  : bf P w K mg base bK 1 f fd ["thing"] ic:=by
 refine F.ok (k:=0) jE (fun vs H Q E h=>?_) (fun cdv A outer s H vs Q E hr h=>?_)
 ·obtain⟨x,d,rfl,_⟩:=h
  rfl
 ·obtain⟨x,d,rfl,hx,q⟩:=h
  refine⟨_,(ae (bw (PW.pt (iw (dn (aA cI rfl Z.isinstance bL (aL (pv 0) (de (v:=.ty "tuple") rfl Z.tuple cf rfl)))) (iw (aR iC (aA bo rfl Z.len bP (au (pv 0))) aa (aV _)) (iX (dn (aA cI rfl Z.isinstance bL (aL (aT gg (pv 0) aa) (de (v:=.ty "str") rfl Z.str iH rfl))))))))
   (af (av (aT gg (pv 0) aa)))
   aP)
   (af (av iu))),?_⟩
  obtain⟨t,ht,hs,hi,hb,hu⟩:=dm (K:=K) hx
  refine⟨_,rfl,_,_,_,_,rfl,ht,hu,_,rfl,?_⟩
  cases h1:gv d with
  | false =>
   refine bx (bx ?_)
   rw [pd h1] at q
   exact q
  | true =>
   refine aU ?_
   obtain⟨p,xs,ds,rfl,rfl,e,r⟩:=kn hx h1
   refine⟨_,rfl,p,_,rfl,.inr (aJ.of e),_,_,rfl,rfl,_,rfl,?_⟩
   cases r with
   | nil=>exact bx (bx q)
   | cons r0 rs =>
    refine cH (decide_eq_true (by rw [List.length_cons];omega)) ?_
    obtain⟨t0,ht0,hs0,_⟩:=dm (K:=K) r0
    refine⟨_,rfl,p,_,0,_,rfl,rfl,aJ.of e,fS,_,_,_,_,rfl,ht0,hs0,_,rfl,?_⟩
    cases r0 with
    | str x=>exact aU ⟨_,rfl,p,_,0,_,rfl,rfl,aJ.of e,fS,q⟩
    | _=>exact bx q
theorem kK {f:Addr} {fd:FuncData} (F:bN K "has_parts" "has_parts" eY f fd) (Z:Bl mg) (O_is_part:Own P w K mg base "is_part" 2 ["thing", "kind", "count"] md):bf P w K mg base bK 3 f fd ["thing", "kinds", "count"] (kq K):=by
 refine F.ok (k:=2) kH (fun vs H Q E h=>?_) (fun cdv A outer s H vs Q E hr h=>?_)
 ·obtain⟨x,d,kv,ks,n,rfl,_⟩:=h
  rfl
 ·obtain⟨x,d,kv,ks,n,rfl,hx,hf,hk,hd,q⟩:=h
  refine⟨_,(ae (bw (PW.pt (ix (m6 (m5 (pv 1))) (fY (aR jL (aA bo rfl Z.len bP (au (pv 0))) (aM cA (aA bo rfl Z.len bP (au (pv 1))) aa) (aV _)))))
   (af (av fz))
   aP)
   (af (av (aA (eN rfl) rfl Z.all iL (au (bM ["part", "kind"] ["count"] [2] rfl (sf rfl Z.zip (aL (fB qD (pv 0) (gR aa) gQ) (pv 1))) rfl (by decide +kernel) (by decide +kernel) (by decide +kernel) ⟨⟨rfl,.inl rfl,rfl⟩,True.intro⟩ (fun _ _ _ _=>(lQ (K:=K) (n:=2) rfl (iz (n:=2) rfl (cc (bc (i:=0) (show ((["part", "kind"]:List Str)++(["count"]:List Str)).Nodup by decide +kernel) (hf:=Or.inr rfl)) (cc (bc (i:=1) (show ((["part", "kind"]:List Str)++(["count"]:List Str)).Nodup by decide +kernel) (hf:=Or.inr rfl)) gO))))) (fun _ _ _ _=>bB) (fun _ _ _ _=>(aw O_is_part hr (eT (pv 0) (pv 1) (pv 2)))))))))),?_⟩
  cases hk with
  | no =>
   refine⟨_,rfl,_,rfl,aU (aU ?_)⟩
   exact q H (ab.refl H)
  | some a ks hk =>
   obtain⟨d0,ds,rfl⟩:=hd (by intro z;cases z)
   obtain⟨p,xs,rfl,e,r⟩:=aI.cq hx
   obtain⟨x0,xs,rfl,r0,r⟩:=r.cons_inv
   have hl:=r.len
   refine⟨_,rfl,_,rfl,bx ?_⟩
   refine⟨_,rfl,p,_,rfl,.inr (aJ.of e),_,rfl,a,_,rfl,.inr (.inr hk),_,_,rfl,rfl,rfl,_,rfl,?_⟩
   have hh:i7 (.tuple (d0 :: ds)) (some ks) n=(decide (ds.length=ks.length) && eh ds ks n):=rfl
   rw [hh] at q
   by_cases h1:ds.length=ks.length
   rotate_left
   ·refine cH (by rw [decide_eq_false (fun z=>h1 (by have:=V.int.inj z;rw [List.length_cons,List.length_map] at this;omega))];rfl) ?_
    have:=q H (ab.refl H)
    rw [decide_eq_false h1] at this
    exact this
   refine cu (by rw [decide_eq_true (congrArg V.int (by rw [List.length_cons,List.length_map];omega))];rfl) ?_
   rw [decide_eq_true h1] at q
   have hfs:cx ds=true/\ds.length<=1000:=by
    simp only [bQ,cx,Bool.and_eq_true] at hf
    have:=of_decide_eq_true hf.1
    rw [List.length_cons] at this
    exact⟨hf.2.2,by omega⟩
   refine⟨_,rfl,_,rfl,p,_,rfl,aJ.of e,fun hw=>?_,fun _ t nt=>?_⟩
   ·exfalso
    obtain⟨z,_⟩:=hw
    simp [HT.aH] at z
   have ec:cS (x0 :: xs) (some 1) none=xs:=by simp [cS,HT.aH]
   rw [ec]
   have st:=ab.new (o:=.tup xs) nt
   refine⟨_,rfl,t,a,rfl,⟨_,aJ.of U⟩,⟨_,.inr hk⟩,fun acc na=>?_⟩
   refine sh (K:=K) (a:=t) (b:=a) (xs:=xs) (ys:=ks.map V.str) (fun i zs τ H'=>∃ (c1 c2:Option V),τ = [c1,c2,some (.int (n:Nat))]/\zs=((eC ds ks n).take i).map V.bl/\H' acc=some (.lst zs)/\H' t=some (.tup xs)/\ab H H') ?_ ?_ ?_ ?_
   ·exact⟨none,none,rfl,rfl,U,ab.new na _ _ U,st.trans (ab.new na)⟩
   ·rintro i zs τ H4 hi ⟨c1,c2,rfl,rfl,ha,ht4,s4⟩
    refine⟨aJ.of ht4,.inr hk,ha,aK ?_⟩
    rw [List.length_map,List.length_take]
    omega
   ·rintro i x y zs τ H4 u hx4 hy hu ⟨c1,c2,rfl,rfl,ha,ht4,s4⟩
    obtain⟨k,rfl,hk4⟩:∃ k,y=V.str k/\ks[i]? = some k:=by
     rw [List.getElem?_map] at hy
     cases e:ks[i]? with
     | none=>rw [e] at hy;cases hy
     | some k=>rw [e] at hy;exact⟨k,(Option.some.inj hy).symm,rfl⟩
    have hlt:i < ds.length:=by
     have:=List.getElem?_eq_some_iff.mp hx4
     obtain⟨z,_⟩:=this
     omega
    have hd4:ds[i]? = some ds[i]:=List.getElem?_eq_getElem hlt
    obtain⟨x',hx',rx⟩:=r.get hd4
    obtain rfl:x' = x:=Option.some.inj (hx'.symm.trans hx4)
    have su:=ab.new (o:=.tup [x',.str k]) hu
    have s5:=s4.trans su
    refine⟨u,_,rfl,aJ.of U,rfl,_,_,rfl,_,_,rfl,rfl,?_⟩
    refine cz ?_
    refine aU ?_
    refine⟨_,rfl,_,rfl,_,rfl,x',ds[i],k,n,rfl,?_,gx hfs.1 hd4,fun H6 s6=>?_⟩
    ·exact rx.bp s5
    have ha6:=s6 _ _ (su _ _ ha)
    refine⟨ha6,_,_,rfl,?_,U,?_,?_⟩
    ·have hp:(eC ds ks n)[i]? = some (bD ds[i] k n):=by
      unfold eC
      rw [List.getElem?_map,List.getElem?_zip_eq_some (z:=(ds[i],k)) |>.mpr ⟨hd4,hk4⟩]
      rfl
     rw [List.take_add_one,hp,List.map_append]
     rfl
    ·rw [ao (fu (s6 _ _ (su _ _ ht4)) ha6 (by intro z;cases z))]
     exact s6 _ _ (su _ _ ht4)
    ·exact (s5.trans s6).put (st.free na)
   ·rintro zs τ H4 ⟨c1,c2,rfl,rfl,ha,ht4,s4⟩
    have hlen:(eC ds ks n).length=min xs.length (ks.map V.str).length:=by
     unfold eC
     rw [List.length_map,List.length_zip,List.length_map,hl]
    rw [<-hlen,List.take_length] at ha
    refine⟨acc,_,rfl,ax.of ha,?_⟩
    rw [jt ds ks n h1]
    exact q H4 s4
theorem mX {f:Addr} {fd:FuncData} (F:bN K "is_deed" "is_deed" gH f fd) (Z:Bl mg) {aD d0 d1 d2 d3 d4:Addr} (GD:mK K mg aD d0 d1 d2 d3 d4) (yD:(aD == sysModules)=false) (O_has_parts:Own P w K mg base "has_parts" 3 ["thing", "kinds", "count"] (kq K)) (O_first_word:Own P w K mg base "first_word" 1 ["thing"] ic):bf P w K mg base bK 4 f fd ["thing"] me:=by
 refine F.ok (k:=3) mU (fun vs H Q E h=>?_) (fun cdv A outer s H vs Q E hr h=>?_)
 ·obtain⟨x,d,rfl,_⟩:=h
  rfl
 ·obtain⟨x,d,rfl,hx,hf,q⟩:=h
  refine⟨_,(af (av (aw O_has_parts hr (eT (pv 0) (jr GD.tab yD rfl (aw O_first_word hr (au (pv 0))) ⟨rfl,rfl,rfl,rfl⟩) aa)))),?_⟩
  obtain⟨r,hr',hk⟩:=qJ GD (cF d)
  exact⟨_,rfl,⟨_,rfl,x,d,rfl,hx,r,hr',x,d,_,_,0,rfl,hx,hf,hk,ju,q⟩⟩
theorem ow {f:Addr} {fd:FuncData} (F:bN K "is_end" "is_end" iq f fd) (Z:Bl mg) {aE s0 s1 s2 s3:Addr} (GE:oZ K mg aE s0 s1 s2 s3) (yE:(aE == sysModules)=false) (O_has_parts:Own P w K mg base "has_parts" 3 ["thing", "kinds", "count"] (kq K)) (O_first_word:Own P w K mg base "first_word" 1 ["thing"] ic):bf P w K mg base bK 4 f fd ["thing", "count"] nV:=by
 refine F.ok (k:=3) ou (fun vs H Q E h=>?_) (fun cdv A outer s H vs Q E hr h=>?_)
 ·obtain⟨x,d,n,rfl,_⟩:=h
  rfl
 ·obtain⟨x,d,n,rfl,hx,hf,q⟩:=h
  refine⟨_,(af (av (aw O_has_parts hr (eT (pv 0) (jr GE.tab yE rfl (aw O_first_word hr (au (pv 0))) ⟨rfl,rfl,rfl,rfl⟩) (pv 1))))),?_⟩
  obtain⟨r,hr',hk⟩:=sA GE (cF d)
  exact⟨_,rfl,⟨_,rfl,x,d,rfl,hx,r,hr',_,rfl,x,d,_,_,n,rfl,hx,hf,hk,ju,q⟩⟩
theorem kZ {f:Addr} {fd:FuncData} (F:bN K "is_piece" "is_piece" fK f fd) (Z:Bl mg) {tk_LONGEST_NAME:Tok} (G_LONGEST_NAME:mg "LONGEST_NAME" = some (.int 8 tk_LONGEST_NAME)) {tk_MOST_PIECES:Tok} (G_MOST_PIECES:mg "MOST_PIECES" = some (.int 400 tk_MOST_PIECES)) {tk_MOST_DEEDS:Tok} (G_MOST_DEEDS:mg "MOST_DEEDS" = some (.int 12 tk_MOST_DEEDS)) {tk_MOST_FIGURES:Tok} (G_MOST_FIGURES:mg "MOST_FIGURES" = some (.int 40 tk_MOST_FIGURES)) (O_is_deed:Own P w K mg base "is_deed" 4 ["thing"] me) (O_is_end:Own P w K mg base "is_end" 4 ["thing", "count"] nV):bf P w K mg base bK 5 f fd ["thing", "count"] kr:=by
 refine F.ok (k:=4) eZ (fun vs H Q E h=>?_) (fun cdv A outer s H vs Q E hr h=>?_)
 ·obtain⟨x,d,n,rfl,_⟩:=h
  rfl
 ·obtain⟨x,d,n,rfl,hx,hf,q⟩:=h
  refine⟨_,(ae (bw (PW.pt (ix (dX (dn (aA cI rfl Z.isinstance bL (aL (pv 0) (de (v:=.ty "tuple") rfl Z.tuple cf rfl))))) (fY (aR jL (aA bo rfl Z.len bP (au (pv 0))) aa (aV _)))))
   (af (av fz))
   aP)
   (ae (fZ (pv 0) (iz rfl (cc (bc (i:=2) eZ.nd) (cc (bc (i:=3) eZ.nd) gO))))
   (ae (bw (PW.pt (ix (dX (dn (aA cI rfl Z.isinstance bL (aL (pv 2) (de (v:=.ty "tuple") rfl Z.tuple cf rfl))))) (fY (aR iC (aA bo rfl Z.len bP (au (pv 2))) (fh (v:=.int 12) rfl G_MOST_DEEDS ⟨_,rfl⟩) (aV _)))))
   (af (av fz))
   aP)
   (af (av (jX (aA (eN rfl) rfl Z.all iL (au (bM ["deed"] [] [] rfl (dY (pv 2)) rfl (by decide +kernel) (by decide +kernel) (by decide +kernel) True.intro (fun _ _ _ _=>(bc (i:=0) (show ((["deed"]:List Str)++([]:List Str)).Nodup by decide +kernel) (hf:=Or.inr rfl))) (fun _ _ _ _=>bB) (fun _ _ _ _=>(aw O_is_deed hr (au (pv 0))))))) (iy (aw O_is_end hr (aL (pv 3) (pv 1)))))))))),?_⟩
  obtain⟨t,ht,hs,hi,hb,hu⟩:=dm (K:=K) hx
  refine⟨_,rfl,_,_,_,_,rfl,ht,hu,_,rfl,?_⟩
  cases h1:gv d with
  | false =>
   refine aU (aU ?_)
   have:=q H (ab.refl H)
   rw [pe h1] at this
   exact this
  | true =>
   refine bx ?_
   obtain⟨p,xs,ds,rfl,rfl,e,r⟩:=kn hx h1
   have hl:=r.len
   refine⟨_,rfl,p,_,rfl,.inr (aJ.of e),rfl,_,rfl,?_⟩
   by_cases h2:ds.length=2
   rotate_left
   ·refine cH (by rw [decide_eq_false (fun z=>h2 (by have:=V.int.inj z;omega))];rfl) ?_
    have:=q H (ab.refl H)
    rw [nW h2] at this
    exact this
   refine cu (by rw [decide_eq_true (congrArg V.int (by omega))];rfl) ?_
   obtain⟨d1,d2,rfl⟩:∃ d1 d2,ds = [d1,d2]:=by
    rcases ds with _ | ⟨d1,_ | ⟨d2,_ | ⟨d3,ds⟩⟩⟩
    ·cases h2
    ·cases h2
    ·exact⟨d1,d2,rfl⟩
    ·simp at h2
   obtain⟨x1,xs1,rfl,r1,r⟩:=r.cons_inv
   obtain⟨x2,xs2,rfl,r2,r⟩:=r.cons_inv
   have z:=r.nil_inv
   subst z
   have hf2:bQ d1=true/\bQ d2=true:=by
    simp only [bQ,cx,Bool.and_eq_true] at hf
    exact⟨hf.2.1,hf.2.2.1⟩
   refine⟨_,rfl,p,_,rfl,aJ.of e,rfl,_,_,rfl,_,_,rfl,rfl,?_⟩
   obtain⟨t1,ht1,_,_,_,hu1⟩:=dm (K:=K) r1
   refine⟨_,rfl,_,_,_,_,rfl,ht1,hu1,_,rfl,?_⟩
   cases h3:gv d1 with
   | false =>
    refine aU (aU ?_)
    have:=q H (ab.refl H)
    rw [nX h3] at this
    exact this
   | true =>
   refine bx ?_
   obtain⟨p1,ys1,ds1,rfl,rfl,e1,rr1⟩:=kn r1 h3
   have hfs:=rr1.qK hf2.1
   have hpc:ei (.tuple [.tuple ds1,d2]) n=(decide (ds1.length<=12) && (ds1.all cw && gw d2 n)):=rfl
   rw [hpc] at q
   refine⟨_,rfl,p1,_,rfl,.inr (aJ.of e1),_,_,rfl,rfl,_,rfl,?_⟩
   have hl1:=rr1.len
   by_cases h4:ds1.length<=12
   rotate_left
   ·refine cH (decide_eq_true (by omega)) ?_
    have:=q H (ab.refl H)
    rw [decide_eq_false h4] at this
    exact this
   refine cu (decide_eq_false (by omega)) ?_
   rw [decide_eq_true h4] at q
   refine⟨_,rfl,p1,rfl,⟨_,aJ.of e1⟩,fun acc na=>?_⟩
   refine ef (K:=K) (a:=p1) (xs:=ys1) (fun i ys τ H1=>∃ c:Option V,τ = [c]/\ys=((ds1.take i).map cw).map V.bl/\H1 acc=some (.lst ys)/\ab H H1) ?_ ?_ ?_ ?_
   ·exact⟨none,rfl,rfl,U,ab.new na⟩
   ·rintro i ys τ H1 hi ⟨c,rfl,rfl,ha,s1⟩
    refine⟨aJ.of (s1 _ _ e1),ha,aK ?_⟩
    rw [List.length_map,List.length_map,List.length_take]
    have hlen:=rr1.len
    omega
   ·rintro i x' ys τ H1 hxi ⟨c,rfl,rfl,ha,s1⟩
    refine bH ?_
    refine cz ?_
    refine aU ?_
    have hlt:i < ds1.length:=by
     obtain⟨z,_⟩:=List.getElem?_eq_some_iff.mp hxi
     have hlen:=rr1.len
     omega
    have hd4:ds1[i]? = some ds1[i]:=List.getElem?_eq_getElem hlt
    obtain⟨x3,hx3,rx⟩:=rr1.get hd4
    obtain rfl:x3=x':=Option.some.inj (hx3.symm.trans hxi)
    refine⟨_,rfl,x3,ds1[i],rfl,rx.bp s1,gx hfs.2 hd4,fun H6 s6=>?_⟩
    have ha6:=s6 _ _ ha
    refine⟨ha6,_,rfl,?_,U,(s1.trans s6).put na⟩
    rw [List.take_add_one,hd4,List.map_append,List.map_append]
    rfl
   rintro ys τ H1 ⟨c,rfl,rfl,ha,s1⟩
   rw [List.take_of_length_le (Nat.le_of_eq rr1.len.symm)] at ha
   refine⟨acc,_,rfl,ax.of ha,_,rfl,?_⟩
   rw [show (ds1.map cw).all id=ds1.all cw by rw [List.all_map];rfl]
   cases h5:ds1.all cw with
   | false =>
    refine bx ?_
    have:=q H1 s1
    rw [h5] at this
    exact this
   | true =>
    refine aU ?_
    rw [h5] at q
    exact⟨_,rfl,_,rfl,x2,d2,n,rfl,r2.bp s1,hf2.2,fun H6 s6=>q H6 (s1.trans s6)⟩
theorem jb {f:Addr} {fd:FuncData} (F:bN K "read_number" "read_number" dB f fd) (Z:Bl mg) {tk_LONGEST_NAME:Tok} (G_LONGEST_NAME:mg "LONGEST_NAME" = some (.int 8 tk_LONGEST_NAME)) {tk_MOST_PIECES:Tok} (G_MOST_PIECES:mg "MOST_PIECES" = some (.int 400 tk_MOST_PIECES)) {tk_MOST_DEEDS:Tok} (G_MOST_DEEDS:mg "MOST_DEEDS" = some (.int 12 tk_MOST_DEEDS)) {tk_MOST_FIGURES:Tok} (G_MOST_FIGURES:mg "MOST_FIGURES" = some (.int 40 tk_MOST_FIGURES))  : bf P w K mg base bK 1 f fd ["text"] nR:=by
  refine F.ok (k:=0) ft (fun vs H Q E h=>?_) (fun cdv A outer s H vs Q E hr h=>?_)
  · obtain⟨x,rfl,_⟩:=h
    rfl
  · obtain⟨x,rfl,hx,q⟩:=h
    refine⟨_,(ae (kd (bh (i:=1) ft.nd (jY (dn (b8 PySem.F.plainAttrs_str PySem.F.slot_str_startswith PySem.F.type_str_startswith jD (pv 0) (au aF))) (fB so (pv 0) (gR aa) gQ) (pv 0))))
      (ae (bw (dX (j5 gP gP aa (aA d8 rfl Z.len bP (au (pv 1))) (fh (v:=.int 40) rfl G_MOST_FIGURES ⟨_,rfl⟩)))
      (af (av iu))
      aP)
      (ae (bw (dX (dn (aA (eN rfl) rfl Z.all iL (au (bM ["sign"] [] [] rfl (nO (pv 1)) rfl (by decide +kernel) (by decide +kernel) (by decide +kernel) True.intro (fun _ _ _ _=>(bc (i:=0) (show ((["sign"]:List Str)++([]:List Str)).Nodup by decide +kernel) (hf:=Or.inr rfl))) (fun _ _ _ _=>bB) (fun _ _ _ _=>(hZ eO eO aF (pv 0) aF)))))))
      (af (av iu))
      aP)
      (ae (bw (PW.pt (iw (aR dH (aT j8 (pv 1) aa) aF (aV _)) (iX (aR jL (pv 0) aF (aV _)))))
      (af (av iu))
      aP)
      (af (av (bC nN rfl Z.int iG (au (pv 0))))))))),?_⟩
    have hfew:=hx.cZ
    refine⟨fun σ' H'=>∃ f:Str,σ' = [some (.str x),some (.str f)]/\sg f=di (sg x)/\f.length<=x.length/\H' = H,?_,?_⟩
    · refine⟨_,rfl,rfl,x, "-",rfl,rfl,_,rfl,?_⟩
      rw [nQ]
      by_cases hm:(sg x).head? = some 45
      · refine cH (decide_eq_true hm) ?_
        have h1:1<=x.length:=by
          have:=congrArg List.length (ib hm)
          rw [aG,List.length_cons] at this
          omega
        refine⟨_,rfl,_,rfl,x,rfl,(by omega),?_⟩
        refine⟨_,rfl,?_,Txt.slice_le x _ _,rfl⟩
        have h2:=qG (i:=1) h1
        rw [ib hm] at h2
        exact h2
      · refine cu (decide_eq_false hm) ?_
        exact⟨_,rfl,x,rfl,(fE hm).symm,Nat.le_refl _,rfl⟩
    rintro σ' H' ⟨f,rfl,hf,hfl,rfl⟩
    have hg:=qH hf
    have qn:cY x=false->∀ H1,ab H' H1->Q .aO H1:=fun h H1 s1=>by
      have:=q H1 s1
      unfold fo at this
      rw [h] at this
      exact this
    refine⟨_,rfl,f,rfl,Nat.le_of_lt (cX (by omega)),_,_,rfl,rfl,_,rfl,?_⟩
    refine dg (fun h1=>?_) (fun h1=>?_)
    rotate_left
    · refine⟨_,rfl,aU ?_⟩
      refine qn ?_ _ (ab.refl _)
      rw [hg,decide_eq_false (fun z:1<=f.length=>h1 (decide_eq_true (by omega)))]
      rfl
    have h1:1<=f.length:=by have:=of_decide_eq_true h1;omega
    refine⟨_,_,rfl,rfl,_,rfl,?_⟩
    by_cases h2:f.length<=40
    rotate_left
    · refine cH (by rw [decide_eq_false (by omega)];rfl) ?_
      refine qn ?_ _ (ab.refl _)
      rw [hg,decide_eq_true h1,decide_eq_false h2]
      rfl
    refine cu (by rw [decide_eq_true (by omega)];rfl) ?_
    refine⟨_,rfl,f,rfl,fun acc na=>?_⟩
    refine nP (x:=f) (fun i ys τ H1=>∃ c:Option V,τ = [c]/\ys=(((sg f).take i).map b1).map V.bl/\H1 acc=some (.lst ys)/\ab H' H1) ?_ ?_ ?_ ?_
    · exact⟨none,rfl,rfl,U,ab.new na⟩
    · rintro i ys τ H1 hi ⟨c,rfl,rfl,ha,s1⟩
      refine⟨ha,aK ?_⟩
      rw [List.length_map,List.length_map,List.length_take,aG]
      omega
    · rintro i c ys τ H1 hi ⟨c',rfl,rfl,ha,s1⟩
      refine bH ?_
      refine cz ?_
      refine aU ?_
      have hci:(sg f)[i]? = some c:=by rw [<-hi];exact Array.getElem?_toList
      have fin:∀ b:Bool,b=b1 c->H1 acc=some (.lst ((((sg f).take i).map b1).map V.bl))/\∃ c1:Option V,[some (V.str ⟨#[c]⟩)] = [c1]/\((((sg f).take i).map b1).map V.bl ++ [V.bl b])=(((sg f).take (i+1)).map b1).map V.bl/\(upd H1 acc (.lst ((((sg f).take i).map b1).map V.bl ++ [V.bl b]))) acc=some (.lst ((((sg f).take i).map b1).map V.bl ++ [V.bl b]))/\ab H' (upd H1 acc (.lst ((((sg f).take i).map b1).map V.bl ++ [V.bl b]))):=fun b hb=>by
        refine⟨ha,_,rfl,?_,U,s1.put na⟩
        rw [List.take_add_one,hci,hb,List.map_append,List.map_append]
        rfl
      refine⟨_,rfl,_,_,rfl,rfl,_,rfl,?_⟩
      rw [le_0]
      refine dg (fun h=>?_) (fun h=>?_)
      · refine⟨_,_,rfl,rfl,?_⟩
        rw [uE]
        exact fin _ (by unfold b1;rw [h];rfl)
      · exact fin _ (by unfold b1;rw [Bool.eq_false_iff.mpr h];rfl)
    rintro ys τ H1 ⟨c,rfl,rfl,ha,s1⟩
    rw [show (sg f).take f.cps.size=sg f from List.take_of_length_le (by rw [aG];exact Nat.le_refl _)] at ha
    refine⟨acc,_,rfl,ax.of ha,_,rfl,?_⟩
    rw [show ((sg f).map b1).all id=(sg f).all b1 by rw [List.all_map];rfl]
    cases hall:(sg f).all b1 with
    | false =>
      refine aU ?_
      refine qn ?_ _ s1
      rw [hg,hall,decide_eq_true h1,decide_eq_true h2]
      rfl
    | true =>
      refine bx ?_
      obtain⟨c,hc,hat⟩:=sv h1
      refine⟨_,rfl,f,0,c,rfl,rfl,Nat.le_of_lt (cX (by omega)),hat,rfl,_,rfl,?_⟩
      rw [o5]
      rw [hc] at hg
      have yes:cY x=true->∃ n,PySem.intText? x=some n/\Q (.int n) H1:=fun h=>by
        obtain⟨n,hn⟩:=good_reads (by omega) h
        refine⟨n,hn,?_⟩
        have:=q H1 s1
        unfold fo at this
        rw [if_pos h,hn] at this
        exact this
      by_cases h48:c=48
      · refine cH (decide_eq_true h48) ?_
        refine⟨_,rfl,rfl,_,rfl,?_⟩
        by_cases hz:x = "0"
        · refine cu (by rw [decide_eq_true (congrArg V.str hz)];rfl) ?_
          obtain⟨n,hn,qq⟩:=yes (by rw [hg,hall,decide_eq_true h1,decide_eq_true h2,decide_eq_false (fun z:x ≠ "0" => z hz)];simp)
          exact⟨_,rfl,x,n,rfl,hn,(by omega),qq⟩
        · refine cH (by rw [decide_eq_false (fun z=>hz (V.str.inj z))];rfl) ?_
          refine qn ?_ _ s1
          rw [hg,hall,decide_eq_true h1,decide_eq_true h2,h48,decide_eq_true (hz:x ≠ "0"),decide_eq_true rfl]
          rfl
      · refine cu (decide_eq_false h48) (bx ?_)
        obtain⟨n,hn,qq⟩:=yes (by rw [hg,hall,decide_eq_true h1,decide_eq_true h2,decide_eq_false (fun z:some c=some 48=>h48 (Option.some.inj z))];rfl)
        exact⟨_,rfl,x,n,rfl,hn,(by omega),qq⟩
theorem lg {f:Addr} {fd:FuncData} (F:bN K "in_a_row" "in_a_row" fL f fd) (Z:Bl mg)  : bf P w K mg base bK 1 f fd ["things"] mq:=by
 refine F.ok (k:=0) kX (fun vs H Q E h=>?_) (fun cdv A outer s H vs Q E hr h=>?_)
 ·obtain⟨x,ds,rfl,_⟩:=h
  rfl
 ·obtain⟨x,ds,rfl,hx,ok,q⟩:=h
  refine⟨_,(af (av (b8 PySem.F.plainAttrs_str PySem.F.slot_str_join PySem.F.type_str_join cM aF (au (bM ["thing"] [] [] rfl (dY (pv 0)) rfl (by decide +kernel) (by decide +kernel) (by decide +kernel) True.intro (fun _ _ _ _=>(bc (i:=0) (show ((["thing"]:List Str)++([]:List Str)).Nodup by decide +kernel) (hf:=Or.inr rfl))) (fun _ _ _ _=>bB) (fun _ _ _ _=>(bC jA rfl Z.str iH (au (pv 0))))))))),?_⟩
  obtain⟨p,xs,rfl,e,r⟩:=aI.cq hx
  have hfew:=ok.cZ
  refine⟨rfl,_,rfl,p,rfl,⟨_,aJ.of e⟩,fun acc na=>?_⟩
  refine ef (K:=K) (a:=p) (xs:=xs) (fun i ys τ H1=>∃ c:Option V,τ = [c]/\ys=((ds.take i).map aS).map V.str/\H1 acc=some (.lst ys)/\ab H H1) ?_ ?_ ?_ ?_
  ·exact⟨none,rfl,rfl,U,ab.new na⟩
  ·rintro i ys τ H1 hi ⟨c,rfl,rfl,ha,s1⟩
   refine⟨aJ.of (s1 _ _ e),ha,aK ?_⟩
   rw [List.length_map,List.length_map,List.length_take]
   omega
  ·rintro i x' ys τ H1 hxi ⟨c,rfl,rfl,ha,s1⟩
   refine bH ?_
   refine cz ?_
   refine aU ?_
   have hlt:i < ds.length:=by
    obtain⟨z,_⟩:=List.getElem?_eq_some_iff.mp hxi
    have hlen:=r.len
    omega
   have hd4:ds[i]? = some ds[i]:=List.getElem?_eq_getElem hlt
   obtain⟨x3,hx3,rx⟩:=r.get hd4
   obtain rfl:x3=x':=Option.some.inj (hx3.symm.trans hxi)
   have fin:H1 acc=some (.lst (((ds.take i).map aS).map V.str))/\∃ c1:Option V,[some x3] = [c1]/\(((ds.take i).map aS).map V.str ++ [V.str (aS ds[i])])=((ds.take (i+1)).map aS).map V.str/\(upd H1 acc (.lst (((ds.take i).map aS).map V.str ++ [V.str (aS ds[i])]))) acc=some (.lst (((ds.take i).map aS).map V.str ++ [V.str (aS ds[i])]))/\ab H (upd H1 acc (.lst (((ds.take i).map aS).map V.str ++ [V.str (aS ds[i])]))):=by
    refine⟨ha,_,rfl,?_,U,s1.put na⟩
    rw [List.take_add_one,hd4,List.map_append,List.map_append]
    rfl
   rcases ok.ok _ (List.mem_of_getElem? hd4) with ⟨y,ey,hy⟩ | ⟨k,ek,hk⟩
   ·rw [ey] at rx fin
    cases rx
    exact⟨_,rfl,.inl ⟨y,rfl,fin⟩⟩
   ·rw [ek] at rx fin
    cases rx
    exact⟨_,rfl,.inr ⟨k,rfl,mr hk,fin⟩⟩
  rintro ys τ H1 ⟨c,rfl,rfl,ha,s1⟩
  rw [List.take_of_length_le (Nat.le_of_eq r.len.symm)] at ha
  refine⟨" ",acc,ds.map aS,rfl,rfl,ax.of ha,?_,q H1 s1⟩
  have h1:=eD (k:=41) (ds.map aS) fun y hy=>by
   obtain⟨d,hd,rfl⟩:=List.mem_map.mp hy
   exact iR (ok.ok d hd)
  rw [List.length_map,show (" " : Str).length=1 by decide +kernel]
  rw [List.length_map] at h1
  omega
theorem jH {f:Addr} {fd:FuncData} (F:bN K "piece_text" "piece_text" eF f fd) (Z:Bl mg) (O_in_a_row:Own P w K mg base "in_a_row" 1 ["things"] mq):bf P w K mg base bK 2 f fd ["piece"] cG:=by
 refine F.ok (k:=1) dC (fun vs H Q E h=>?_) (fun cdv A outer s H vs Q E hr h=>?_)
 ·obtain⟨x,p,xs,m,c,rfl,_⟩:=h
  rfl
 ·obtain⟨x,p,xs,m,c,rfl,hx,ok,hm,hc,q⟩:=h
  refine⟨_,(ae (fZ (pv 0) (iz rfl (cc (bc (i:=1) dC.nd) (cc (bc (i:=2) dC.nd) gO))))
   (af (av (b8 PySem.F.plainAttrs_str PySem.F.slot_str_join PySem.F.type_str_join cM aF (au (bM ["step"] [] [] rfl (dY (aM lW (pv 1) (cB (au (pv 2))))) rfl (by decide +kernel) (by decide +kernel) (by decide +kernel) True.intro (fun _ _ _ _=>(bc (i:=0) (show ((["step"]:List Str)++([]:List Str)).Nodup by decide +kernel) (hf:=Or.inr rfl))) (fun _ _ _ _=>bB) (fun _ _ _ _=>(aw O_in_a_row hr (au (pv 0)))))))))),?_⟩
  obtain⟨pp,us,rfl,e,r⟩:=aI.cq hx
  obtain⟨x1,us1,rfl,r1,r⟩:=r.cons_inv
  obtain⟨x2,us2,rfl,r2,r⟩:=r.cons_inv
  have z:=r.nil_inv
  subst z
  obtain⟨da,ws,rfl,e1,rw'⟩:=aI.cq r1
  have hwl:=rw'.len
  rw [List.length_map] at hwl
  have hfew:=ok.cZ
  refine⟨_,rfl,pp,_,rfl,aJ.of e,rfl,_,_,rfl,_,_,rfl,rfl,?_⟩
  refine⟨rfl,_,rfl,_,rfl,pT,fun t1 n1=>?_⟩
  have s1:=ab.new (o:=.tup [x2]) n1
  refine⟨da,t1,_,_,rfl,rfl,s1 _ _ e1,U,(by show _+1<=sizeLine;exact Nat.le_of_lt (aK (by omega))),fun t2 H2 ht2 s2=>?_⟩
  have s02:=s1.trans s2
  have hds:=cO ok hc
  have rd:ar H2 (ws ++ [x2]) ((aQ p).map PyData.tuple):=by
   unfold aQ
   rw [List.map_append,List.map_map]
   have ee:p.1.map (PyData.tuple ∘ fun d=>eV (ba d))=p.1.map ba:=List.map_congr_left fun d hd=>((gW ok.nm (ok.ds d hd)).2).symm
   rw [ee]
   refine ar.app (rw'.bp s02) ?_
   rw [<-(iQ ok.nm ok.en hc).2]
   exact r2.bp s02
  generalize hL:aQ p=ls at rd hds
  have hll:=rd.len
  rw [List.length_map] at hll
  have hlf:ls.length<=13:=by
   rw [<-hll,List.length_append]
   show _+1<=13
   omega
  refine⟨t2,rfl,⟨_,aJ.of ht2⟩,fun acc na=>?_⟩
  refine ef (K:=K) (a:=t2) (xs:=ws ++ [x2]) (fun i ys τ H1=>∃ c:Option V,τ = [c]/\ys=((ls.take i).map stepT).map V.str/\H1 acc=some (.lst ys)/\ab H2 H1) ?_ ?_ ?_ ?_
  ·exact⟨none,rfl,rfl,U,ab.new na⟩
  ·rintro i ys τ H1 hi ⟨c,rfl,rfl,ha,s1⟩
   refine⟨aJ.of (s1 _ _ ht2),ha,aK ?_⟩
   rw [List.length_map,List.length_map,List.length_take]
   omega
  ·rintro i x' ys τ H1 hxi ⟨c,rfl,rfl,ha,s1⟩
   refine bH ?_
   refine cz ?_
   refine aU ?_
   have hlt:i < ls.length:=by
    obtain⟨z,_⟩:=List.getElem?_eq_some_iff.mp hxi
    omega
   have hd4:ls[i]? = some ls[i]:=List.getElem?_eq_getElem hlt
   obtain⟨x3,hx3,rx⟩:=rd.get (i:=i) (d:=.tuple ls[i]) (by rw [List.getElem?_map,hd4];rfl)
   obtain rfl:x3=x':=Option.some.inj (hx3.symm.trans hxi)
   refine⟨_,rfl,x3,ls[i],rfl,rx.bp s1,hds _ (List.mem_of_getElem? hd4),fun H6 s6=>?_⟩
   have ha6:=s6 _ _ ha
   refine⟨ha6,_,rfl,?_,U,(s1.trans s6).put na⟩
   rw [List.take_add_one,hd4,List.map_append,List.map_append]
   rfl
  rintro ys τ H1 ⟨c,rfl,rfl,ha,s1⟩
  rw [List.take_of_length_le (by omega)] at ha
  refine⟨"; ",acc,ls.map stepT,rfl,rfl,ax.of ha,?_,?_⟩
  ·have h1:=eD (k:=210) (ls.map stepT) fun y hy=>by
    obtain⟨d,hd,rfl⟩:=List.mem_map.mp hy
    exact fI (hds d hd)
   rw [List.length_map,show ("; " : Str).length=2 by decide +kernel]
   rw [List.length_map] at h1
   omega
  ·have:=q H1 (s02.trans s1)
   unfold ay at this
   rw [hL] at this
   exact this
theorem kL {f:Addr} {fd:FuncData} (F:bN K "plan_text" "plan_text" e4 f fd) (Z:Bl mg) (O_piece_text:Own P w K mg base "piece_text" 2 ["piece"] cG):bf P w K mg base bK 3 f fd ["plan"] iU:=by
 refine F.ok (k:=2) kI (fun vs H Q E h=>?_) (fun cdv A outer s H vs Q E hr h=>?_)
 ·obtain⟨x,ps,xs,m,c,rfl,_⟩:=h
  rfl
 ·obtain⟨x,ps,xs,m,c,rfl,hx,ok,hm,hc,h400,q⟩:=h
  refine⟨_,(af (av (b8 PySem.F.plainAttrs_str PySem.F.slot_str_join PySem.F.type_str_join cM aF (au (bM ["piece"] [] [] rfl (dY (pv 0)) rfl (by decide +kernel) (by decide +kernel) (by decide +kernel) True.intro (fun _ _ _ _=>(bc (i:=0) (show ((["piece"]:List Str)++([]:List Str)).Nodup by decide +kernel) (hf:=Or.inr rfl))) (fun _ _ _ _=>bB) (fun _ _ _ _=>(aw O_piece_text hr (au (pv 0))))))))),?_⟩
  obtain⟨p,us,rfl,e,r⟩:=aI.cq hx
  have hll:=r.len
  rw [List.length_map] at hll
  refine⟨rfl,_,rfl,p,rfl,⟨_,aJ.of e⟩,fun acc na=>?_⟩
  refine ef (K:=K) (a:=p) (xs:=us) (fun i ys τ H1=>∃ c:Option V,τ = [c]/\ys=((ps.take i).map ay).map V.str/\H1 acc=some (.lst ys)/\ab H H1) ?_ ?_ ?_ ?_
  ·exact⟨none,rfl,rfl,U,ab.new na⟩
  ·rintro i ys τ H1 hi ⟨c,rfl,rfl,ha,s1⟩
   refine⟨aJ.of (s1 _ _ e),ha,aK ?_⟩
   rw [List.length_map,List.length_map,List.length_take]
   omega
  ·rintro i x' ys τ H1 hxi ⟨c',rfl,rfl,ha,s1⟩
   refine bH ?_
   refine cz ?_
   refine aU ?_
   have hlt:i < ps.length:=by
    obtain⟨z,_⟩:=List.getElem?_eq_some_iff.mp hxi
    omega
   have hd4:ps[i]? = some ps[i]:=List.getElem?_eq_getElem hlt
   obtain⟨x3,hx3,rx⟩:=r.get (i:=i) (d:=aW ps[i]) (by rw [List.getElem?_map,hd4];rfl)
   obtain rfl:x3=x':=Option.some.inj (hx3.symm.trans hxi)
   refine⟨_,rfl,x3,ps[i],xs,m,c,rfl,rx.bp s1,ok _ (List.mem_of_getElem? hd4),hm,hc,fun H6 s6=>?_⟩
   have ha6:=s6 _ _ ha
   refine⟨ha6,_,rfl,?_,U,(s1.trans s6).put na⟩
   rw [List.take_add_one,hd4,List.map_append,List.map_append]
   rfl
  rintro ys τ H1 ⟨c',rfl,rfl,ha,s1⟩
  rw [List.take_of_length_le (by omega)] at ha
  refine⟨"\n",acc,ps.map ay,rfl,rfl,ax.of ha,?_,q H1 s1⟩
  have h1:=eD (k:=13 * 212) (ps.map ay) fun y hy=>by
   obtain⟨d,hd,rfl⟩:=List.mem_map.mp hy
   exact Nat.le_trans (du (ok d hd) hc) (Nat.mul_le_mul (by omega) (Nat.le_refl _))
  rw [List.length_map,show ("\n" : Str).length=1 by decide +kernel]
  rw [List.length_map] at h1
  omega
theorem kM {f:Addr} {fd:FuncData} (F:bN K "read_word" "read_word" e6 f fd) (Z:Bl mg) (O_read_number:Own P w K mg base "read_number" 1 ["text"] nR):bf P w K mg base bK 2 f fd ["word"] oo:=by
 refine F.ok (k:=1) gI (fun vs H Q E h=>?_) (fun cdv A outer s H vs Q E hr h=>?_)
 ·obtain⟨x,rfl,_⟩:=h
  rfl
 ·obtain⟨x,rfl,hx,q⟩:=h
  refine⟨_,(ae (bh (i:=1) gI.nd (aw O_read_number hr (au (pv 0))))
   (af (av (jY (m6 (m5 (pv 1))) (pv 0) (pv 1))))),?_⟩
  refine⟨_,rfl,x,rfl,hx,fun H1 s1=>?_⟩
  have q:=q H1 s1
  unfold vW at q
  cases h:fo x with
  | none =>
   rw [h] at q
   refine⟨_,rfl,_,rfl,cH rfl ?_⟩
   exact⟨_,rfl,q⟩
  | some i =>
   rw [h] at q
   refine⟨_,rfl,_,rfl,cu rfl ?_⟩
   exact⟨_,rfl,q⟩
theorem kN {f:Addr} {fd:FuncData} (F:bN K "read_step" "read_step" e7 f fd) (Z:Bl mg) (O_read_word:Own P w K mg base "read_word" 2 ["word"] oo):bf P w K mg base bK 3 f fd ["text"] kG:=by
 refine F.ok (k:=2) gJ (fun vs H Q E h=>?_) (fun cdv A outer s H vs Q E hr h=>?_)
 ·obtain⟨ds,rfl,_⟩:=h
  rfl
 ·obtain⟨ds,rfl,ok,q⟩:=h
  refine⟨_,(ae (bh (i:=1) gJ.nd (b8 PySem.F.plainAttrs_str PySem.F.slot_str_split PySem.F.type_str_split ij (pv 0) (au aF)))
   (af (av (aM lW (cB (au (aT bt (pv 1) aa))) (bC b4 rfl Z.tuple cf (au (bM ["word"] [] [] rfl (iY (fB lN (pv 1) (gR aa) gQ)) rfl (by decide +kernel) (by decide +kernel) (by decide +kernel) True.intro (fun _ _ _ _=>(bc (i:=0) (show ((["word"]:List Str)++([]:List Str)).Nodup by decide +kernel) (hf:=Or.inr rfl))) (fun _ _ _ _=>bB) (fun _ _ _ _=>(aw O_read_word hr (au (pv 0))))))))))),?_⟩
  have hlen:=fI ok
  refine⟨_,rfl,rfl,_, " ",rfl,rfl,(by decide +kernel),(by omega),fun l nl=>?_⟩
  rw [mQ ok]
  have s1:=ab.new (o:=.lst ((ds.map aS).map V.str)) nl
  have hl:(upd H l (.lst ((ds.map aS).map V.str))) l=some (.lst ((ds.map aS).map V.str)):=U
  generalize (upd H l (.lst ((ds.map aS).map V.str)))=H1 at s1 hl ⊢
  obtain⟨w0,rest,rfl⟩:=ok.hd
  have hfew:=ok.cZ
  rw [List.length_cons] at hfew
  refine⟨_,rfl,l,_,0,_,rfl,rfl,ax.of hl,fS,pT,fun t1 n1=>?_⟩
  have s2:=ab.new (o:=.tup [V.str w0]) n1
  have ht1:(upd H1 t1 (.tup [V.str w0])) t1=some (.tup [V.str w0]):=U
  have hl2:=s2 _ _ hl
  have s02:=s1.trans s2
  change (_:Hp->Prop) (upd H1 t1 (.tup [V.str w0]))
  generalize (upd H1 t1 (.tup [V.str w0]))=H2 at s2 ht1 hl2 s02 ⊢
  refine⟨_,rfl,_,rfl,l,_,rfl,ax.of hl2,fun l3 n3=>?_⟩
  rw [show cS ((List.map aS (PyData.str w0 :: rest)).map V.str) (some 1) none=(rest.map aS).map V.str from pf (xs:=(List.map aS (PyData.str w0 :: rest)).map V.str) (k:=1) (by rw [List.length_map,List.length_map,List.length_cons];omega)]
  have s3:=ab.new (o:=.lst ((rest.map aS).map V.str)) n3
  have hl3:(upd H2 l3 (.lst ((rest.map aS).map V.str))) l3=some (.lst ((rest.map aS).map V.str)):=U
  have s03:=s02.trans s3
  have ht3:=s3 _ _ ht1
  generalize (upd H2 l3 (.lst ((rest.map aS).map V.str)))=H3 at s3 hl3 s03 ht3 ⊢
  refine⟨l3,rfl,⟨_,ax.of hl3⟩,fun acc na=>?_⟩
  refine i5 (K:=K) (a:=l3) (xs:=(rest.map aS).map V.str) (fun i ys τ H'=>∃ c:Option V,τ = [c]/\ar H' ys (rest.take i)/\H' acc=some (.lst ys)/\ab H3 H') ?_ ?_ ?_ ?_
  ·exact⟨none,rfl,.nil,U,ab.new na⟩
  ·rintro i ys τ H4 hi ⟨c,rfl,g1,g2,g3⟩
   refine⟨ax.of (g3 _ _ hl3),g2,aK ?_⟩
   rw [g1.len,List.length_take]
   omega
  ·rintro i x' ys τ H4 hxi ⟨c,rfl,g1,g2,g3⟩
   refine bH ?_
   refine cz ?_
   refine aU ?_
   have hlt:i < rest.length:=by
    obtain⟨z,_⟩:=List.getElem?_eq_some_iff.mp hxi
    rw [List.length_map,List.length_map] at z
    exact z
   have hd4:rest[i]? = some rest[i]:=List.getElem?_eq_getElem hlt
   have ai:=ok.ok _ (List.mem_cons_of_mem _ (List.mem_of_getElem? hd4))
   generalize rest[i] = d at hd4 ai
   rw [List.getElem?_map,List.getElem?_map,hd4] at hxi
   cases hxi
   refine⟨_,rfl,aS d,rfl,tG ai,fun H5 s5=>?_⟩
   have g25:=s5 _ _ g2
   refine⟨g25,_,rfl,?_,U,(g3.trans s5).put na⟩
   rw [List.take_add_one,hd4]
   have hv:aI (upd H5 acc (.lst (ys ++ [vW (aS d)]))) (vW (aS d)) d:=by
    have:=tF (H:=upd H5 acc (.lst (ys ++ [vW (aS d)]))) (aS d)
    rw [tD ai] at this
    exact this
   refine ar.app ?_ hv
   have nol:bE (rest.take i)=true:=dN fun e he=>by
    rcases ok.ok e (List.mem_cons_of_mem _ (List.mem_of_mem_take he)) with ⟨x,rfl,_⟩ | ⟨k,rfl,_⟩ <;> rfl
   exact (g1.bp s5).put g25 nol
  rintro ys τ H4 ⟨c,rfl,g1,g2,g3⟩
  rw [List.take_of_length_le (by rw [List.length_map,List.length_map];exact Nat.le_refl _)] at g1
  have hyl:=g1.len
  refine⟨acc,_,rfl,.inl ⟨ax.of g2,fun t5 n5=>?_⟩⟩
  have s5:=ab.new (o:=.tup ys) n5
  refine⟨t1,t5,_,_,rfl,rfl,s5 _ _ (g3 _ _ ht3),U,(by show 1+_<=sizeLine;exact Nat.le_of_lt (aK (by omega))),fun t6 H6 ht6 s6=>?_⟩
  exact q t6 H6 (.tup ht6 (.cons (.str _) (g1.bp (s5.trans s6)))) ((s03.trans g3).trans (s5.trans s6))
theorem jI {f:Addr} {fd:FuncData} (F:bN K "read_piece" "read_piece" eG f fd) (Z:Bl mg) (O_read_step:Own P w K mg base "read_step" 3 ["text"] kG) (O_is_piece:Own P w K mg base "is_piece" 5 ["thing", "count"] kr):bf P w K mg base bK 6 f fd ["line", "count", "at"] eX:=by
  refine F.ok (k:=5) dD (fun vs H Q E h=>?_) (fun cdv A outer s H vs Q E hr h=>?_)
  · obtain⟨p,xs,m,c,at_,rfl,_⟩:=h
    rfl
  · obtain⟨p,xs,m,c,at_,rfl,ok,hm,hc,q⟩:=h
    refine⟨_,(ae (fC (i:=3) ["text"] [] [] rfl dD.nd rfl rfl rfl (iY (b8 PySem.F.plainAttrs_str PySem.F.slot_str_split PySem.F.type_str_split ij (pv 0) (au aF))) rfl (by decide +kernel) (by decide +kernel) (by decide +kernel) True.intro (fun _ _ _ _=>(bc (i:=0) (show ((["text"]:List Str)++([]:List Str)).Nodup by decide +kernel) (hf:=Or.inr rfl))) (fun _ _ _ _=>bB) (fun _ _ _ _=>(aw O_read_step hr (au (pv 0)))))
      (ae (bh (i:=4) dD.nd (cB (aL (bC b4 rfl Z.tuple cf (au (fB lN (pv 3) gQ (gR (pQ ng aa))))) (aT bt (pv 3) (pQ ng aa)))))
      (ae (bw (dX (dn (aw O_is_piece hr (aL (pv 4) (pv 1)))))
      (af j0)
      aP)
      (af (av (pv 4)))))),?_⟩
    have hlen:=du ok hc
    have h13:(m+1) * 212<=13 * 212:=Nat.mul_le_mul (by omega) (Nat.le_refl _)
    have hds:=cO ok hc
    have hfew:=ok.cZ
    have hsl:(aQ p).length=p.1.length+1:=by unfold aQ;rw [List.length_append,List.length_map];rfl
    refine⟨_,rfl,rfl,_, "; ",rfl,rfl,(by decide +kernel),(by omega),fun l nl=>?_⟩
    rw [kU ok hc]
    have s1:=ab.new (o:=.lst (((aQ p).map stepT).map V.str)) nl
    have hl:(upd H l (.lst (((aQ p).map stepT).map V.str))) l=some (.lst (((aQ p).map stepT).map V.str)):=U
    generalize (upd H l (.lst (((aQ p).map stepT).map V.str)))=H1 at s1 hl ⊢
    refine⟨l,rfl,⟨_,ax.of hl⟩,fun acc na=>?_⟩
    refine i5 (K:=K) (a:=l) (xs:=((aQ p).map stepT).map V.str) (fun i ys τ H'=>∃ c:Option V,τ = [c]/\ar H' ys (((aQ p).take i).map PyData.tuple)/\H' acc=some (.lst ys)/\ab H1 H') ?_ ?_ ?_ ?_
    · exact⟨none,rfl,.nil,U,ab.new na⟩
    · rintro i ys τ H4 hi ⟨c,rfl,g1,g2,g3⟩
      refine⟨ax.of (g3 _ _ hl),g2,aK ?_⟩
      rw [g1.len,List.length_map,List.length_take]
      omega
    · rintro i x' ys τ H4 hxi ⟨c',rfl,g1,g2,g3⟩
      refine bH ?_
      refine cz ?_
      refine aU ?_
      have hlt:i < (aQ p).length:=by
        obtain⟨z,_⟩:=List.getElem?_eq_some_iff.mp hxi
        rw [List.length_map,List.length_map] at z
        exact z
      have hd4:(aQ p)[i]? = some (aQ p)[i]:=List.getElem?_eq_getElem hlt
      have ai:=hds _ (List.mem_of_getElem? hd4)
      generalize (aQ p)[i] = ds at hd4 ai
      rw [List.getElem?_map,List.getElem?_map,hd4] at hxi
      cases hxi
      refine⟨_,rfl,ds,rfl,ai,fun t5 H5 rd s5=>?_⟩
      have g25:=s5 _ _ g2
      refine⟨g25,_,rfl,?_,U,(g3.trans s5).put na⟩
      rw [List.take_add_one,hd4,List.map_append]
      have nol1:∀ e ∈ aQ p,bU (.tuple e)=true:=fun e he=>dN fun d hd=>by
        rcases (hds e he).ok d hd with ⟨x,rfl,_⟩ | ⟨k,rfl,_⟩ <;> rfl
      refine ar.app ((g1.bp s5).put g25 (dN fun e he=>?_)) (rd.bR (fun q zs e=>by rw [ao (fu e g25 (by intro z;cases z))];exact e) (nol1 ds (List.mem_of_getElem? hd4)))
      obtain⟨e',he',rfl⟩:=List.mem_map.mp he
      exact nol1 e' (List.mem_of_mem_take he')
    rintro ys τ H4 ⟨c',rfl,g1,g2,g3⟩
    rw [List.take_of_length_le (by rw [List.length_map,List.length_map];exact Nat.le_refl _)] at g1
    have hyl:=g1.len
    rw [List.length_map] at hyl
    have eSt:(aQ p).map PyData.tuple=p.1.map ba ++ [b7 p.2]:=by
      unfold aQ
      rw [List.map_append,List.map_map]
      have ee:p.1.map (PyData.tuple ∘ fun d=>eV (ba d))=p.1.map ba:=List.map_congr_left fun d hd=>((gW ok.nm (ok.ds d hd)).2).symm
      rw [ee]
      show _ ++ [PyData.tuple (eV (b7 p.2))] = _
      rw [<-(iQ ok.nm ok.en hc).2]
    rw [eSt] at g1
    obtain⟨ys1,y2,rfl,g4,g5⟩:=ar.snoc_inv g1
    have hy1:=g4.len
    rw [List.length_map] at hy1
    have s4:=s1.trans g3
    refine bH ?_
    refine⟨_,rfl,_,rfl,_,rfl,acc,_,rfl,ax.of g2,fun l2 n2=>?_⟩
    rw [pH]
    have s5:=ab.new (o:=.lst ys1) n2
    refine⟨l2,_,rfl,.inl ⟨ax.of U,fun t2 n3=>?_⟩⟩
    have s6:=ab.new (o:=.tup ys1) n3
    have s56:=s5.trans s6
    have ht2:(upd (upd H4 l2 (.lst ys1)) t2 (.tup ys1)) t2=some (.tup ys1):=U
    generalize (upd (upd H4 l2 (.lst ys1)) t2 (.tup ys1))=H5 at s56 ht2 ⊢
    refine⟨_,rfl,_,rfl,acc,_,_,_,rfl,rfl,ax.of (s56 _ _ g2),oQ ys1 y2,ln2,fun t3 n4=>?_⟩
    have s7:=ab.new (o:=.tup [.ref t2,y2]) n4
    have s47:=s56.trans s7
    have rp:aI (upd H5 t3 (.tup [.ref t2,y2])) (.ref t3) (aW p):=.tup U (.cons (.tup (s7 _ _ ht2) (g4.bp s47)) (.cons (g5.bp s47) .nil))
    have s07:=s4.trans s47
    generalize (upd H5 t3 (.tup [.ref t2,y2]))=H6 at rp s07 ⊢
    refine⟨_,rfl,_,rfl,.ref t3,aW p,c,rfl,rp,oq ok hm,fun H7 s8=>⟨_,rfl,?_⟩⟩
    rw [n9 ok.nm (by omega) ok.ds ok.en]
    refine bx ?_
    exact⟨_,rfl,q _ H7 (rp.bp s8) (s07.trans s8)⟩
theorem kO {f:Addr} {fd:FuncData} (F:bN K "read_plan" "read_plan" fb f fd) (Z:Bl mg) {tk_LONGEST_NAME:Tok} (G_LONGEST_NAME:mg "LONGEST_NAME" = some (.int 8 tk_LONGEST_NAME)) {tk_MOST_PIECES:Tok} (G_MOST_PIECES:mg "MOST_PIECES" = some (.int 400 tk_MOST_PIECES)) {tk_MOST_DEEDS:Tok} (G_MOST_DEEDS:mg "MOST_DEEDS" = some (.int 12 tk_MOST_DEEDS)) {tk_MOST_FIGURES:Tok} (G_MOST_FIGURES:mg "MOST_FIGURES" = some (.int 40 tk_MOST_FIGURES)) (O_read_piece:Own P w K mg base "read_piece" 6 ["line", "count", "at"] eX):bf P w K mg base bK 7 f fd ["text"] iV:=by
 refine F.ok (k:=6) gK (fun vs H Q E h=>?_) (fun cdv A outer s H vs Q E hr h=>?_)
 ·obtain⟨ps,xs,m,rfl,_⟩:=h
  rfl
 ·obtain⟨ps,xs,m,rfl,ok,hm,h0,h400,hb,q⟩:=h
  refine⟨_,(ae (bh (i:=1) gK.nd (b8 PySem.F.plainAttrs_str PySem.F.slot_str_split PySem.F.type_str_split ij (pv 0) (au aF)))
   (ae (bw (aR iC (aA (hU (K:=K) rfl) rfl Z.len bP (au (pv 1))) (fh (v:=.int 400) rfl G_MOST_PIECES ⟨_,rfl⟩) (aV _))
   (af j0)
   aP)
   (af (av (bC b4 rfl Z.tuple cf (au (bM ["at", "line"] ["lines"] [1] rfl (qT rfl Z.enumerate (au (pv 1))) rfl (by decide +kernel) (by decide +kernel) (by decide +kernel) ⟨⟨rfl,.inl rfl,rfl⟩,True.intro⟩ (fun _ _ _ _=>(lQ (K:=K) (n:=2) rfl (iz (n:=2) rfl (cc (bc (i:=0) (show ((["at", "line"]:List Str)++(["lines"]:List Str)).Nodup by decide +kernel) (hf:=Or.inr rfl)) (cc (bc (i:=1) (show ((["at", "line"]:List Str)++(["lines"]:List Str)).Nodup by decide +kernel) (hf:=Or.inr rfl)) gO))))) (fun _ _ _ _=>bB) (fun _ _ _ _=>(aw O_read_piece hr (eT (pv 1) (aA (hU (K:=K) rfl) rfl Z.len bP (au (pv 2))) (pv 0))))))))))),?_⟩
  have hlen:=kF ok h400 h0 hb
  refine⟨_,rfl,rfl,_, "\n",rfl,rfl,(by decide +kernel),(by omega),fun l nl=>?_⟩
  rw [mR ok h400 h0]
  have s1:=ab.new (o:=.lst ((ps.map ay).map V.str)) nl
  have hl:(upd H l (.lst ((ps.map ay).map V.str))) l=some (.lst ((ps.map ay).map V.str)):=U
  generalize (upd H l (.lst ((ps.map ay).map V.str)))=H1 at s1 hl ⊢
  refine⟨_,rfl,l,_,rfl,.inl (ax.of hl),_,_,rfl,rfl,_,rfl,?_⟩
  have hll:((ps.map ay).map V.str).length=ps.length:=by rw [List.length_map,List.length_map]
  refine cu (decide_eq_false (by omega)) ?_
  refine⟨_,rfl,l,rfl,.inr ⟨⟨_,ax.of hl⟩,fun acc na=>?_⟩⟩
  refine qU (Sq:=ax K) (a:=l) (xs:=(ps.map ay).map V.str) (fun i zs τ H'=>∃ (c1 c2:Option V),τ = [c1,c2,some (.ref l)]/\H' acc=some (.lst zs)/\ar H' zs ((ps.take i).map aW)/\ab H1 H') ?_ ?_ ?_ ?_
  ·exact⟨none,none,rfl,U,.nil,ab.new na⟩
  ·rintro i zs τ H5 hi ⟨c1,c2,rfl,ha,rd,s5⟩
   have:=rd.len
   rw [List.length_map,List.length_take] at this
   exact⟨ax.of (s5 _ _ hl),ha,aK (by omega)⟩
  ·rintro i x zs τ H5 t hx ht ⟨c1,c2,rfl,ha,rd,s5⟩
   have hi:i < ps.length:=by have:=(List.getElem?_eq_some_iff.mp hx).1;omega
   have hpi:ps[i]? = some ps[i]:=List.getElem?_eq_getElem hi
   generalize ps[i] = p at hpi
   rw [List.getElem?_map,List.getElem?_map,hpi] at hx
   cases hx
   have st:=ab.new (o:=.tup [.int (i:Nat),.str (ay p)]) ht
   refine⟨t,_,rfl,aJ.of U,rfl,_,_,rfl,_,_,rfl,rfl,?_⟩
   have ha6:=st _ _ ha
   have s6:=s5.trans st
   have rd6:=rd.bp st
   generalize (upd H5 t (.tup [.int (i:Nat),.str (ay p)]))=H6 at ha6 s6 rd6 ⊢
   refine cz ?_
   refine aU ?_
   refine⟨_,rfl,_,rfl,l,_,rfl,.inl (ax.of (s6 _ _ hl)),_,rfl,p,xs,m,ps.length,(i:Nat),(by rw [hll];rfl),ok p (List.mem_of_getElem? hpi),hm,h400,fun v H7 rv s7=>?_⟩
   have ha7:=s7 _ _ ha6
   refine⟨ha7,_,_,rfl,U,?_,(s6.trans s7).put na⟩
   rw [List.take_add_one,hpi,List.map_append]
   exact ar.app ((rd6.bp s7).put ha7 (bu _)) (rv.bR (fun q zs e=>by rw [ao (fu e ha7 (by intro z;cases z))];exact e) (cW p))
  rintro zs τ H5 ⟨c1,c2,rfl,ha,rd,s5⟩
  rw [List.take_of_length_le (by rw [hll];exact Nat.le_refl _)] at rd
  refine⟨acc,_,rfl,.inl ⟨ax.of ha,fun t nt=>?_⟩⟩
  have st:=ab.new (o:=.tup zs) nt
  exact q (.ref t) _ (.tup U (rd.bp st)) ((s1.trans s5).trans st)
theorem mY {f:Addr} {fd:FuncData} (F:bN K "_law_bag" "_law_bag" gL f fd) (Z:Bl mg)  : bf P w K mg base bK 1 f fd ["script", "k"] (pV K):=by
 refine F.ok (k:=0) fM (fun vs H Q E h=>?_) (fun cdv A outer s H vs Q E hr h=>?_)
 ·obtain⟨a,ns,k,rfl,_⟩:=h
  rfl
 ·obtain⟨a,ns,k,rfl,hS,hk,q⟩:=h
  refine⟨_,(ae (bh (i:=2) fM.nd aa)
   (ae (bw (aR jM (pv 1) (aA bo rfl Z.len bP (au (pv 0))) (aV _))
   (af (bh (i:=2) fM.nd (aM d5 (aT bt (pv 0) (pv 1)) (aM qv (aM iB aa aa) (aM iB aa aa)))))
   aP)
   (ae (bw (aR jM (pv 2) (aM iB aa aa) (aV _))
   (af (av (cC (aL aa (aM cA aa (aM d5 (aM cA (aM fi (pv 2) aa) (aM fi aa (pv 1))) aa))))))
   aP)
   (af (av (cC (aL (pv 2) (aM cA aa (aM d5 (aM cA (pv 2) (pv 1)) aa))))))))),?_⟩
  refine⟨_,rfl,_,rfl,_,_,rfl,.inl hS,_,_,rfl,rfl,_,rfl,?_⟩
  refine dg (fun hc=>?_) (fun hc=>?_)
  ·have hl:k < ((ns.map V.int).length:Nat):=of_decide_eq_true hc
   obtain⟨v,hv,hm⟩:=mG hk hl
   obtain⟨z,_,rfl⟩:=List.mem_map.mp hm
   refine⟨_,rfl,_,rfl,_,_,_,_,rfl,rfl,hS,hv,10,60,rfl,rfl,⟨by decide,by decide,by decide⟩,10,60,rfl,rfl,⟨by decide,by decide,by decide⟩,_,_,rfl,rfl,(by unfold IntMulOk;decide +kernel),_,_,rfl,rfl,(show (0:Int) < 10 ^ (60:Int).toNat * 10 ^ (60:Int).toNat by decide +kernel),?_⟩
   refine⟨_,rfl,10,18,rfl,rfl,⟨by decide,by decide,by decide⟩,_,_,rfl,rfl,_,rfl,?_⟩
   refine dg (fun hd=>?_) (fun hd=>?_)
   ·refine⟨_,rfl,_,_,rfl,rfl,.inr ⟨by decide,by decide⟩,_,rfl,_,_,rfl,rfl,.inl ⟨by decide,by decide⟩,_,_,rfl,rfl,_,_,rfl,rfl,(show (0:Int) < 2147483646 by decide),_,_,rfl,rfl,ln2,fun p hp=>?_⟩
    exact q p _ hp ⟨_,_,U,by omega,by omega⟩ (ab.new hp)
   ·refine⟨_,rfl,_,rfl,_,rfl,_,_,rfl,rfl,_,_,rfl,rfl,(show (0:Int) < 2147483646 by decide),_,_,rfl,rfl,ln2,fun p hp=>?_⟩
    exact q p _ hp ⟨_,_,U,by omega,by omega⟩ (ab.new hp)
  ·refine⟨_,rfl,10,18,rfl,rfl,⟨by decide,by decide,by decide⟩,_,_,rfl,rfl,_,rfl,?_⟩
   refine dg (fun hd=>?_) (fun hd=>?_)
   ·refine⟨_,rfl,_,_,rfl,rfl,.inr ⟨by decide,by decide⟩,_,rfl,_,_,rfl,rfl,.inl ⟨by decide,by decide⟩,_,_,rfl,rfl,_,_,rfl,rfl,(show (0:Int) < 2147483646 by decide),_,_,rfl,rfl,ln2,fun p hp=>?_⟩
    exact q p _ hp ⟨_,_,U,by omega,by omega⟩ (ab.new hp)
   ·refine⟨_,rfl,_,rfl,_,rfl,_,_,rfl,rfl,_,_,rfl,rfl,(show (0:Int) < 2147483646 by decide),_,_,rfl,rfl,ln2,fun p hp=>?_⟩
    exact q p _ hp ⟨_,_,U,by omega,by omega⟩ (ab.new hp)
theorem lh {f:Addr} {fd:FuncData} (F:bN K "_law_take" "_law_take" fN f fd) (Z:Bl mg)  : bf P w K mg base bK 1 f fd ["bag", "many"] dr:=by
 refine F.ok (k:=0) hX (fun vs H Q E h=>?_) (fun cdv A outer s H vs Q E hr h=>?_)
 ·obtain⟨b,m,rfl,_⟩:=h
  rfl
 ·obtain⟨b,m,rfl,⟨x,y,hb,h0,h1⟩,hm,q⟩:=h
  refine⟨_,(ae (bw (aR iC (aT bt (pv 0) aa) aa (aV _))
   (ae (bh (i:=2) hX.nd (aM d5 (aT bt (pv 0) aa) (pv 1)))
   (ae (fZ (aM oU (aT bt (pv 0) aa) (pv 1)) (j2 (pv 0) aa set_list))
   (af (av (pv 2)))))
   aP)
   (ae (fZ (aM d5 (aM fi (aT bt (pv 0) aa) aa) aa) (j2 (pv 0) aa set_list))
   (af (av (aM d5 (aM lF (aM d5 (aM fi (aT bt (pv 0) aa) (aT bt (pv 0) aa)) aa) aa) (pv 1)))))),?_⟩
  refine⟨_,rfl,b,_,0,_,rfl,rfl,ax.of hb,fS,_,_,rfl,rfl,_,rfl,?_⟩
  refine dg (fun hc=>?_) (fun hc=>?_)
  ·refine⟨_,rfl,b,_,0,_,rfl,rfl,ax.of hb,fS,_,rfl,_,_,rfl,rfl,hm.1,?_⟩
   refine⟨_,rfl,b,_,0,_,rfl,rfl,ax.of hb,fS,_,rfl,_,_,rfl,rfl,hm,_,rfl,b,_,0,0,rfl,rfl,hb,rfl,?_⟩
   refine⟨_,rfl,?_⟩
   exact q _ _ (Int.emod_nonneg _ (by have:=hm.1;omega)) (Int.emod_lt_of_pos _ hm.1) ⟨_,_,U,h0,h1⟩ Fix.pS
  ·refine⟨_,rfl,b,_,1,_,rfl,rfl,ax.of hb,jn,_,_,rfl,rfl,.inr ⟨by decide,by decide⟩,_,_,rfl,rfl,(show (0:Int) < 2147483647 by decide),_,rfl,b,_,1,1,rfl,rfl,hb,rfl,?_⟩
   refine⟨_,rfl,b,_,1,_,rfl,rfl,ax.of U,jn,_,rfl,b,_,1,_,rfl,rfl,ax.of U,jn,_,_,rfl,rfl,.inl ⟨by omega,by omega⟩,_,_,rfl,rfl,(show (0:Int) < 2147483629 by decide),_,_,rfl,rfl,⟨by decide,by decide⟩,_,rfl,_,_,rfl,rfl,hm.1,?_⟩
   exact q _ _ (Int.emod_nonneg _ (by have:=hm.1;omega)) (Int.emod_lt_of_pos _ hm.1) ⟨_,_,U,by omega,by omega⟩ Fix.pS
theorem kP {f:Addr} {fd:FuncData} (F:bN K "_law_names" "_law_names" fc f fd) (Z:Bl mg) (O_law_take:Own P w K mg base "_law_take" 1 ["bag", "many"] dr):bf P w K mg base bK 2 f fd ["bag"] lT:=by
  refine F.ok (k:=1) bI (fun vs H Q E h=>?_) (fun cdv A outer s H vs Q E hr h=>?_)
  · obtain⟨b,rfl,_⟩:=h
    rfl
  · obtain⟨b,rfl,hB,q⟩:=h
    refine⟨_,(ae (bh (i:=1) bI.nd aF)
      (ae (bh (i:=2) bI.nd (aM cA aa (aw O_law_take hr (aL (pv 0) aa))))
      (ae (fC (i:=3) ["k"] ["letters", "bag"] [1,0] rfl bI.nd rfl rfl rfl (eM rfl Z.range (au (aM cA aa (aw O_law_take hr (aL (pv 0) aa))))) rfl (by decide +kernel) (by decide +kernel) (by decide +kernel) ⟨⟨rfl,.inl rfl,rfl⟩,⟨⟨rfl,.inl rfl,rfl⟩,True.intro⟩⟩ (fun _ _ _ _=>(bc (i:=0) (show ((["k"]:List Str)++(["letters", "bag"]:List Str)).Nodup by decide +kernel) (hf:=Or.inr rfl))) (fun _ _ _ _=>bB) (fun _ _ _ _=>(aT j8 (pv 1) (aw O_law_take hr (aL (pv 2) aa)))))
      (ae (bh (i:=4) bI.nd (aw O_law_take hr (aL (pv 0) (aA bo rfl Z.len bP (au (pv 3))))))
      (ae (bh (i:=5) bI.nd (cC d6))
      (ae (m9 PassesOwn.never rfl (eM rfl Z.range (au (pv 2))) (bc (i:=6) bI.nd)
      (ae (bh (i:=7) bI.nd (bC gh rfl Z.list lO (au (pv 3))))
      (ae (fZ (aT j8 (pv 1) (aw O_law_take hr (aL (pv 0) aa))) (j2 (pv 7) (pv 4) set_list))
      (af (bw (aR ka (b8 PySem.F.plainAttrs_str PySem.F.slot_str_join PySem.F.type_str_join cM aF (au (pv 7))) (pv 5) (by with_unfolding_all rfl))
      (af (lB (b8 PySem.F.plainAttrs_list PySem.F.slot_list_append PySem.F.type_list_append gm (pv 5) (au (b8 PySem.F.plainAttrs_str PySem.F.slot_str_join PySem.F.type_str_join cM aF (au (pv 7)))))))
      aP)))))
      (af (av (pv 5))))))))),?_⟩
    refine⟨_,rfl,b,4,rfl,hB,⟨by decide,by decide +kernel⟩,fun m H1 m0 m1 B1 X1=>⟨_,_,rfl,rfl,?_⟩⟩
    refine⟨_,rfl,b,8,rfl,B1,⟨by decide,by decide +kernel⟩,fun k H2 k0 k1 B2 X2=>⟨_,_,rfl,rfl,_,rfl,(by omega),(by omega),fun acc na=>?_⟩⟩
    refine kc (lo:=0) (fun i ys τ H'=>∃ (v:Option V) (cs:List Nat),τ = [v,some (.str iK),some (.ref b)]/\ys=(cs.map one).map V.str/\cs.length=i/\(∀ c ∈ cs,97<=c/\c<=122)/\H' acc=some (.lst ys)/\bG H' b/\Fix b H2 H') ?_ ?_ ?_ ?_
    · exact⟨none,[],rfl,rfl,rfl,(fun _ h=>nomatch h),U,B2.new na,Fix.new na⟩
    · rintro i ys τ H' hi ⟨v,cs,rfl,rfl,hl,_,ha,_⟩
      refine⟨ha,?_⟩
      rw [List.length_map,List.length_map]
      exact aK (by omega)
    · rintro i ys τ H' hi ⟨v,cs,rfl,rfl,hl,hc,ha,B',X'⟩
      refine bH ?_
      refine cz ?_
      refine aU ?_
      refine⟨_,rfl,_,rfl,b,26,rfl,B',⟨by decide,by decide +kernel⟩,fun r H3 r0 r1 B3 X3=>?_⟩
      obtain⟨c,hat,c0,c1⟩:=nM r0 r1
      have hab:acc ≠ b:=B2.cD na
      have ha3:=X3 acc _ ha hab
      refine⟨iK,r,c,rfl,rfl,lV,hat,ha3,_,cs ++ [c],rfl,?_,?_,?_,U,?_,?_⟩
      · rw [List.map_append,List.map_append];rfl
      · rw [List.length_append,hl];rfl
      · intro d hd
        rcases List.mem_append.mp hd with hd | hd
        · exact hc d hd
        · rw [List.mem_singleton.mp hd];exact⟨c0,c1⟩
      · obtain⟨x,y,e,z⟩:=B3
        exact⟨x,y,by rw [ao hab.symm];exact e,z⟩
      · intro d o hd nd
        rw [ao (aZ hd na)]
        exact (X'.trans X3) d o hd nd
    · rintro ys τ H3 ⟨v,cs,rfl,rfl,hl,hc,ha,B3,X3⟩
      have hab:acc ≠ b:=B2.cD na
      have hl1:1<=cs.length:=by omega
      have hl8:cs.length<=8:=by omega
      have F3:Fix b H H3:=(X1.trans X2).trans X3
      have el:(((cs.map one).map V.str).length:Int)=cs.length:=by simp
      refine⟨_,rfl,_,rfl,acc,_,rfl,.inl (ax.of ha),b,_,rfl,B3,⟨by omega,cU (by omega) (by omega)⟩,fun at_ H4 t0 t1 B4 X4=>?_⟩
      refine⟨(by show 0<=sizeLine;decide),fun nl nn=>?_⟩
      have hnb:nl ≠ b:=B4.cD nn
      have ha4:H4 acc=some (.lst ((cs.map one).map V.str)):=X4 acc _ ha hab
      have hna:nl ≠ acc:=fun z=>by rw [z,ha4] at nn;cases nn
      have F4:Fix b H H4:=F3.trans X4
      refine⟨_,rfl,_,rfl,(by omega),(by omega),je (lo:=0) (fun i σ H'=>∃ (u1 u2:Option V) (xs:List Str),σ = [some (.ref b),some (.str iK),some (.int (1+m)),some (.ref acc),some (.int at_),some (.ref nl),u1,u2] /\
        H' nl=some (.lst (xs.map V.str))/\xs.length<=i/\(0 < i->xs ≠ [])/\(∀ x ∈ xs,aX x)/\H' acc=some (.lst ((cs.map one).map V.str))/\bG H' b/\Fix b H H') ?_ ?_ ?_⟩
      · exact⟨_,_,[],rfl,U,Nat.le_refl _,(fun h=>absurd h (Nat.lt_irrefl _)),(fun _ h=>nomatch h),(by rw [ao hna.symm];exact ha4),B4.new nn,F4.trans (Fix.new nn)⟩
      · rintro i σ H' hi ⟨u1,u2,xs,rfl,hn,hx,hx0,ai,ha',B',X'⟩
        refine⟨_,rfl,acc,_,rfl,.inl (ax.of ha'),fun nm mm=>?_⟩
        have nmb:nm ≠ b:=B'.cD mm
        have nma:nm ≠ acc:=fun z=>by rw [z,ha'] at mm;cases mm
        have nmn:nm ≠ nl:=fun z=>by rw [z,hn] at mm;cases mm
        refine⟨_,rfl,_,rfl,b,26,rfl,B'.new mm,⟨by decide,by decide +kernel⟩,fun r H5 r0 r1 B5 X5=>?_⟩
        obtain⟨c,hat,c0,c1⟩:=nM r0 r1
        have h5:H5 nm=some (.lst ((cs.map one).map V.str)):=X5 nm _ U nmb
        have hn5:H5 nl=some (.lst (xs.map V.str)):=X5 nl _ (by rw [ao nmn.symm];exact hn) hnb
        have ha5:H5 acc=some (.lst ((cs.map one).map V.str)):=X5 acc _ (by rw [ao nma.symm];exact ha') hab
        obtain⟨j,rfl⟩:∃ j:Nat,at_=j:=⟨at_.toNat,by omega⟩
        have hj:j < cs.length:=by omega
        have hix:gf ((cs.map one).map V.str).length (j:Int)=some j:=by
          unfold gf
          rw [if_pos (by omega),if_pos (by rw [el];omega)]
          simp
        refine⟨iK,r,c,rfl,rfl,lV,hat,_,rfl,_,rfl,nm,_,(j:Int),j,rfl,rfl,h5,hix,?_⟩
        have eset:((cs.map one).map V.str).set j (.str ⟨#[c]⟩)=((cs.set j c).map one).map V.str:=by
          rw [List.map_set,List.map_set];rfl
        rw [eset]
        have hc':∀ d ∈ cs.set j c,97<=d/\d<=122:=fun d hd=>by
          rcases List.mem_or_eq_of_mem_set hd with hd | hd
          · exact hc d hd
          · rw [hd];exact⟨c0,c1⟩
        have hjl:(((cs.set j c).map one).map (·.length)).sum+((cs.set j c).map one).length * (Str.ofString "").length<=16777216:=by
          have e1:(Str.ofString "").length=0:=by decide +kernel
          have e2:∀ l:List Nat,((l.map one).map (·.length)).sum=l.length:=by
            intro l
            induction l with
            | nil=>rfl
            | cons a l ih=>simp only [List.map_cons,List.sum_cons,ih,List.length_cons];show 1+l.length=_;omega
          rw [e1,e2,List.length_set]
          omega
        have nk:aX (Txt.join (Str.ofString "") ((cs.set j c).map one)):=by
          rw [oY]
          have ej:=L2.join_ones (cs.set j c)
          have eL:(Txt.join Str.empty ((cs.set j c).map one)).length=(cs.set j c).length:=by
            have:=congrArg List.length ej
            rw [Array.length_toList] at this
            exact this
          refine⟨?_,?_,?_⟩
          · rw [eL,List.length_set];exact hl1
          · rw [eL,List.length_set];exact hl8
          · rw [ej];exact hc'
        have n6:upd H5 nm (.lst (((cs.set j c).map one).map V.str)) nl=some (.lst (xs.map V.str)):=by rw [ao nmn.symm];exact hn5
        have a6:upd H5 nm (.lst (((cs.set j c).map one).map V.str)) acc=some (.lst ((cs.map one).map V.str)):=by rw [ao nma.symm];exact ha5
        have B6:bG (upd H5 nm (.lst (((cs.set j c).map one).map V.str))) b:=by
          obtain⟨x,y,e,z⟩:=B5
          exact⟨x,y,by rw [ao nmb.symm];exact e,z⟩
        have F6:Fix b H (upd H5 nm (.lst (((cs.set j c).map one).map V.str))):=fun d o hd nd=>by
          have h1:=X' d o hd nd
          have nd':d ≠ nm:=fun z=>by rw [z,mm] at h1;cases h1
          rw [ao nd']
          exact X5 d o (by rw [ao nd'];exact h1) nd
        have flat:(xs.map V.str).all dI=true:=by
          rw [List.all_eq_true]
          intro v hv
          obtain⟨x,_,rfl⟩:=List.mem_map.mp hv
          rfl
        refine⟨rfl,_,rfl,_,nm,_,rfl,rfl,ax.of U,hjl,_,rfl,nl,_,rfl,.inl (ax.of n6),rfl,flat,_,rfl,?_⟩
        refine dg (fun hin=>?_) (fun hin=>?_)
        · refine⟨_,rfl,.inl ⟨rfl,_,ax.of n6⟩,rfl,_,rfl,_,nm,_,rfl,rfl,ax.of U,hjl,nl,_,_,rfl,rfl,n6,?_,?_⟩
          · rw [List.length_map]
            have:i < 4:=by omega
            exact aK (by omega)
          · refine⟨_,_,xs ++ [_],rfl,(by rw [U,List.map_append];rfl),(by rw [List.length_append];exact Nat.succ_le_succ hx),(fun _=>by simp),?_,(by rw [ao hna.symm];exact a6),?_,?_⟩
            · intro x hxm
              rcases List.mem_append.mp hxm with hxm | hxm
              · exact ai x hxm
              · rw [List.mem_singleton.mp hxm];exact nk
            · obtain⟨x,y,e,z⟩:=B6
              exact⟨x,y,by rw [ao hnb.symm];exact e,z⟩
            · intro d o hd nd
              have h1:=F6 d o hd nd
              have nd':d ≠ nl:=fun z=>by
                have h2:=F4 d o hd nd
                rw [z,nn] at h2
                cases h2
              rw [ao nd']
              exact h1
        · have hx':xs ≠ []:=by
            intro e
            subst e
            exact hin rfl
          exact⟨_,_,xs,rfl,n6,Nat.le_succ_of_le hx,fun _=>hx',ai,a6,B6,F6⟩
      · rintro σ H' ⟨u1,u2,xs,rfl,hn,hx,hx0,ai,ha',B',X'⟩
        refine⟨_,rfl,?_⟩
        have hm:(1+m).toNat<=4:=by omega
        have hm0:0 < (1+m).toNat:=by omega
        exact q nl xs H' ⟨hn,hnb,hx0 hm0,by omega,ai⟩ (Nat.le_trans hx hm) B' X'
theorem jJ {f:Addr} {fd:FuncData} (F:bN K "_law_number" "_law_number" eH f fd) (Z:Bl mg) (O_law_take:Own P w K mg base "_law_take" 1 ["bag", "many"] dr):bf P w K mg base bK 2 f fd ["bag"] h9:=by
 refine F.ok (k:=1) jF (fun vs H Q E h=>?_) (fun cdv A outer s H vs Q E hr h=>?_)
 ·obtain⟨b,rfl,_⟩:=h
  rfl
 ·obtain⟨b,rfl,hB,q⟩:=h
  refine⟨_,(ae (bw (aR dH (aw O_law_take hr (aL (pv 0) aa)) aa (aV _))
   (af (av (aM fi (aM iA (aM iA (aM iB aa aa) aa) (aw O_law_take hr (aL (pv 0) aa))) (aM iA aa (aM fi aa (aw O_law_take hr (aL (pv 0) aa)))))))
   aP)
   (af (av (aM iA (aw O_law_take hr (aL (pv 0) aa)) aa)))),?_⟩
  refine⟨_,rfl,b,8,rfl,hB,⟨by decide,by decide +kernel⟩,fun r H1 r0 r1 B1 X1=>⟨rfl,_,rfl,?_⟩⟩
  refine dg (fun hc=>?_) (fun hc=>?_)
  ·refine⟨10,40,rfl,rfl,⟨by decide,by decide,by decide⟩,_,_,rfl,rfl,?_⟩
   refine⟨_,rfl,b,3,rfl,B1,⟨by decide,by decide +kernel⟩,fun r2 H2 r20 r21 B2 X2=>⟨_,_,rfl,rfl,?_⟩⟩
   refine⟨_,rfl,b,2,rfl,B2,⟨by decide,by decide +kernel⟩,fun r3 H3 r30 r31 B3 X3=>?_⟩
   refine⟨_,_,rfl,rfl,.inl ⟨by decide,by decide⟩,_,_,rfl,rfl,_,_,rfl,rfl,.inr ⟨by omega,by omega⟩,?_⟩
   refine q _ H3 ?_ B3 ((X1.trans X2).trans X3)
   have e:(10:Int) ^ (40:Int).toNat=10 ^ 40:=by decide +kernel
   rw [e]
   obtain rfl | rfl:r3=0\/r3=1:=by omega
   ·rw [show (1:Int) - 2 * 0=1 by decide,Int.mul_one];unfold b9;omega
   ·rw [show (1:Int) - 2 * 1 = -1 by decide,Int.mul_neg,Int.mul_one];unfold b9;omega
  ·refine⟨_,rfl,b,8,rfl,B1,⟨by decide,by decide +kernel⟩,fun r2 H2 r20 r21 B2 X2=>⟨_,_,rfl,rfl,?_⟩⟩
   exact q _ H2 (by unfold b9;omega) B2 (X1.trans X2)
theorem lj {f:Addr} {fd:FuncData} (F:bN K "_law_deed" "_law_deed" fO f fd) (Z:Bl mg) (O_law_take:Own P w K mg base "_law_take" 1 ["bag", "many"] dr) (O_law_number:Own P w K mg base "_law_number" 2 ["bag"] h9):bf P w K mg base bK 3 f fd ["bag", "names"] nJ:=by
 refine F.ok (k:=2) fe (fun vs H Q E h=>?_) (fun cdv A outer s H vs Q E hr h=>?_)
 ·obtain⟨b,l,xs,rfl,_⟩:=h
  rfl
 ·obtain⟨b,l,xs,rfl,hB,hN,q⟩:=h
  refine⟨_,(ae (bh (i:=2) fe.nd (aT bt (cC (br aF (br aF (br aF (br aF (br aF (br aF (br aF d6)))))))) (aw O_law_take hr (aL (pv 0) aa))))
   (ae (bh (i:=3) fe.nd (aT bt (pv 1) (aw O_law_take hr (aL (pv 0) (aA bo rfl Z.len bP (au (pv 1)))))))
   (ae (bw (aR dH (pv 2) aF (aV _))
   (af (av (cB (eT (pv 2) (pv 3) (aT bt (pv 1) (aw O_law_take hr (aL (pv 0) (aA bo rfl Z.len bP (au (pv 1))))))))))
   aP)
   (ae (bw (PW.pt (ix (aR dH (pv 2) aF (aV _)) (fY (aR dH (pv 2) aF (aV _)))))
   (af (av (cB (eT (pv 2) (pv 3) (aw O_law_number hr (au (pv 0)))))))
   aP)
   (af (av (cB (aL (pv 2) (pv 3))))))))),?_⟩
  refine⟨uR,fun l0 m0=>?_⟩
  refine⟨_,rfl,b,7,rfl,hB.new m0,⟨by decide,by decide +kernel⟩,fun r H1 r0 r1 B1 X1=>?_⟩
  have h0:H1 l0=some (.lst [.str "put",.str "copy",.str "add",.str "read",.str "tell",.str "tell",.str "add"]):=X1 l0 _ U (hB.cD m0)
  have F1:Fix b H H1:=(Fix.new m0).trans X1
  have N1:=hN.fix F1
  have hw:∃ w:Str,(w = "put" \/ w = "copy" \/ w = "add" \/ w = "read" \/ w = "tell")/\cy [V.str "put",.str "copy",.str "add",.str "read",.str "tell",.str "tell",.str "add"] r=some (V.str w):=by
   obtain rfl | rfl | rfl | rfl | rfl | rfl | rfl:r=0\/r=1\/r=2\/r=3\/r=4\/r=5\/r=6:=by omega
   ·exact⟨_,.inl rfl,bJ (j:=0) rfl⟩
   ·exact⟨_,.inr (.inl rfl),bJ (j:=1) rfl⟩
   ·exact⟨_,.inr (.inr (.inl rfl)),bJ (j:=2) rfl⟩
   ·exact⟨_,.inr (.inr (.inr (.inl rfl))),bJ (j:=3) rfl⟩
   ·exact⟨_,.inr (.inr (.inr (.inr rfl))),bJ (j:=4) rfl⟩
   ·exact⟨_,.inr (.inr (.inr (.inr rfl))),bJ (j:=5) rfl⟩
   ·exact⟨_,.inr (.inr (.inl rfl)),bJ (j:=6) rfl⟩
  obtain⟨w,hw,hat⟩:=hw
  refine⟨l0,_,r,_,rfl,rfl,ax.of h0,hat,?_⟩
  obtain⟨p0,p1⟩:=N1.pos
  refine⟨_,rfl,_,rfl,_,rfl,l,_,rfl,.inl (ax.of N1.at_),b,_,rfl,B1,⟨p0,cU p0 p1⟩,fun r2 H2 r20 r21 B2 X2=>?_⟩
  have N2:=N1.fix X2
  obtain⟨x,hx,hxm⟩:=ia r20 r21
  refine⟨l,_,r2,_,rfl,rfl,ax.of N2.at_,hx,?_⟩
  refine⟨_,rfl,rfl,_,rfl,?_⟩
  rcases hw with rfl | rfl | rfl | rfl | rfl
  ·
   rw [show decide (V.str "put" = V.str "copy")=false by decide +kernel]
   refine bx ⟨_,rfl,rfl,_,rfl,?_⟩
   rw [show decide (V.str "put" = V.str "put")=true by decide +kernel]
   refine aU (aU ⟨_,rfl,_,rfl,_,rfl,b,rfl,B2,fun n H3 nk B3 X3=>⟨pU,fun t mt=>?_⟩⟩)
   exact q _ (.put x n) _ (.tup U (.cons (.str _) (.cons (.str _) (.cons (.int _) .nil)))) ⟨hxm,nk⟩ (B3.new mt) (((F1.trans X2).trans X3).trans (Fix.new mt))
  ·
   rw [show decide (V.str "copy" = V.str "copy")=true by decide +kernel]
   obtain⟨p0,p1⟩:=N2.pos
   refine aU ⟨_,rfl,_,rfl,_,rfl,_,rfl,_,rfl,l,_,rfl,.inl (ax.of N2.at_),b,_,rfl,B2,⟨p0,cU p0 p1⟩,fun r3 H3 r30 r31 B3 X3=>?_⟩
   have N3:=N2.fix X3
   obtain⟨y,hy,hym⟩:=ia r30 r31
   refine⟨l,_,r3,_,rfl,rfl,ax.of N3.at_,hy,pU,fun t mt=>?_⟩
   exact q _ (.copy x y) _ (.tup U (.cons (.str _) (.cons (.str _) (.cons (.str _) .nil)))) ⟨hxm,hym⟩ (B3.new mt) (((F1.trans X2).trans X3).trans (Fix.new mt))
  ·
   rw [show decide (V.str "add" = V.str "copy")=false by decide +kernel]
   refine bx ⟨_,rfl,rfl,_,rfl,?_⟩
   rw [show decide (V.str "add" = V.str "put")=false by decide +kernel]
   refine bx ⟨_,rfl,rfl,_,rfl,?_⟩
   rw [show decide (V.str "add" = V.str "add")=true by decide +kernel]
   refine aU ⟨_,rfl,_,rfl,_,rfl,b,rfl,B2,fun n H3 nk B3 X3=>⟨pU,fun t mt=>?_⟩⟩
   exact q _ (.add x n) _ (.tup U (.cons (.str _) (.cons (.str _) (.cons (.int _) .nil)))) ⟨hxm,nk⟩ (B3.new mt) (((F1.trans X2).trans X3).trans (Fix.new mt))
  ·
   rw [show decide (V.str "read" = V.str "copy")=false by decide +kernel]
   refine bx ⟨_,rfl,rfl,_,rfl,?_⟩
   rw [show decide (V.str "read" = V.str "put")=false by decide +kernel]
   refine bx ⟨_,rfl,rfl,_,rfl,?_⟩
   rw [show decide (V.str "read" = V.str "add")=false by decide +kernel]
   refine bx ⟨_,rfl,_,rfl,ln2,fun t mt=>?_⟩
   exact q _ (.read x) _ (.tup U (.cons (.str _) (.cons (.str _) .nil))) hxm (B2.new mt) ((F1.trans X2).trans (Fix.new mt))
  ·
   rw [show decide (V.str "tell" = V.str "copy")=false by decide +kernel]
   refine bx ⟨_,rfl,rfl,_,rfl,?_⟩
   rw [show decide (V.str "tell" = V.str "put")=false by decide +kernel]
   refine bx ⟨_,rfl,rfl,_,rfl,?_⟩
   rw [show decide (V.str "tell" = V.str "add")=false by decide +kernel]
   refine bx ⟨_,rfl,_,rfl,ln2,fun t mt=>?_⟩
   exact q _ (.tell x) _ (.tup U (.cons (.str _) (.cons (.str _) .nil))) hxm (B2.new mt) ((F1.trans X2).trans (Fix.new mt))
theorem mZ {f:Addr} {fd:FuncData} (F:bN K "_law_end" "_law_end" gM f fd) (Z:Bl mg) (O_law_take:Own P w K mg base "_law_take" 1 ["bag", "many"] dr) (O_law_number:Own P w K mg base "_law_number" 2 ["bag"] h9):bf P w K mg base bK 3 f fd ["bag", "names", "count"] nK:=by
 refine F.ok (k:=2) dQ (fun vs H Q E h=>?_) (fun cdv A outer s H vs Q E hr h=>?_)
 ·obtain⟨b,l,xs,c,rfl,_⟩:=h
  rfl
 ·obtain⟨b,l,xs,c,rfl,hB,hN,c0,c1,q⟩:=h
  refine⟨_,(ae (bh (i:=3) dQ.nd (aw O_law_take hr (aL (pv 0) aa)))
   (ae (bw (aR dH (pv 3) aa (aV _))
   (af (av (cB (au aF))))
   aP)
   (ae (bw (aR jM (pv 3) aa (aV _))
   (af (av (cB (aL aF (aw O_law_take hr (aL (pv 0) (pv 2)))))))
   aP)
   (ae (bh (i:=4) dQ.nd (aT bt (cC (aL aF aF)) (aM lF (aw O_law_take hr (aL (pv 0) aa)) aa)))
   (ae (bh (i:=5) dQ.nd (aT bt (pv 1) (aw O_law_take hr (aL (pv 0) (aA bo rfl Z.len bP (au (pv 1)))))))
   (af (av (cB (br (pv 4) (br (pv 5) (br (aw O_law_number hr (au (pv 0))) (br (aw O_law_take hr (aL (pv 0) (pv 2))) (br (aw O_law_take hr (aL (pv 0) (pv 2))) d6))))))))))))),?_⟩
  have ck:(0:Int) < (c:Int)/\(c:Int).natAbs.log2 < 9000:=⟨by omega,cU (by omega) (by omega)⟩
  refine⟨_,rfl,b,9,rfl,hB,⟨by decide,by decide +kernel⟩,fun r H1 r0 r1 B1 X1=>?_⟩
  refine⟨_,rfl,rfl,_,rfl,?_⟩
  refine dg (fun hc=>?_) (fun hc=>?_)
  ·refine⟨pT,fun t mt=>?_⟩
   exact q _ .stop _ (.tup U (.cons (.str _) .nil)) True.intro (B1.new mt) (X1.trans (Fix.new mt))
  refine⟨_,rfl,_,_,rfl,rfl,_,rfl,?_⟩
  refine dg (fun hd=>?_) (fun hd=>?_)
  ·refine⟨_,rfl,_,rfl,b,_,rfl,B1,ck,fun p H2 p0 p1 B2 X2=>⟨ln2,fun t mt=>?_⟩⟩
   obtain⟨k,rfl⟩:∃ k:Nat,p=k:=⟨p.toNat,by omega⟩
   exact q _ (.go k) _ (.tup U (.cons (.str _) (.cons (.int _) .nil))) (show k < c by omega) (B2.new mt) ((X1.trans X2).trans (Fix.new mt))
  ·refine⟨ln2,fun l0 m0=>?_⟩
   refine⟨_,rfl,b,3,rfl,B1.new m0,⟨by decide,by decide +kernel⟩,fun z H2 z0 z1 B2 X2=>⟨_,_,rfl,rfl,⟨by decide,by decide⟩,?_⟩⟩
   have h0:H2 l0=some (.lst [.str "less",.str "is"]):=X2 l0 _ U (B1.cD m0)
   have hw:∃ w:Bool,cy [V.str "less",V.str "is"] (z / 2)=some (V.str (wT w)):=by
    obtain h | h:z / 2=0\/z / 2=1:=by omega
    ·rw [h];exact⟨true,fS⟩
    ·rw [h];exact⟨false,jn⟩
   obtain⟨w,hat⟩:=hw
   refine⟨l0,_,_,_,rfl,rfl,ax.of h0,hat,?_⟩
   have F2:Fix b H H2:=(X1.trans (Fix.new m0)).trans X2
   have N2:=hN.fix F2
   obtain⟨p0,p1⟩:=N2.pos
   refine⟨_,rfl,_,rfl,_,rfl,l,_,rfl,.inl (ax.of N2.at_),b,_,rfl,B2,⟨p0,cU p0 p1⟩,fun r3 H3 r30 r31 B3 X3=>?_⟩
   have N3:=N2.fix X3
   obtain⟨x,hx,hxm⟩:=ia r30 r31
   refine⟨l,_,r3,_,rfl,rfl,ax.of N3.at_,hx,?_⟩
   refine⟨_,rfl,_,rfl,_,rfl,b,rfl,B3,fun n H4 nk B4 X4=>?_⟩
   refine⟨_,rfl,_,rfl,b,_,rfl,B4,ck,fun p H5 p0 p1 B5 X5=>?_⟩
   refine⟨_,rfl,_,rfl,b,_,rfl,B5,ck,fun p' H6 p0' p1' B6 X6=>⟨uQ,fun t mt=>?_⟩⟩
   obtain⟨k,rfl⟩:∃ k:Nat,p=k:=⟨p.toNat,by omega⟩
   obtain⟨k',rfl⟩:∃ k:Nat,p' = k:=⟨p'.toNat,by omega⟩
   exact q _ (.kf w x n k k') _ (.tup U (.cons (.str _) (.cons (.str _) (.cons (.int _) (.cons (.int _) (.cons (.int _) .nil)))))) ⟨hxm,nk,by omega,by omega⟩ (B6.new mt) ((((F2.trans X3).trans X4).trans (X5.trans X6)).trans (Fix.new mt))
theorem ll {f:Addr} {fd:FuncData} (F:bN K "_law_plan" "_law_plan" fP f fd) (Z:Bl mg) (O_law_take:Own P w K mg base "_law_take" 1 ["bag", "many"] dr) (O_law_names:Own P w K mg base "_law_names" 2 ["bag"] lT) (O_law_deed:Own P w K mg base "_law_deed" 3 ["bag", "names"] nJ) (O_law_end:Own P w K mg base "_law_end" 3 ["bag", "names", "count"] nK):bf P w K mg base bK 4 f fd ["bag", "count", "most"] nL:=by
  refine F.ok (k:=3) b6 (fun vs H Q E h=>?_) (fun cdv A outer s H vs Q E hr h=>?_)
  · obtain⟨b,c,m,rfl,_⟩:=h
    rfl
  · obtain⟨b,c,m,rfl,hB,c0,c1,hm,q⟩:=h
    refine⟨_,(ae (bh (i:=3) b6.nd (aw O_law_names hr (au (pv 0))))
      (ae (bh (i:=4) b6.nd (cC d6))
      (ae (m9 PassesOwn.never rfl (eM rfl Z.range (au (pv 1))) (bc (i:=5) b6.nd)
      (ae (bh (i:=6) b6.nd (aw O_law_take hr (aL (pv 0) (aM cA (pv 2) aa))))
      (ae (bh (i:=7) b6.nd (aw O_law_end hr (eT (pv 0) (pv 3) (pv 1))))
      (af (lB (b8 PySem.F.plainAttrs_list PySem.F.slot_list_append PySem.F.type_list_append gm (pv 4) (au (cB (aL (bC b4 rfl Z.tuple cf (au (bM ["j"] ["bag", "names"] [0,3] rfl (eM rfl Z.range (au (pv 6))) rfl (by decide +kernel) (by decide +kernel) (by decide +kernel) ⟨⟨rfl,.inl rfl,rfl⟩,⟨⟨rfl,.inl rfl,rfl⟩,True.intro⟩⟩ (fun _ _ _ _=>(bc (i:=0) (show ((["j"]:List Str)++(["bag", "names"]:List Str)).Nodup by decide +kernel) (hf:=Or.inr rfl))) (fun _ _ _ _=>bB) (fun _ _ _ _=>(aw O_law_deed hr (aL (pv 1) (pv 2))))))) (pv 7))))))))))
      (af (av (bC b4 rfl Z.tuple cf (au (pv 4)))))))),?_⟩
    refine⟨_,rfl,b,rfl,hB,fun l xs H1 N1 x4 B1 X1=>?_⟩
    refine⟨(by show 0<=sizeLine;decide),fun pl pn=>?_⟩
    have hpb:pl ≠ b:=B1.cD pn
    refine⟨_,rfl,_,rfl,(by omega),(by omega),je (lo:=0) (fun i σ H'=>∃ (u1 u2 u3:Option V) (ps:List Piece) (vs:List V),σ = [some (.ref b),some (.int c),some (.int m),some (.ref l),some (.ref pl),u1,u2,u3] /\
      H' pl=some (.lst vs)/\ar H' vs (ps.map aW)/\ps.length=i/\(∀ p ∈ ps,(p.1.length<=m/\∀ d ∈ p.1,cE xs d)/\dJ xs c p.2)/\cn H' b l xs/\bG H' b/\Fix b H H'/\(∀ d o,H1 d=some o->d ≠ b->H' d=some o)) ?_ ?_ ?_⟩
    · exact⟨_,_,_,[],[],rfl,U,.nil,rfl,(fun _ h=>nomatch h),N1.fix (Fix.new pn),B1.new pn,X1.trans (Fix.new pn),Fix.new pn⟩
    · rintro i σ H' hi ⟨u1,u2,u3,ps,vs,rfl,hp,hr,hl,ai,N',B',X',Y'⟩
      refine⟨_,rfl,_,rfl,_,_,rfl,rfl,b,_,rfl,B',⟨by omega,cU (by omega) (by omega)⟩,fun k H2 k0 k1 B2 X2=>?_⟩
      have N2:=N'.fix X2
      refine⟨_,rfl,_,rfl,_,rfl,b,l,xs,c,rfl,B2,N2,c0,(by omega),fun ev e H3 re ek B3 X3=>?_⟩
      have N3:=N2.fix X3
      have hp3:H3 pl=some (.lst vs):=(X2.trans X3) pl _ hp hpb
      have hr3:ar H3 vs (ps.map aW):=hr.fix B' (X2.trans X3) (bu ps)
      refine⟨_,rfl,.inl ⟨rfl,_,ax.of hp3⟩,_,rfl,_,rfl,(by omega),(by omega),fun acc na=>?_⟩
      have hab:acc ≠ b:=B3.cD na
      refine kc (lo:=0) (fun i ys τ H'=>∃ (v:Option V) (ds:List eg),τ = [v,some (.ref b),some (.ref l)]/\ar H' ys (ds.map ba)/\ds.length=i/\(∀ d ∈ ds,cE xs d)/\H' acc=some (.lst ys)/\bG H' b/\Fix b H3 H') ?_ ?_ ?_ ?_
      · exact⟨none,[],rfl,.nil,rfl,(fun _ h=>nomatch h),U,B3.new na,Fix.new na⟩
      · rintro i' ys τ H4 hi' ⟨v,ds,rfl,rds,hl',_,ha,_⟩
        refine⟨ha,?_⟩
        rw [rds.len,List.length_map]
        exact aK (by omega)
      · rintro i' ys τ H4 hi' ⟨v,ds,rfl,rds,hl',hdk,ha,B4,X4⟩
        refine bH ?_
        refine cz ?_
        refine aU ?_
        refine⟨_,rfl,_,rfl,b,l,xs,rfl,B4,N3.fix X4,fun dv d H5 rd dk B5 X5=>?_⟩
        have ha5:=X5 acc _ ha hab
        refine⟨ha5,_,ds ++ [d],rfl,?_,(by rw [List.length_append,hl'];rfl),?_,U,?_,?_⟩
        · rw [List.map_append]
          refine ar.app ((rds.fix B4 X5 (b5 ds)).put ha5 (b5 ds)) ?_
          exact rd.bR (fun p zs e=>by rw [ao (fu e ha5 (by intro z;cases z))];exact e) (hR d)
        · intro d' hd
          rcases List.mem_append.mp hd with hd | hd
          · exact hdk d' hd
          · rw [List.mem_singleton.mp hd];exact dk
        · obtain⟨x,y,e,z⟩:=B5
          exact⟨x,y,by rw [ao hab.symm];exact e,z⟩
        · intro d' o hd nd
          rw [ao (aZ hd na)]
          exact (X4.trans X5) d' o hd nd
      · rintro ys τ H4 ⟨v,ds,rfl,rds,hl',hdk,ha,B4,X4⟩
        refine⟨acc,ys,rfl,.inl ⟨ax.of ha,fun tp tn=>?_⟩⟩
        refine⟨_,rfl,ln2,fun pc pcn=>?_⟩
        have S6:ab H4 (upd (upd H4 tp (.tup ys)) pc (.tup [.ref tp,ev])):=(ab.new tn).trans (ab.new pcn)
        have hp6:(upd (upd H4 tp (.tup ys)) pc (.tup [.ref tp,ev])) pl=some (.lst vs):=S6 _ _ (X4 pl _ hp3 hpb)
        refine⟨pl,_,_,rfl,rfl,hp6,?_,?_⟩
        · rw [hr.len,List.length_map,hl]
          exact aK (by omega)
        have hpiece:aI (upd (upd H4 tp (.tup ys)) pc (.tup [.ref tp,ev])) (.ref pc) (aW (ds,e)):=by
          refine .tup U (.cons (.tup (ab.new pcn _ _ U) (rds.same S6 (b5 ds))) (.cons ?_ .nil))
          exact (re.fix B3 X4 (fD e)).same S6 (fD e)
        have F6:Fix b H (upd (upd H4 tp (.tup ys)) pc (.tup [.ref tp,ev])):=((X'.trans (X2.trans X3)).trans X4).trans (Fix.of_same S6)
        have plH:∀ d o,H1 d=some o->d ≠ b->d ≠ pl:=fun d o hd nd z=>by rw [z,pn] at hd;cases hd
        refine⟨_,_,_,ps ++ [(ds,e)],vs ++ [.ref pc],rfl,U,?_,(by rw [List.length_append,hl];rfl),?_,?_,?_,?_,?_⟩
        · rw [List.map_append]
          refine ar.app (((hr3.fix B3 X4 (bu ps)).same S6 (bu ps)).put hp6 (bu ps)) ?_
          exact hpiece.bR (fun p zs e=>by rw [ao (fu e hp6 (by intro z;cases z))];exact e) (cW (ds,e))
        · intro p hpm
          rcases List.mem_append.mp hpm with hpm | hpm
          · exact ai p hpm
          · rw [List.mem_singleton.mp hpm]
            exact⟨⟨by show ds.length<=m;omega,hdk⟩,ek⟩
        · have hll:l ≠ pl:=fun z=>by
            have:=N1.at_
            rw [z,pn] at this
            cases this
          have N6:=(N3.fix X4).fix (Fix.of_same (b:=b) S6)
          exact⟨by rw [ao hll];exact N6.at_,N6.ne,N6.mJ,N6.cZ,N6.ok⟩
        · obtain⟨x,y,e',z⟩:=B4.same S6
          exact⟨x,y,by rw [ao hpb.symm];exact e',z⟩
        · intro d o hd nd
          have h1:=X1 d o hd nd
          rw [ao (plH d o h1 nd)]
          exact F6 d o hd nd
        · intro d o hd nd
          rw [ao (plH d o hd nd)]
          exact S6 d o (X4 d o ((X2.trans X3) d o (Y' d o hd nd) nd) nd)
    · rintro σ H' ⟨u1,u2,u3,ps,vs,rfl,hp,hr,hl,ai,N',B',X',Y'⟩
      have hl':ps.length=c:=by rw [hl];omega
      refine⟨_,rfl,pl,_,rfl,.inl ⟨ax.of hp,fun tp tn=>?_⟩⟩
      refine q (.ref tp) xs ps _ (.tup U (hr.same (ab.new tn) (bu ps))) hl' ⟨fun p hpm=>(ai p hpm).1,fun p hpm=>?_⟩ ⟨N'.ok,x4⟩ (B'.new tn) (X'.trans (Fix.new tn))
      rw [hl']
      exact (ai p hpm).2
theorem kQ {f:Addr} {fd:FuncData} (F:bN K "_law_count" "_law_count" ff f fd) (Z:Bl mg) (O_law_take:Own P w K mg base "_law_take" 1 ["bag", "many"] dr):bf P w K mg base bK 2 f fd ["bag", "most"] lU:=by
 refine F.ok (k:=1) kJ (fun vs H Q E h=>?_) (fun cdv A outer s H vs Q E hr h=>?_)
 ·obtain⟨b,m,rfl,_⟩:=h
  rfl
 ·obtain⟨b,m,rfl,hB,m0,m1,q⟩:=h
  refine⟨_,(af (av (aT bt (cC (eT (aM cA aa (aw O_law_take hr (aL (pv 0) (pv 1)))) (aM cA aa (aw O_law_take hr (aL (pv 0) (aA (nq rfl) rfl Z.min rY (aL aa (pv 1)))))) (pv 1))) (aw O_law_take hr (aL (pv 0) aa))))),?_⟩
  refine⟨_,rfl,_,rfl,b,_,rfl,hB,⟨by omega,cU (by omega) (by omega)⟩,fun r H1 r0 r1 B1 X1=>⟨_,_,rfl,rfl,?_⟩⟩
  refine⟨_,rfl,_,rfl,_,_,rfl,b,_,rfl,B1,⟨(by split <;> omega),cU (by split <;> omega) (by split <;> omega)⟩,fun r2 H2 r20 r21 B2 X2=>⟨_,_,rfl,rfl,?_⟩⟩
  refine⟨_,rfl,pU,fun l0 n0=>?_⟩
  refine⟨_,rfl,b,3,rfl,B2.new n0,⟨by decide,by decide +kernel⟩,fun z H3 z0 z1 B3 X3=>?_⟩
  have h0:H3 l0=some (.lst [.int (1+r),.int (1+r2),.int m]):=X3 l0 _ U (B2.cD n0)
  have hr2:r2 < 4:=by
   have:=r21
   split at this <;> omega
  have F3:Fix b H H3:=((X1.trans X2).trans (Fix.new n0)).trans X3
  obtain rfl | rfl | rfl:z=0\/z=1\/z=2:=by omega
  ·refine⟨l0,_,0,_,rfl,rfl,ax.of h0,fS,?_⟩
   have e:(1+r)=(((1+r).toNat:Nat):Int):=by omega
   rw [e]
   exact q _ H3 (by omega) (by omega) B3 F3
  ·refine⟨l0,_,1,_,rfl,rfl,ax.of h0,jn,?_⟩
   have e:(1+r2)=(((1+r2).toNat:Nat):Int):=by omega
   rw [e]
   exact q _ H3 (by omega) (by omega) B3 F3
  ·refine⟨l0,_,2,_,rfl,rfl,ax.of h0,at2,?_⟩
   exact q _ H3 m0 (by omega) B3 F3
theorem hG {f:Addr} {fd:FuncData} (F:bN K "_law_piece_text" "_law_piece_text" cK f fd) (Z:Bl mg)  : bf P w K mg base bK 1 f fd ["piece"] cG:=by
  refine F.ok (k:=0) dE (fun vs H Q E h=>?_) (fun cdv A outer s H vs Q E hr h=>?_)
  · obtain⟨x,p,xs,m,c,rfl,_⟩:=h
    rfl
  · obtain⟨x,p,xs,m,c,rfl,hx,ok,hm,hc,q⟩:=h
    refine⟨_,(ae (fC (i:=1) ["part"] [] [] rfl dE.nd rfl rfl rfl (iY (aM rV (bC gh rfl Z.list lO (au (aT gg (pv 0) aa))) (cC (au (aT gg (pv 0) aa))))) rfl (by decide +kernel) (by decide +kernel) (by decide +kernel) True.intro (fun _ _ _ _=>(bc (i:=0) (show ((["part"]:List Str)++([]:List Str)).Nodup by decide +kernel) (hf:=Or.inr rfl))) (fun _ _ _ _=>bB) (fun _ _ _ _=>(sm (K:=K) rfl PySem.F.plainAttrs_str PySem.F.slot_str_join PySem.F.type_str_join (pI (K:=K) rfl) aF (au (bM ["one"] [] [] rfl ((qY (K:=K) rfl) (pv 0)) rfl (by decide +kernel) (by decide +kernel) (by decide +kernel) True.intro (fun _ _ _ _=>(bc (i:=0) (show ((["one"]:List Str)++([]:List Str)).Nodup by decide +kernel) (hf:=Or.inr rfl))) (fun _ _ _ _=>bB) (fun _ _ _ _=>(bC jA rfl Z.str iH (au (pv 0)))))))))
      (af (av (b8 PySem.F.plainAttrs_str PySem.F.slot_str_join PySem.F.type_str_join cM aF (au (pv 1)))))),?_⟩
    obtain⟨pp,us,rfl,e,r⟩:=aI.cq hx
    obtain⟨x1,us1,rfl,r1,r⟩:=r.cons_inv
    obtain⟨x2,us2,rfl,r2,r⟩:=r.cons_inv
    have z:=r.nil_inv
    subst z
    obtain⟨da,ws,rfl,e1,rw'⟩:=aI.cq r1
    have hwl:=rw'.len
    rw [List.length_map] at hwl
    have hfew:=ok.cZ
    refine⟨_,rfl,pp,_,0,_,rfl,rfl,aJ.of e,fS,da,_,rfl,.inr (aJ.of e1),fun l1 n1=>?_⟩
    have s1:=ab.new (o:=.lst ws) n1
    have hl1:(upd H l1 (.lst ws)) l1=some (.lst ws):=U
    generalize (upd H l1 (.lst ws))=H1 at s1 hl1 ⊢
    refine⟨_,rfl,pp,_,1,_,rfl,rfl,aJ.of (s1 _ _ e),jn,pT,fun l2 n2=>?_⟩
    have s2:=ab.new (o:=.lst [x2]) n2
    refine⟨l1,l2,_,_,rfl,rfl,s2 _ _ hl1,U,(by show _+1<=sizeLine;exact Nat.le_of_lt (aK (by omega))),fun l3 n3=>?_⟩
    have s02:=(s1.trans s2).trans (ab.new (o:=.lst (ws ++ [x2])) n3)
    have ht2:(upd (upd H1 l2 (.lst [x2])) l3 (.lst (ws ++ [x2]))) l3=some (.lst (ws ++ [x2])):=U
    generalize (upd (upd H1 l2 (.lst [x2])) l3 (.lst (ws ++ [x2])))=H2 at s02 ht2 ⊢
    have hds:=cO ok hc
    have rd:ar H2 (ws ++ [x2]) ((aQ p).map PyData.tuple):=by
      unfold aQ
      rw [List.map_append,List.map_map]
      have ee:p.1.map (PyData.tuple ∘ fun d=>eV (ba d))=p.1.map ba:=List.map_congr_left fun d hd=>((gW ok.nm (ok.ds d hd)).2).symm
      rw [ee]
      refine ar.app (rw'.bp s02) ?_
      rw [<-(iQ ok.nm ok.en hc).2]
      exact r2.bp s02
    generalize hL:aQ p=ls at rd hds
    have hll:=rd.len
    rw [List.length_map] at hll
    have hlf:ls.length<=13:=by
      rw [<-hll,List.length_append]
      show _+1<=13
      omega
    refine⟨l3,rfl,⟨_,ax.of ht2⟩,fun acc na=>?_⟩
    refine i5 (K:=K) (a:=l3) (xs:=ws ++ [x2]) (fun i ys τ H1=>∃ c:Option V,τ = [c]/\ys=((ls.take i).map stepT).map V.str/\H1 acc=some (.lst ys)/\ab H2 H1) ?_ ?_ ?_ ?_
    · exact⟨none,rfl,rfl,U,ab.new na⟩
    · rintro i ys τ H1 hi ⟨c,rfl,rfl,ha,s1⟩
      refine⟨ax.of (s1 _ _ ht2),ha,aK ?_⟩
      rw [List.length_map,List.length_map,List.length_take]
      omega
    · rintro i x' ys τ H1 hxi ⟨c,rfl,rfl,ha,s1⟩
      refine bH ?_
      refine cz ?_
      refine aU ?_
      have hlt:i < ls.length:=by
        obtain⟨z,_⟩:=List.getElem?_eq_some_iff.mp hxi
        omega
      have hd4:ls[i]? = some ls[i]:=List.getElem?_eq_getElem hlt
      obtain⟨x3,hx3,rx⟩:=rd.get (i:=i) (d:=.tuple ls[i]) (by rw [List.getElem?_map,hd4];rfl)
      obtain rfl:x3=x':=Option.some.inj (hx3.symm.trans hxi)
      have okd:=hds _ (List.mem_of_getElem? hd4)
      generalize ls[i] = ds at hd4 rx okd
      obtain⟨tp,txs,rfl,et,rt⟩:=aI.cq (rx.bp s1)
      have hfd:=okd.cZ
      refine⟨rfl,_,rfl,tp,rfl,⟨_,aJ.of et⟩,fun acc2 na2=>?_⟩
      have naa:acc ≠ acc2:=aZ ha na2
      refine ef (K:=K) (a:=tp) (xs:=txs) (fun j zs τ H3=>∃ c:Option V,τ = [c]/\zs=((ds.take j).map aS).map V.str/\H3 acc2=some (.lst zs)/\ab H1 H3) ?_ ?_ ?_ ?_
      · exact⟨none,rfl,rfl,U,ab.new na2⟩
      · rintro j zs τ H3 hj ⟨c,rfl,rfl,hb,s3⟩
        refine⟨aJ.of (s3 _ _ et),hb,aK ?_⟩
        rw [List.length_map,List.length_map,List.length_take]
        omega
      · rintro j x' zs τ H3 hxj ⟨c,rfl,rfl,hb,s3⟩
        refine bH ?_
        refine cz ?_
        refine aU ?_
        have hlt:j < ds.length:=by
          obtain⟨z,_⟩:=List.getElem?_eq_some_iff.mp hxj
          have hlen:=rt.len
          omega
        have hd5:ds[j]? = some ds[j]:=List.getElem?_eq_getElem hlt
        obtain⟨x4,hx4,rx4⟩:=rt.get hd5
        obtain rfl:x4=x':=Option.some.inj (hx4.symm.trans hxj)
        have fin:H3 acc2=some (.lst (((ds.take j).map aS).map V.str))/\∃ c1:Option V,[some x4] = [c1]/\(((ds.take j).map aS).map V.str ++ [V.str (aS ds[j])])=((ds.take (j+1)).map aS).map V.str/\(upd H3 acc2 (.lst (((ds.take j).map aS).map V.str ++ [V.str (aS ds[j])]))) acc2=some (.lst (((ds.take j).map aS).map V.str ++ [V.str (aS ds[j])]))/\ab H1 (upd H3 acc2 (.lst (((ds.take j).map aS).map V.str ++ [V.str (aS ds[j])]))):=by
          refine⟨hb,_,rfl,?_,U,s3.put na2⟩
          rw [List.take_add_one,hd5,List.map_append,List.map_append]
          rfl
        rcases okd.ok _ (List.mem_of_getElem? hd5) with ⟨y,ey,hy⟩ | ⟨k,ek,hk⟩
        · rw [ey] at rx4 fin
          cases rx4
          exact⟨_,rfl,.inl ⟨y,rfl,fin⟩⟩
        · rw [ek] at rx4 fin
          cases rx4
          exact⟨_,rfl,.inr ⟨k,rfl,mr hk,fin⟩⟩
      rintro zs τ H3 ⟨c,rfl,rfl,hb,s3⟩
      rw [List.take_of_length_le (Nat.le_of_eq rt.len.symm)] at hb
      have ha3:=s3 _ _ ha
      refine⟨" ",acc2,ds.map aS,rfl,rfl,ax.of hb,?_,ha3,_,rfl,?_,U,(s1.trans s3).put na⟩
      · have h1:=eD (k:=41) (ds.map aS) fun y hy=>by
          obtain⟨d,hd,rfl⟩:=List.mem_map.mp hy
          exact iR (okd.ok d hd)
        rw [List.length_map,show (" " : Str).length=1 by decide +kernel]
        rw [List.length_map] at h1
        omega
      · rw [List.take_add_one,hd4,List.map_append,List.map_append]
        rfl
    rintro ys τ H1 ⟨c,rfl,rfl,ha,s1⟩
    rw [List.take_of_length_le (by omega)] at ha
    refine bH ?_
    refine⟨rfl,_,rfl, "; ",acc,ls.map stepT,rfl,rfl,ax.of ha,?_,?_⟩
    · have h1:=eD (k:=210) (ls.map stepT) fun y hy=>by
        obtain⟨d,hd,rfl⟩:=List.mem_map.mp hy
        exact fI (hds d hd)
      rw [List.length_map,show ("; " : Str).length=2 by decide +kernel]
      rw [List.length_map] at h1
      omega
    · have:=q H1 (s02.trans s1)
      unfold ay at this
      rw [hL] at this
      exact this
theorem sH {f:Addr} {fd:FuncData} (F:bN K "law" "law" gX f fd) (Z:Bl mg) (O_law_bag:Own P w K mg base "_law_bag" 1 ["script", "k"] (pV K)) (O_law_take:Own P w K mg base "_law_take" 1 ["bag", "many"] dr) (O_law_plan:Own P w K mg base "_law_plan" 4 ["bag", "count", "most"] nL) (O_law_count:Own P w K mg base "_law_count" 2 ["bag", "most"] lU) (O_law_piece_text:Own P w K mg base "_law_piece_text" 1 ["piece"] cG) (O_piece_text:Own P w K mg base "piece_text" 2 ["piece"] cG) (O_plan_text:Own P w K mg base "plan_text" 3 ["plan"] iU) (O_read_plan:Own P w K mg base "read_plan" 7 ["text"] iV) (O_read_piece:Own P w K mg base "read_piece" 6 ["line", "count", "at"] eX):bf P w K mg base bK 9 f fd ["script"] (jN K):=by
  refine F.ok (k:=8) dz (fun vs H Q E h=>?_) (fun cdv A outer s H vs Q E hr h=>?_)
  · obtain⟨a,ns,rfl,_⟩:=h
    rfl
  · obtain⟨a,ns,rfl,hS,hlen,q⟩:=h
    refine⟨_,(ae (bh (i:=1) dz.nd (aw O_law_bag hr (aL (pv 0) aa)))
      (ae (bh (i:=2) dz.nd (iZ dH (aw O_law_take hr (aL (pv 1) aa)) aa (aV _)))
      (ae (bh (i:=3) dz.nd (aT bt (cC (aL (aw O_law_count hr (aL (pv 1) aa)) aa)) (bC jf rfl Z.int iG (au (pv 2)))))
      (ae (kd (bh (i:=4) dz.nd (aw O_law_plan hr (eT (aw O_law_bag hr (aL (pv 0) aa)) (pv 3) (aT bt (cC (aL aa aa)) (bC jf rfl Z.int iG (au (sN (pv 2) (iy (iZ iC (pv 3) aa (aV _)))))))))))
      (ae (fC (i:=5) ["piece"] [] [] rfl dz.nd rfl rfl rfl (dY (pv 4)) rfl (by decide +kernel) (by decide +kernel) (by decide +kernel) True.intro (fun _ _ _ _=>(bc (i:=0) (show ((["piece"]:List Str)++([]:List Str)).Nodup by decide +kernel) (hf:=Or.inr rfl))) (fun _ _ _ _=>bB) (fun _ _ _ _=>(aw O_law_piece_text hr (au (pv 0)))))
      (ae (bw (aR (nI hr.units) (bM ["piece"] [] [] rfl (dY (pv 4)) rfl (by decide +kernel) (by decide +kernel) (by decide +kernel) True.intro (fun _ _ _ _=>(bc (i:=0) (show ((["piece"]:List Str)++([]:List Str)).Nodup by decide +kernel) (hf:=Or.inr rfl))) (fun _ _ _ _=>bB) (fun _ _ _ _=>(aw O_piece_text hr (au (pv 0))))) (pv 5) (aV _))
      (af (av fz))
      aP)
      (ae (bh (i:=6) dz.nd (b8 PySem.F.plainAttrs_str PySem.F.slot_str_join PySem.F.type_str_join cM aF (au (pv 5))))
      (ae (bw (aR jL (aw O_plan_text hr (au (pv 4))) (pv 6) (aV _))
      (af (av fz))
      aP)
      (ae (kd (bw (PW.pt (iw (aR gP (aA d8 rfl Z.len bP (au (pv 6))) aa (aV _)) (iX (aR (nI hr.units) (aw O_read_plan hr (au (pv 6))) (pv 4) (aV _)))))
      (af (av fz))
      aP))
      (ae (bh (i:=7) dz.nd (aw O_law_take hr (aL (pv 1) (pv 3))))
      (af (av (iZ (sj hr.units) (aw O_read_piece hr (eT (aT bt (pv 5) (pv 7)) (pv 3) aa)) (aT gg (pv 4) (pv 7)) (aV _)))))))))))))),?_⟩
    refine⟨_,rfl,a,ns,0,rfl,hS,(by decide),fun b H1 nb B1 s1=>?_⟩
    refine⟨_,rfl,b,8,rfl,B1,⟨by decide,by decide +kernel⟩,fun z H2 z0 z1 B2 X2=>⟨rfl,?_⟩⟩
    refine⟨_,rfl,b,60,rfl,B2,(by omega),(by omega),fun c H3 c0 c1 B3 X3=>?_⟩
    refine⟨ln2,fun l0 n0=>?_⟩
    have h0:(upd H3 l0 (.lst [.int c,.int 400])) l0=some (.lst [.int c,.int 400]):=U
    obtain⟨g,hg,hg2⟩:∃ g:Nat,cy [V.int c,V.int 400] (if decide (V.int z=V.int 0)=true then 1 else 0)=some (V.int g)/\(0 < g/\g<=400):=by
      cases decide (V.int z=V.int 0)
      · exact⟨c,fS,by omega⟩
      · exact⟨400,jn,by omega⟩
    refine⟨_,rfl,.inr ⟨_,rfl,l0,_,_,_,rfl,rfl,ax.of h0,hg,?_⟩⟩
    have s4:ab H (upd H3 l0 (.lst [.int c,.int 400])):=ab.nF s1 nb ((X2.trans X3).trans (Fix.new n0))
    have B4:=B3.new (o:=.lst [.int c,.int 400]) n0
    have hgz:V.int z=V.int 0\/g=c:=by
      by_cases hz:V.int z=V.int 0
      · exact .inl hz
      · rw [if_neg (by rw [decide_eq_false hz];decide)] at hg
        have:=hg.symm.trans (show cy [V.int (c:Int),V.int 400] 0=some (V.int (c:Int)) from fS)
        exact .inr (by have:=V.int.inj (Option.some.inj this);omega)
    generalize (upd H3 l0 (.lst [.int c,.int 400]))=H4 at s4 B4 ⊢
    clear h0 hg n0 B3 X3 B2 X2 B1
    refine⟨fun σ' H'=>∃ (plv:V) (ps:List Piece) (xs:List Str) (m:Nat),σ' = [some (.ref a),some (.ref b),some (.bl (decide (V.int z=V.int 0))),some (.int (g:Nat)),some plv,none,none,none]/\aI H' plv (cV ps)/\ps.length=g/\gs xs m ps/\(∀ x ∈ xs,aX x)/\m<=12/\g * (m+1)<=400/\bG H' b/\ab H4 H',?_,?_⟩
    · refine⟨_,rfl,a,ns,1,rfl,s4.seq hS,(by decide),fun b2 H5 nb2 B5 s5=>?_⟩
      refine⟨_,rfl,ln2,fun l1 n1=>?_⟩
      have h1:(upd H5 l1 (.lst [.int 12,.int 0])) l1=some (.lst [.int 12,.int 0]):=U
      have pick:∀ bb:Bool,(bb=false->g<=30)->∃ g2:Nat,cy [V.int 12,V.int 0] (if bb=true then 1 else 0)=some (V.int g2)/\g2<=12/\g * (g2+1)<=400:=fun bb hbb=>by
        cases bb with
        | true=>exact⟨0,jn,by omega,by omega⟩
        | false =>
          have:=hbb rfl
          exact⟨12,fS,by omega,by have:=Nat.mul_le_mul this (Nat.le_refl (12+1));omega⟩
      have out:∀ (g2:Nat),g2<=12->g * (g2+1)<=400->∀ (v:V) (xs:List Str) (ps:List Piece) (H':Hp),aI H' v (cV ps)->ps.length=g->gs xs g2 ps->((∀ x ∈ xs,aX x)/\xs.length<=4)->bG H' b2->Fix b2 (upd H5 l1 (.lst [.int 12,.int 0])) H' ->
          ∃ (plv:V) (ps:List Piece) (xs:List Str) (m:Nat),[some (V.ref a),some (.ref b),some (.bl (decide (V.int z=V.int 0))),some (.int (g:Nat)),some v,none,none,none] = [some (.ref a),some (.ref b),some (.bl (decide (V.int z=V.int 0))),some (.int (g:Nat)),some plv,none,none,none]/\aI H' plv (cV ps)/\ps.length=g/\gs xs m ps/\(∀ x ∈ xs,aX x)/\m<=12/\g * (m+1)<=400/\bG H' b/\ab H4 H':=fun g2 h12 h400 v xs ps H' r hc pok xok B X=>by
        have sX:ab H4 H':=ab.nF s5 nb2 ((Fix.new n1).trans X)
        exact⟨v,ps,xs,g2,rfl,r,hc,pok,xok.1,h12,h400,B4.same sX,sX⟩
      refine⟨_,rfl,_,rfl,?_⟩
      by_cases hz:V.int z=V.int 0
      · rw [decide_eq_true hz]
        refine aU ?_
        obtain⟨g2,hgg,h12,h400⟩:=pick true (fun z=>by cases z)
        refine .inr ⟨_,rfl,l1,_,_,_,rfl,rfl,ax.of h1,hgg,?_⟩
        rw [decide_eq_true hz] at out
        exact⟨b2,g,g2,rfl,B5.new n1,hg2.1,(by omega),(by omega),out g2 h12 h400⟩
      · rw [decide_eq_false hz]
        refine bx ?_
        refine⟨_,rfl,_,_,rfl,rfl,?_⟩
        obtain⟨g2,hgg,h12,h400⟩:=pick (decide ((30:Int) < (g:Int))) (fun w=>by have:=of_decide_eq_false w;omega)
        refine .inr ⟨_,rfl,l1,_,_,_,rfl,rfl,ax.of h1,hgg,?_⟩
        rw [decide_eq_false hz] at out
        exact⟨b2,g,g2,rfl,B5.new n1,hg2.1,(by omega),(by omega),out g2 h12 h400⟩
    rintro σ' H5 ⟨plv,ps,xs,m,rfl,r5,hpl,pok,nok,hm,hgm,B5,s45⟩
    have s5:=s4.trans s45
    have h400:ps.length<=400:=by omega
    have h0:0 < ps.length:=by omega
    have ai:∀ p ∈ ps,dA xs m ps.length p:=fun p hp=>⟨nok,(pok.mI p hp).1,(pok.mI p hp).2,pok.ends p hp⟩
    have nol:=kS ps
    have lays:(PyData.list ((ps.map ay).map PyData.str)).canLay0=true:=lY _ fun d hd=>by
      obtain⟨x,hx,rfl⟩:=List.mem_map.mp hd
      obtain⟨p,hp,rfl⟩:=List.mem_map.mp hx
      exact lX.lay (m:=(m+1) * 212) ⟨du (ai p hp) h400,fun c hc=>by have:=hV (ai p hp) h400 c hc;omega⟩
    have rtx:∀ {H':Hp} (l:List Str),ar H' (l.map V.str) (l.map PyData.str):=fun {H'} l=>by
      induction l with
      | nil=>exact .nil
      | cons x l ih=>exact .cons (.str _) ih
    obtain⟨pp,us,rfl,e5,rus⟩:=aI.cq r5
    have hul:us.length=ps.length:=by have:=rus.len;rw [List.length_map] at this;exact this
    refine⟨_,rfl,pp,rfl,⟨_,aJ.of (e5)⟩,fun acc na=>?_⟩
    refine ef (K:=K) (a:=pp) (xs:=us) (fun i ys τ H1=>∃ c:Option V,τ = [c]/\ys=((ps.take i).map ay).map V.str/\H1 acc=some (.lst ys)/\ab H5 H1) ?_ ?_ ?_ ?_
    · exact⟨none,rfl,rfl,U,ab.new na⟩
    · rintro i ys τ H1 hi ⟨c,rfl,rfl,ha,s1⟩
      refine⟨aJ.of (s1 _ _ (e5)),ha,aK ?_⟩
      rw [List.length_map,List.length_map,List.length_take]
      omega
    · rintro i x' ys τ H1 hxi ⟨c',rfl,rfl,ha,s1⟩
      refine bH ?_
      refine cz ?_
      refine aU ?_
      have hlt:i < ps.length:=by
        obtain⟨z,_⟩:=List.getElem?_eq_some_iff.mp hxi
        omega
      have hd4:ps[i]? = some ps[i]:=List.getElem?_eq_getElem hlt
      obtain⟨x3,hx3,rx⟩:=rus.get (i:=i) (d:=aW ps[i]) (by rw [List.getElem?_map,hd4];rfl)
      obtain rfl:x3=x':=Option.some.inj (hx3.symm.trans hxi)
      refine⟨_,rfl,x3,ps[i],xs,m,ps.length,rfl,rx.bp s1,ai _ (List.mem_of_getElem? hd4),hm,h400,fun H6 s6=>?_⟩
      have ha6:=s6 _ _ ha
      refine⟨ha6,_,rfl,?_,U,(s1.trans s6).put na⟩
      rw [List.take_add_one,hd4,List.map_append,List.map_append]
      rfl
    rintro ys τ H6 ⟨c',rfl,rfl,hl6,s6⟩
    rw [List.take_of_length_le (by omega)] at hl6
    refine bH ?_
    change (_:Hp->Prop) H6
    refine⟨_,rfl,pp,rfl,⟨_,aJ.of (s6 _ _ e5)⟩,fun ac2 na2=>?_⟩
    refine ef (K:=K) (a:=pp) (xs:=us) (fun i ys τ H1=>∃ c:Option V,τ = [c]/\ys=((ps.take i).map ay).map V.str/\H1 ac2=some (.lst ys)/\ab H6 H1) ?_ ?_ ?_ ?_
    · exact⟨none,rfl,rfl,U,ab.new na2⟩
    · rintro i ys τ H1 hi ⟨c,rfl,rfl,ha,s1⟩
      refine⟨aJ.of (s1 _ _ (s6 _ _ e5)),ha,aK ?_⟩
      rw [List.length_map,List.length_map,List.length_take]
      omega
    · rintro i x' ys τ H1 hxi ⟨c2,rfl,rfl,ha,s1⟩
      refine bH ?_
      refine cz ?_
      refine aU ?_
      have hlt:i < ps.length:=by
        obtain⟨z,_⟩:=List.getElem?_eq_some_iff.mp hxi
        omega
      have hd4:ps[i]? = some ps[i]:=List.getElem?_eq_getElem hlt
      obtain⟨x3,hx3,rx⟩:=rus.get (i:=i) (d:=aW ps[i]) (by rw [List.getElem?_map,hd4];rfl)
      obtain rfl:x3=x':=Option.some.inj (hx3.symm.trans hxi)
      refine⟨_,rfl,x3,ps[i],xs,m,ps.length,rfl,(rx.bp s6).bp s1,ai _ (List.mem_of_getElem? hd4),hm,h400,fun H6 s6=>?_⟩
      have ha6:=s6 _ _ ha
      refine⟨ha6,_,rfl,?_,U,(s1.trans s6).put na2⟩
      rw [List.take_add_one,hd4,List.map_append,List.map_append]
      rfl
    rintro ys τ H7 ⟨c2,rfl,rfl,hl7,s7⟩
    rw [List.take_of_length_le (by omega)] at hl7
    have depL:(PyData.list ((ps.map ay).map PyData.str)).depth<=60:=by
      have:=gS (m:=1) ((ps.map ay).map PyData.str) fun d hd=>by obtain⟨x,_,rfl⟩:=List.mem_map.mp hd;show 0<=1;decide
      show PyData.depthAll _+1<=60
      omega
    refine⟨_,rfl,.list ((ps.map ay).map PyData.str),.list ((ps.map ay).map PyData.str),.lst hl7 (rtx _),.lst (s7 _ _ hl6) (rtx _),lays,lays,(by omega),?_⟩
    rw [PySem.SeqAt.eqv_refl _ lays]
    refine⟨_,rfl,bx ?_⟩
    have hl67:=s7 _ _ hl6
    have s67:=s6.trans s7
    refine⟨rfl,_,rfl, "\n",acc,ps.map ay,rfl,rfl,ax.of hl67,?_,?_⟩
    · have h1:=eD (k:=13 * 212) (ps.map ay) fun y hy=>by
        obtain⟨d,hd,rfl⟩:=List.mem_map.mp hy
        exact Nat.le_trans (du (ai d hd) h400) (Nat.mul_le_mul (by omega) (Nat.le_refl _))
      rw [List.length_map,show ("\n" : Str).length=1 by decide +kernel]
      rw [List.length_map] at h1
      omega
    change (_:Hp->Prop) H7
    have r7:=r5.same s67 nol
    have layQ:∀ p ∈ ps,(aW p).canLay0=true:=fun p hp=>by
      have h:=o3 nok pok p hp
      show ((PyData.tuple (p.1.map ba)).canLay0 && ((b7 p.2).canLay0 && true))=true
      rw [h.1,h.2]
      rfl
    have layP:(cV ps).canLay0=true:=bW _ fun d hd=>by
      obtain⟨p,hp,rfl⟩:=List.mem_map.mp hd
      exact layQ p hp
    have depP:(cV ps).depth<=60:=by
      have h1:=gS (m:=3) (ps.map aW) fun d hd=>by obtain⟨x,_,rfl⟩:=List.mem_map.mp hd;exact jq x
      show PyData.depthAll (ps.map aW)+1<=60
      omega
    have txl:=kF ai h400 h0 (by rw [hpl];exact hgm)
    refine⟨_,rfl,_,ps,xs,m,ps.length,rfl,r7,ai,hm,h400,h400,fun H8 s8=>⟨_,rfl,rfl,_,rfl,cu (show (!decide (V.str (dP ps)=V.str (Txt.join "\n" (ps.map ay))))=false by rw [decide_eq_true (show V.str (dP ps)=V.str (Txt.join "\n" (ps.map ay)) from rfl)];rfl) ?_⟩⟩
    have s68:=s67.trans s8
    change (_:Hp->Prop) H8
    refine⟨fun σ' H'=>σ' = [some (.ref a),some (.ref b),some (.bl (decide (V.int z=V.int 0))),some (.int (g:Nat)),some (.ref pp),some (.ref acc),some (.str (dP ps)),none]/\ab H8 H',?_,?_⟩
    · refine⟨_,rfl,dP ps,rfl,Nat.le_of_lt (cX (by omega)),_,_,rfl,rfl,_,rfl,?_⟩
      refine dg (fun _=>?_) (fun _=>bx ⟨rfl,fun _ _ e=>e⟩)
      refine⟨_,rfl,ps,xs,m,rfl,ai,hm,h0,h400,(by rw [hpl];exact hgm),fun v H9 rv s9=>?_⟩
      refine⟨_,rfl,cV ps,cV ps,rv,(r5.same s68 nol).same s9 nol,layP,layP,(by omega),?_⟩
      rw [PySem.SeqAt.eqv_refl _ layP]
      refine⟨_,rfl,bx ?_⟩
      exact⟨rfl,s9⟩
    rintro σ' H9 ⟨rfl,s89⟩
    have s59:=s68.trans s89
    refine⟨_,rfl,_,rfl,b,(g:Nat),rfl,B5.same s59,⟨by omega,cU (by omega) (by omega)⟩,fun r HA r0 r1 BA XA=>?_⟩
    obtain⟨k,rfl⟩:=Int.eq_ofNat_of_zero_le r0
    have hk:k < ps.length:=by omega
    have hd4:ps[k]? = some ps[k]:=List.getElem?_eq_getElem hk
    have B9:=B5.same s59
    have rA:=(r5.same s59 nol).fix B9 XA nol
    have hab:acc ≠ b:=B5.cD na
    have hlA:HA acc=some (.lst ((ps.map ay).map V.str)):=XA _ _ (((s7.trans s8).trans s89) _ _ hl6) hab
    have e_at:cy ((ps.map ay).map V.str) (k:Nat)=some (V.str (ay ps[k])):=bJ (by
      rw [List.getElem?_map,List.getElem?_map,hd4]
      rfl)
    refine⟨_,rfl,_,rfl,acc,_,_,_,rfl,rfl,ax.of hlA,e_at,_,rfl,ps[k],xs,m,ps.length,5,(by rw [hpl];rfl),ai _ (List.mem_of_getElem? hd4),hm,h400,fun v HB rv sB=>?_⟩
    obtain⟨x3,hx3,rx⟩:=rus.get (i:=k) (d:=aW ps[k]) (by rw [List.getElem?_map,hd4];rfl)
    have nop:=cW ps[k]
    have eB:=sB _ _ (XA _ _ (s59 _ _ e5) (B9.kb (s59 _ _ e5)))
    have rB:=((rx.same s59 nop).fix B9 XA nop).same sB nop
    have dp:=jq ps[k]
    refine⟨_,rfl,_,rfl,pp,_,_,_,rfl,rfl,aJ.of eB,bJ hx3,aW ps[k],aW ps[k],rv,rB,layQ _ (List.mem_of_getElem? hd4),layQ _ (List.mem_of_getElem? hd4),(by omega),?_⟩
    rw [PySem.SeqAt.eqv_refl _ (layQ _ (List.mem_of_getElem? hd4))]
    exact q _
end
theorem all_mk {l:PySem.W.OpenLaw} {w:World} {K:PySem.W.Frag} {h:Heap} {mg:Str->Option Value} {fa:Addr} (X:K.In h) (G:h.Ns mainGlobals mg) (hfa:mg "law" = some (.ref fa))
  {f0 f1 f2 f3 f4 f5 f6 f7 f8 f9 f10 f11 f12 f13 f14 f15 f16 f17 f18 f19 f20 f21 f22 f23 f24 f25:Addr} {g0 g1 g2 g3 g4 g5 g6 g7 g8 g9 g10 g11 g12 g13 g14 g15 g16 g17 g18 g19 g20 g21 g22 g23 g24 g25:FuncData}
  {tk_LONGEST_NAME:Tok}
  {tk_MOST_PIECES:Tok}
  {tk_MOST_DEEDS:Tok}
  {tk_MOST_FIGURES:Tok}
  {aE:Addr} {epE:Nat} {s0:Addr} {hsE0:Int} {tkE0:Tok} {dcE0:Option Addr} {nnE0:Nat} {slE0:Array (Option Value)}  {s1:Addr} {hsE1:Int} {tkE1:Tok} {dcE1:Option Addr} {nnE1:Nat} {slE1:Array (Option Value)} {ttE1_0:Tok} {s2:Addr} {hsE2:Int} {tkE2:Tok} {dcE2:Option Addr} {nnE2:Nat} {slE2:Array (Option Value)} {ttE2_0:Tok} {ttE2_1:Tok} {ttE2_2:Tok} {ttE2_3:Tok} {s3:Addr} {hsE3:Int} {tkE3:Tok} {dcE3:Option Addr} {nnE3:Nat} {slE3:Array (Option Value)} {ttE3_0:Tok} {ttE3_1:Tok} {ttE3_2:Tok} {ttE3_3:Tok}
  {aD:Addr} {epD:Nat} {d0:Addr} {hsD0:Int} {tkD0:Tok} {dcD0:Option Addr} {nnD0:Nat} {slD0:Array (Option Value)} {ttD0_0:Tok} {ttD0_1:Tok} {d1:Addr} {hsD1:Int} {tkD1:Tok} {dcD1:Option Addr} {nnD1:Nat} {slD1:Array (Option Value)} {ttD1_0:Tok} {ttD1_1:Tok} {d2:Addr} {hsD2:Int} {tkD2:Tok} {dcD2:Option Addr} {nnD2:Nat} {slD2:Array (Option Value)} {ttD2_0:Tok} {ttD2_1:Tok} {d3:Addr} {hsD3:Int} {tkD3:Tok} {dcD3:Option Addr} {nnD3:Nat} {slD3:Array (Option Value)} {ttD3_0:Tok} {d4:Addr} {hsD4:Int} {tkD4:Tok} {dcD4:Option Addr} {nnD4:Nat} {slD4:Array (Option Value)} {ttD4_0:Tok}
  (z_len:PySem.W.nsIn K mainGlobals "len" = some none)
  (z_min:PySem.W.nsIn K mainGlobals "min" = some none)
  (z_range:PySem.W.nsIn K mainGlobals "range" = some none)
  (z_isinstance:PySem.W.nsIn K mainGlobals "isinstance" = some none)
  (z_bool:PySem.W.nsIn K mainGlobals "bool" = some none)
  (z_int:PySem.W.nsIn K mainGlobals "int" = some none)
  (z_str:PySem.W.nsIn K mainGlobals "str" = some none)
  (z_tuple:PySem.W.nsIn K mainGlobals "tuple" = some none)
  (z_all:PySem.W.nsIn K mainGlobals "all" = some none)
  (z_zip:PySem.W.nsIn K mainGlobals "zip" = some none)
  (z_list:PySem.W.nsIn K mainGlobals "list" = some none)
  (z_enumerate:PySem.W.nsIn K mainGlobals "enumerate" = some none)
  (g_LONGEST_NAME:PySem.W.nsIn K mainGlobals "LONGEST_NAME" = some (some (.int 8 tk_LONGEST_NAME)))
  (g_MOST_PIECES:PySem.W.nsIn K mainGlobals "MOST_PIECES" = some (some (.int 400 tk_MOST_PIECES)))
  (g_MOST_DEEDS:PySem.W.nsIn K mainGlobals "MOST_DEEDS" = some (some (.int 12 tk_MOST_DEEDS)))
  (g_MOST_FIGURES:PySem.W.nsIn K mainGlobals "MOST_FIGURES" = some (some (.int 40 tk_MOST_FIGURES)))
  (gE:PySem.W.nsIn K mainGlobals "END_PARTS" = some (some (.ref aE))) (lE:K.lookup aE=some ⟨.type "dict",none,.dict #[⟨hsE0,.str "stop" tkE0,.ref s0⟩,⟨hsE1,.str "go" tkE1,.ref s1⟩,⟨hsE2,.str "less" tkE2,.ref s2⟩,⟨hsE3,.str "is" tkE3,.ref s3⟩] epE,#[]⟩) (qE0:K.lookup s0=some ⟨.type "tuple",dcE0,.seq #[] nnE0,slE0⟩) (qE1:K.lookup s1=some ⟨.type "tuple",dcE1,.seq #[.str "piece" ttE1_0] nnE1,slE1⟩) (qE2:K.lookup s2=some ⟨.type "tuple",dcE2,.seq #[.str "name" ttE2_0,.str "number" ttE2_1,.str "piece" ttE2_2,.str "piece" ttE2_3] nnE2,slE2⟩) (qE3:K.lookup s3=some ⟨.type "tuple",dcE3,.seq #[.str "name" ttE3_0,.str "number" ttE3_1,.str "piece" ttE3_2,.str "piece" ttE3_3] nnE3,slE3⟩)
  (yE:(aE == sysModules)=false)
  (gD:PySem.W.nsIn K mainGlobals "DEED_PARTS" = some (some (.ref aD))) (lD:K.lookup aD=some ⟨.type "dict",none,.dict #[⟨hsD0,.str "put" tkD0,.ref d0⟩,⟨hsD1,.str "copy" tkD1,.ref d1⟩,⟨hsD2,.str "add" tkD2,.ref d2⟩,⟨hsD3,.str "read" tkD3,.ref d3⟩,⟨hsD4,.str "tell" tkD4,.ref d4⟩] epD,#[]⟩) (qD0:K.lookup d0=some ⟨.type "tuple",dcD0,.seq #[.str "name" ttD0_0,.str "number" ttD0_1] nnD0,slD0⟩) (qD1:K.lookup d1=some ⟨.type "tuple",dcD1,.seq #[.str "name" ttD1_0,.str "name" ttD1_1] nnD1,slD1⟩) (qD2:K.lookup d2=some ⟨.type "tuple",dcD2,.seq #[.str "name" ttD2_0,.str "number" ttD2_1] nnD2,slD2⟩) (qD3:K.lookup d3=some ⟨.type "tuple",dcD3,.seq #[.str "name" ttD3_0] nnD3,slD3⟩) (qD4:K.lookup d4=some ⟨.type "tuple",dcD4,.seq #[.str "name" ttD4_0] nnD4,slD4⟩)
  (yD:(aD == sysModules)=false)
  (D0:bg K "is_whole" fJ f0 g0)
  (D1:bg K "is_name" gF f1 g1)
  (D2:bg K "is_part" gG f2 g2)
  (D3:bg K "first_word" eE f3 g3)
  (D4:bg K "has_parts" eY f4 g4)
  (D5:bg K "is_deed" gH f5 g5)
  (D6:bg K "is_end" iq f6 g6)
  (D7:bg K "is_piece" fK f7 g7)
  (D8:bg K "read_number" dB f8 g8)
  (D9:bg K "in_a_row" fL f9 g9)
  (D10:bg K "piece_text" eF f10 g10)
  (D11:bg K "plan_text" e4 f11 g11)
  (D12:bg K "read_word" e6 f12 g12)
  (D13:bg K "read_step" e7 f13 g13)
  (D14:bg K "read_piece" eG f14 g14)
  (D15:bg K "read_plan" fb f15 g15)
  (D16:bg K "_law_bag" gL f16 g16)
  (D17:bg K "_law_take" fN f17 g17)
  (D18:bg K "_law_names" fc f18 g18)
  (D19:bg K "_law_number" eH f19 g19)
  (D20:bg K "_law_deed" fO f20 g20)
  (D21:bg K "_law_end" gM f21 g21)
  (D22:bg K "_law_plan" fP f22 g22)
  (D23:bg K "_law_count" ff f23 g23)
  (D24:bg K "_law_piece_text" cK f24 g24)
  (D25:bg K "law" gX f25 g25) :
  ∃ fd:FuncData,(∀ (s:Shared) (v:Value),BindsTo s fd ⟨[v],[]⟩ [("script",v)])/\∀ base:Heap,K.In base->base.Ns mainGlobals mg->bf l.prog w K mg base bK 9 fa fd ["script"] (jN K):=by
 have e:=hfa.symm.trans (PySem.W.mg_of X G D25.a)
 cases e
 have Z:Bl mg:=⟨PySem.W.mg_none_of X G z_len,PySem.W.mg_none_of X G z_min,PySem.W.mg_none_of X G z_range,PySem.W.mg_none_of X G z_isinstance,PySem.W.mg_none_of X G z_bool,PySem.W.mg_none_of X G z_int,PySem.W.mg_none_of X G z_str,PySem.W.mg_none_of X G z_tuple,PySem.W.mg_none_of X G z_all,PySem.W.mg_none_of X G z_zip,PySem.W.mg_none_of X G z_list,PySem.W.mg_none_of X G z_enumerate⟩
 have G_LONGEST_NAME:mg "LONGEST_NAME" = some (.int 8 tk_LONGEST_NAME):=PySem.W.mg_of X G g_LONGEST_NAME
 have G_MOST_PIECES:mg "MOST_PIECES" = some (.int 400 tk_MOST_PIECES):=PySem.W.mg_of X G g_MOST_PIECES
 have G_MOST_DEEDS:mg "MOST_DEEDS" = some (.int 12 tk_MOST_DEEDS):=PySem.W.mg_of X G g_MOST_DEEDS
 have G_MOST_FIGURES:mg "MOST_FIGURES" = some (.int 40 tk_MOST_FIGURES):=PySem.W.mg_of X G g_MOST_FIGURES
 have GE:oZ K mg aE s0 s1 s2 s3:=⟨⟨PySem.W.mg_of X G gE,_,_,lE,(.cons rfl rfl (.cons rfl rfl (.cons rfl rfl (.cons rfl rfl .nil))))⟩,⟨_,_,_,qE0,rfl,rfl,(by show 0<=sizeLine;decide),.nil⟩,⟨_,_,_,qE1,rfl,rfl,(by show 1<=sizeLine;decide),(.cons ⟨_,rfl⟩ .nil)⟩,⟨_,_,_,qE2,rfl,rfl,(by show 4<=sizeLine;decide),(.cons ⟨_,rfl⟩ (.cons ⟨_,rfl⟩ (.cons ⟨_,rfl⟩ (.cons ⟨_,rfl⟩ .nil))))⟩,⟨_,_,_,qE3,rfl,rfl,(by show 4<=sizeLine;decide),(.cons ⟨_,rfl⟩ (.cons ⟨_,rfl⟩ (.cons ⟨_,rfl⟩ (.cons ⟨_,rfl⟩ .nil))))⟩⟩
 have GD:mK K mg aD d0 d1 d2 d3 d4:=⟨⟨PySem.W.mg_of X G gD,_,_,lD,(.cons rfl rfl (.cons rfl rfl (.cons rfl rfl (.cons rfl rfl (.cons rfl rfl .nil)))))⟩,⟨_,_,_,qD0,rfl,rfl,(by show 2<=sizeLine;decide),(.cons ⟨_,rfl⟩ (.cons ⟨_,rfl⟩ .nil))⟩,⟨_,_,_,qD1,rfl,rfl,(by show 2<=sizeLine;decide),(.cons ⟨_,rfl⟩ (.cons ⟨_,rfl⟩ .nil))⟩,⟨_,_,_,qD2,rfl,rfl,(by show 2<=sizeLine;decide),(.cons ⟨_,rfl⟩ (.cons ⟨_,rfl⟩ .nil))⟩,⟨_,_,_,qD3,rfl,rfl,(by show 1<=sizeLine;decide),(.cons ⟨_,rfl⟩ .nil)⟩,⟨_,_,_,qD4,rfl,rfl,(by show 1<=sizeLine;decide),(.cons ⟨_,rfl⟩ .nil)⟩⟩
 obtain⟨oc,od,kV,dc,pm,an,cd,ct,sl,rfl,lk,hcd⟩:=D25.F.ex
 refine⟨PySem.W.fnOf "law" "law" (bV gX) (bS gX) (ah gX) .none kV dc pm an cd ct,fun s v=>.of_eq rfl,fun base _ _=>?_⟩
 have O_is_whole:=aY l.prog w base X G D0 (kY D0.F Z) (eQ fun _ _ _ _ _ _ _=>rfl)
 have O_is_name:=aY l.prog w base X G D1 (mV D1.F Z G_LONGEST_NAME G_MOST_PIECES G_MOST_DEEDS G_MOST_FIGURES) (eQ fun _ _ _ _ _ _ _=>rfl)
 have O_is_part:=aY l.prog w base X G D2 (mW D2.F Z O_is_whole O_is_name) (nS fun _ _ _ _ _ _ _ _ _=>rfl)
 have O_first_word:=aY l.prog w base X G D3 (jG D3.F Z) (eQ fun _ _ _ _ _ _ _=>rfl)
 have O_has_parts:=aY l.prog w base X G D4 (kK D4.F Z O_is_part) (nS fun _ _ _ _ _ _ _ _ _=>rfl)
 have O_is_deed:=aY l.prog w base X G D5 (mX D5.F Z GD yD O_has_parts O_first_word) (eQ fun _ _ _ _ _ _ _=>rfl)
 have O_is_end:=aY l.prog w base X G D6 (ow D6.F Z GE yE O_has_parts O_first_word) (lZ fun _ _ _ _ _ _ _ _=>rfl)
 have O_is_piece:=aY l.prog w base X G D7 (kZ D7.F Z G_LONGEST_NAME G_MOST_PIECES G_MOST_DEEDS G_MOST_FIGURES O_is_deed O_is_end) (lZ fun _ _ _ _ _ _ _ _=>rfl)
 have O_read_number:=aY l.prog w base X G D8 (jb D8.F Z G_LONGEST_NAME G_MOST_PIECES G_MOST_DEEDS G_MOST_FIGURES) (eQ fun _ _ _ _ _ _ _=>rfl)
 have O_in_a_row:=aY l.prog w base X G D9 (lg D9.F Z) (eQ fun _ _ _ _ _ _ _=>rfl)
 have O_piece_text:=aY l.prog w base X G D10 (jH D10.F Z O_in_a_row) (eQ fun _ _ _ _ _ _ _=>rfl)
 have O_plan_text:=aY l.prog w base X G D11 (kL D11.F Z O_piece_text) (eQ fun _ _ _ _ _ _ _=>rfl)
 have O_read_word:=aY l.prog w base X G D12 (kM D12.F Z O_read_number) (eQ fun _ _ _ _ _ _ _=>rfl)
 have O_read_step:=aY l.prog w base X G D13 (kN D13.F Z O_read_word) (eQ fun _ _ _ _ _ _ _=>rfl)
 have O_read_piece:=aY l.prog w base X G D14 (jI D14.F Z O_read_step O_is_piece) (nS fun _ _ _ _ _ _ _ _ _=>rfl)
 have O_read_plan:=aY l.prog w base X G D15 (kO D15.F Z G_LONGEST_NAME G_MOST_PIECES G_MOST_DEEDS G_MOST_FIGURES O_read_piece) (eQ fun _ _ _ _ _ _ _=>rfl)
 have O_law_bag:=aY l.prog w base X G D16 (mY D16.F Z) (lZ fun _ _ _ _ _ _ _ _=>rfl)
 have O_law_take:=aY l.prog w base X G D17 (lh D17.F Z) (lZ fun _ _ _ _ _ _ _ _=>rfl)
 have O_law_names:=aY l.prog w base X G D18 (kP D18.F Z O_law_take) (eQ fun _ _ _ _ _ _ _=>rfl)
 have O_law_number:=aY l.prog w base X G D19 (jJ D19.F Z O_law_take) (eQ fun _ _ _ _ _ _ _=>rfl)
 have O_law_deed:=aY l.prog w base X G D20 (lj D20.F Z O_law_take O_law_number) (lZ fun _ _ _ _ _ _ _ _=>rfl)
 have O_law_end:=aY l.prog w base X G D21 (mZ D21.F Z O_law_take O_law_number) (nS fun _ _ _ _ _ _ _ _ _=>rfl)
 have O_law_plan:=aY l.prog w base X G D22 (ll D22.F Z O_law_take O_law_names O_law_deed O_law_end) (nS fun _ _ _ _ _ _ _ _ _=>rfl)
 have O_law_count:=aY l.prog w base X G D23 (kQ D23.F Z O_law_take) (lZ fun _ _ _ _ _ _ _ _=>rfl)
 have O_law_piece_text:=aY l.prog w base X G D24 (hG D24.F Z) (eQ fun _ _ _ _ _ _ _=>rfl)
 exact sH D25.F Z O_law_bag O_law_take O_law_plan O_law_count O_law_piece_text O_piece_text O_plan_text O_read_plan O_read_piece
theorem walk {l:PySem.W.OpenLaw} {q:Program} {loose:List Str} {XP:(Str->Option Value)->Heap->Prop} {YP:World->Heap->Prop} {d:DefRec} {K:Params->PySem.W.Frag} (hn:l.most=some 63) (hdf:d.params.defaults = [])
  (hY:∀ (w:World) (h:Heap),YP w h->(K w.params).In h)
  (F:∀ (w:World) (mg:Str->Option Value) (fa:Addr) (h:Heap),(K w.params).In h->h.Ns mainGlobals mg->mg d.name=some (.ref fa) ->
   ∃ fd:FuncData,(∀ (s:Shared) (u:Value),BindsTo s fd ⟨[u],[]⟩ [("script",u)])/\∀ base:Heap,(K w.params).In base->base.Ns mainGlobals mg->bf l.prog w (K w.params) mg base bK 9 fa fd ["script"] (jN (K w.params))) :
  PySem.W.WalkO q loose XP YP l.row.toRowW d [] (fun f vs=>PySem.call f vs) :=
 L2.qu (n:=63) (k:=9) (x := "script") (CX:=fun _=>bK) (sp:=fun w=>jN (K w.params)) hn (by decide) hdf ⟨rfl,by decide,by decide⟩ hY F (fun _ _ a ns hl _ hS=>⟨a,ns,rfl,hS,hl,fun _=>rfl⟩) fun _ _ _ _ _ z=>z
end My
theorem PySem.W.Fast.tw16358630451650119265:True:=trivial
theorem PySem.W.Fast.tw14866676583819525205:True:=trivial
theorem PySem.W.Fast.tw7494978417977257244:True:=trivial
theorem PySem.W.Fast.tw3153659102128320667:True:=trivial
theorem PySem.W.Fast.tw12406333944237451001:True:=trivial
theorem PySem.W.Fast.tw10567153099494462812:True:=trivial
theorem PySem.W.Fast.tw11036503576829501935:True:=trivial
theorem PySem.W.Fast.tw14388766512343327243:True:=trivial
theorem PySem.W.Fast.tw17789063736051490890:True:=trivial
theorem PySem.W.Fast.tw17569220169109906080:True:=trivial
theorem PySem.W.Fast.tw2554453808282799327:True:=trivial
theorem PySem.W.Fast.tw8610876229141889826:True:=trivial
theorem PySem.W.Fast.tw14628613812828848325:True:=trivial
theorem PySem.W.Fast.tw7766512918422972033:True:=trivial
theorem PySem.W.Fast.tw399168053651711559:True:=trivial
theorem PySem.W.Fast.tw13141119363525650362:True:=trivial
theorem PySem.W.Fast.tw9132904880113295422:True:=trivial
theorem PySem.W.Fast.tw7978590238270330802:True:=trivial
theorem PySem.W.Fast.tw17499013181190367928:True:=trivial
theorem PySem.W.Fast.tw4715986085851984473:True:=trivial
theorem PySem.W.Fast.tw649059334988986893:True:=trivial
theorem PySem.W.Fast.tw3199018167858520637:True:=trivial
theorem PySem.W.Fast.tw9210592922110942619:True:=trivial
theorem PySem.W.Fast.tw7412314747126593447:True:=trivial
theorem PySem.W.Fast.tw7749634684045385918:True:=trivial
theorem PySem.W.Fast.tw4228968073911382103:True:=trivial
theorem PySem.W.Fast.tw4128725806210164517:True:=trivial
theorem PySem.W.Fast.tw6489336084445309171:True:=trivial
theorem PySem.W.Fast.tw17536149546677936947:True:=trivial
theorem PySem.W.Fast.tw13153978653818429112:True:=trivial
theorem PySem.W.Fast.tw780737878298176334:True:=trivial
theorem PySem.W.Fast.tw4898829140796029621:True:=trivial
theorem PySem.W.Fast.tw5068995124374036446:True:=trivial
theorem PySem.W.Fast.tw17405744393002857944:True:=trivial
theorem PySem.W.Fast.tw13604145393961362617:True:=trivial
theorem PySem.W.Fast.tw15180330955315841979:True:=trivial
theorem PySem.W.Fast.tw4499690488979178386:True:=trivial
theorem PySem.W.Fast.tw7903694786049702586:True:=trivial
theorem PySem.W.Fast.tw15378474506327074389:True:=trivial
theorem PySem.W.Fast.tw8715929980885792975:True:=trivial
theorem PySem.W.Fast.tw9530951491301327665:True:=trivial
theorem PySem.W.Fast.tw5540765981676970137:True:=trivial
theorem PySem.W.Fast.tw15582318266960184760:True:=trivial
theorem PySem.W.Fast.tw15817037989065412171:True:=trivial
theorem PySem.W.Fast.tw1030128917494546449:True:=trivial
theorem PySem.W.Fast.tw16072674740844747497:True:=trivial
theorem PySem.W.Fast.tw592427853648273586:True:=trivial
theorem PySem.W.Fast.tw551704045864743483:True:=trivial
theorem PySem.W.Fast.tw16582640017813702674:True:=trivial
theorem PySem.W.Fast.tw14242983925910064684:True:=trivial
theorem PySem.W.Fast.tw1805040032075117442:True:=trivial
theorem PySem.W.Fast.tw2785514613272243883:True:=trivial
theorem PySem.W.Fast.tw1559214899859317955:True:=trivial
theorem PySem.W.Fast.tw14283973329899764327:True:=trivial
theorem PySem.W.Fast.tw6120712313085412480:True:=trivial
theorem PySem.W.Fast.tw6928553483872721619:True:=trivial
theorem PySem.W.Fast.tw10541561620559760701:True:=trivial
theorem PySem.W.Fast.tw8791813443094315090:True:=trivial
theorem PySem.W.Fast.tw17025379623596519174:True:=trivial
theorem PySem.W.Fast.tw11992545823178658076:True:=trivial
theorem PySem.W.Fast.tw18434821772723879771:True:=trivial
theorem PySem.W.Fast.tw12405169081055832819:True:=trivial
theorem PySem.W.Fast.tw5916481781826112631:True:=trivial
theorem PySem.W.Fast.tw15255785617021376732:True:=trivial
theorem PySem.W.Fast.tw14169635840250264812:True:=trivial
theorem PySem.W.Fast.tw4256465177208430964:True:=trivial
theorem PySem.W.Fast.tw8073052492049327597:True:=trivial
theorem PySem.W.Fast.tw3221048523725441077:True:=trivial
theorem PySem.W.Fast.tw10700997848640528425:True:=trivial
theorem PySem.W.Fast.tw2745263699692116582:True:=trivial
theorem PySem.W.Fast.tw4120329695647153153:True:=trivial
theorem PySem.W.Fast.tw274449603547990710:True:=trivial
theorem PySem.W.Fast.tw16641922967593755858:True:=trivial
open PySem PySem.W PyProof.Rows
set_option maxRecDepth 100000 in
set_option maxHeartbeats 0 in
theorem PySem.Challenge.cw_ledpast_k21_plans_there_and_back_holds : PySem.Challenge.rw_ledpast_k21_plans_there_and_back.Holds := by
 w_on; o_law; k_head; (case hw => w_witness2)
 k_fill
 refine My.walk (l := PySem.Challenge.rw_ledpast_k21_plans_there_and_back) rfl rfl (fun w h Y => PySem.W.kIn_of Y) ?F
 case F =>
  intro w mg fa h KX G hmg
  refine' My.all_mk KX G hmg ?z_len ?z_min ?z_range ?z_isinstance ?z_bool ?z_int ?z_str ?z_tuple ?z_all ?z_zip ?z_list ?z_enumerate ?g_LONGEST_NAME ?g_MOST_PIECES ?g_MOST_DEEDS ?g_MOST_FIGURES ?gE ?lE ?qE0 ?qE1 ?qE2 ?qE3 ?yE ?gD ?lD ?qD0 ?qD1 ?qD2 ?qD3 ?qD4 ?yD (L2.def_mk ?a0 ?l0 ?c0 ?k0) (L2.def_mk ?a1 ?l1 ?c1 ?k1) (L2.def_mk ?a2 ?l2 ?c2 ?k2) (L2.def_mk ?a3 ?l3 ?c3 ?k3) (L2.def_mk ?a4 ?l4 ?c4 ?k4) (L2.def_mk ?a5 ?l5 ?c5 ?k5) (L2.def_mk ?a6 ?l6 ?c6 ?k6) (L2.def_mk ?a7 ?l7 ?c7 ?k7) (L2.def_mk ?a8 ?l8 ?c8 ?k8) (L2.def_mk ?a9 ?l9 ?c9 ?k9) (L2.def_mk ?a10 ?l10 ?c10 ?k10) (L2.def_mk ?a11 ?l11 ?c11 ?k11) (L2.def_mk ?a12 ?l12 ?c12 ?k12) (L2.def_mk ?a13 ?l13 ?c13 ?k13) (L2.def_mk ?a14 ?l14 ?c14 ?k14) (L2.def_mk ?a15 ?l15 ?c15 ?k15) (L2.def_mk ?a16 ?l16 ?c16 ?k16) (L2.def_mk ?a17 ?l17 ?c17 ?k17) (L2.def_mk ?a18 ?l18 ?c18 ?k18) (L2.def_mk ?a19 ?l19 ?c19 ?k19) (L2.def_mk ?a20 ?l20 ?c20 ?k20) (L2.def_mk ?a21 ?l21 ?c21 ?k21) (L2.def_mk ?a22 ?l22 ?c22 ?k22) (L2.def_mk ?a23 ?l23 ?c23 ?k23) (L2.def_mk ?a24 ?l24 ?c24 ?k24) (L2.def_mk ?a25 ?l25 ?c25 ?k25)
  case g_LONGEST_NAME | g_MOST_PIECES | g_MOST_DEEDS | g_MOST_FIGURES | gE | lE | qE0 | qE1 | qE2 | qE3 | gD | lD | qD0 | qD1 | qD2 | qD3 | qD4 | a0 | l0 | c0 | k0 | a1 | l1 | c1 | k1 | a2 | l2 | c2 | k2 | a3 | l3 | c3 | k3 | a4 | l4 | c4 | k4 | a5 | l5 | c5 | k5 | a6 | l6 | c6 | k6 | a7 | l7 | c7 | k7 | a8 | l8 | c8 | k8 | a9 | l9 | c9 | k9 | a10 | l10 | c10 | k10 | a11 | l11 | c11 | k11 | a12 | l12 | c12 | k12 | a13 | l13 | c13 | k13 | a14 | l14 | c14 | k14 | a15 | l15 | c15 | k15 | a16 | l16 | c16 | k16 | a17 | l17 | c17 | k17 | a18 | l18 | c18 | k18 | a19 | l19 | c19 | k19 | a20 | l20 | c20 | k20 | a21 | l21 | c21 | k21 | a22 | l22 | c22 | k22 | a23 | l23 | c23 | k23 | a24 | l24 | c24 | k24 | a25 | l25 | c25 | k25 | z_len | z_min | z_range | z_isinstance | z_bool | z_int | z_str | z_tuple | z_all | z_zip | z_list | z_enumerate => k_is
  case yE | yD => kernel_rfl
