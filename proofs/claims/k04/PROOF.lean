import PyProof.Rows.All
import Wide.All
import OpenK.AllK
import Wide.FinOn
import Lean
import PyProof.EqAt
import PyProof.EqKinds
import PyProof.TupleCall
import PyProof.NeData
import KE.KIntText
import PyProof.StrLawsIn
import PyProof.StrLawsIdx
import Wide.Seal
import PyProof.ListMulRoad
import PySem.Challenge.RW_ledpast_k04_what_is_a_plan
set_option maxHeartbeats 8000000
set_option Elab.async false
set_option linter.all false
set_option maxRecDepth 100000
namespace L2
open PySem PySem.Spec PyProof.Rows
abbrev Key:=Sum Int Str
def gR:Key->Value->Bool
 | .inl k,v=>Value.isInt k v
 | .inr x,v=>Value.isStrOf x v
def tw (w:World):Key->Int
 | .inl k=>hashInt k
 | .inr x=>hashStr w x
theorem bT:∀ {k:Key} {v:Value},gR k v=true->(∃ i t,k=Sum.inl i/\v=Value.int i t)\/(∃ x t,k=Sum.inr x/\v=Value.str x t)
 | .inl i,v,h=>by
  obtain⟨t,e⟩:=Value.isInt_shape (k:=i) (v:=v) h
  exact .inl ⟨i,t,rfl,e⟩
 | .inr x,v,h=>by
  obtain⟨t,e⟩:=Value.isStrOf_shape (x:=x) (v:=v) h
  exact .inr ⟨x,t,rfl,e⟩
theorem mZ (i:Int) (t:Tok):gR (.inl i) (.int i t)=true:=by simp [gR,Value.isInt]
theorem m5 (x:Str) (t:Tok):gR (.inr x) (.str x t)=true:=by simp [gR,Value.isStrOf]
theorem qL (a b:Int):decide ((Sum.inl a:Key)=Sum.inl b)=(a == b):=by
 by_cases e:a=b
 ·subst e;simp
 ·have h:¬ (Sum.inl a:Key)=Sum.inl b:=fun q=>e (Sum.inl.inj q)
  rw [decide_eq_false h]
  exact (beq_eq_false_iff_ne.mpr e).symm
theorem qM (a b:Str):decide ((Sum.inr a:Key)=Sum.inr b)=decide (a=b):=by
 by_cases e:a=b
 ·subst e;simp
 ·have h:¬ (Sum.inr a:Key)=Sum.inr b:=fun q=>e (Sum.inr.inj q)
  rw [decide_eq_false h,decide_eq_false e]
theorem qN (a:Int) (b:Str):decide ((Sum.inl a:Key)=Sum.inr b)=false:=decide_eq_false (fun q=>nomatch q)
theorem qO (a:Str) (b:Int):decide ((Sum.inr a:Key)=Sum.inl b)=false:=decide_eq_false (fun q=>nomatch q)
def bJ (prog:Program) (w:World):PySem.KeyKind prog w Key where
 is:=gR
 hash:=tw w
 inj:=fun v a b ha hb=>by
  rcases bT ha with ⟨i,t,rfl,rfl⟩ | ⟨x,t,rfl,rfl⟩
  ·rcases bT hb with ⟨j,u,rfl,e⟩ | ⟨y,u,rfl,e⟩
   ·injection e with e1 _;rw [e1]
   ·exact nomatch e
  ·rcases bT hb with ⟨j,u,rfl,e⟩ | ⟨y,u,rfl,e⟩
   ·exact nomatch e
   ·injection e with e1 _;rw [e1]
 byValue:=fun k v h=>by
  rcases bT h with ⟨i,t,rfl,rfl⟩ | ⟨x,t,rfl,rfl⟩ <;> rfl
 pyHash:=fun hv h=>by
  rcases bT hv with ⟨i,t,rfl,rfl⟩ | ⟨x,t,rfl,rfl⟩
  ·exact wpAny_pyHash_int h
  ·exact wpAny_pyHash_str h
 eqBool:=fun hu hv h=>by
  rcases bT hu with ⟨i,t,rfl,rfl⟩ | ⟨x,t,rfl,rfl⟩
  ·rcases bT hv with ⟨j,u,rfl,rfl⟩ | ⟨y,u,rfl,rfl⟩
   ·rw [qL] at h;exact wpAny_eqBool_int h
   ·rw [qN] at h;exact SeqAt.EqAt.int_str i t y u _ _ _ _ h
  ·rcases bT hv with ⟨j,u,rfl,rfl⟩ | ⟨y,u,rfl,rfl⟩
   ·rw [qO] at h;exact SeqAt.EqAt.str_int x t j u _ _ _ _ h
   ·rw [qM] at h;exact wpAny_eqBool_str h
 «strs»:=fun k x t v h=>by
  rcases bT h with ⟨i,u,rfl,e⟩ | ⟨y,u,rfl,e⟩
  ·exact nomatch e
  ·injection e with e1 _
   subst e1
   cases v <;> rfl
theorem kM (prog:Program) (w:World) (i:Int) (t:Tok):(bJ prog w).is (.inl i) (.int i t)=true:=mZ i t
theorem kN (prog:Program) (w:World) (x:Str) (t:Tok):(bJ prog w).is (.inr x) (.str x t)=true:=m5 x t
inductive V where
 | aO | bl (b:Bool) | int (i:Int) | str (x:Str) | fT (b:Array UInt8) | jP (b:UInt64) | ref (a:Addr) | ty (n:String)
 deriving DecidableEq
def RelV:V->Value->Prop
 | .aO,u=>u=Value.none
 | .bl b,u=>u=Value.bool b
 | .int i,u=>∃ t,u=Value.int i t
 | .str x,u=>∃ t,u=Value.str x t
 | .fT b,u=>∃ t,u=Value.bytes b t
 | .jP b,u=>∃ t,u=Value.float b t
 | .ref a,u=>u=Value.ref a
 | .ty n,u=>u=Value.type n
abbrev Vals:List V->List Value->Prop:=Paired RelV
theorem Vals.length {xs:List V} {us:List Value} (r:Vals xs us):xs.length=us.length:=Paired.length r
theorem Vals.get:∀ {xs:List V} {us:List Value} {i:Nat} {x:V},Vals xs us->xs[i]? = some x->∃ u,us[i]? = some u/\RelV x u
 | _,_,_,_,.nil,e=>by simp at e
 | _,_,0,_,.cons r _,e=>by simp at e;subst e;exact⟨_,rfl,r⟩
 | _,_,i+1,x,.cons _ t,e=>by
  obtain⟨u,h1,h2⟩:=Vals.get (i:=i) (x:=x) t (by simpa using e)
  exact⟨u,by simpa using h1,h2⟩
theorem Vals.set {x:V} {u:Value} (r:RelV x u):∀ {xs:List V} {us:List Value} (i:Nat),Vals xs us->Vals (xs.set i x) (us.set i u)
 | _,_,_,.nil=>.nil
 | _,_,0,.cons _ t=>.cons r t
 | _,_,i+1,.cons q t=>.cons q (Vals.set r i t)
theorem Vals.append:∀ {xs ys:List V} {us ws:List Value},Vals xs us->Vals ys ws->Vals (xs++ys) (us++ws)
 | _,_,_,_,.nil,s=>s
 | _,_,_,_,.cons r t,s=>.cons r (Vals.append t s)
theorem Vals.take:∀ {xs:List V} {us:List Value} (n:Nat),Vals xs us->Vals (xs.take n) (us.take n)
 | _,_,0,_=>.nil
 | _,_,_+1,.nil=>.nil
 | _,_,n+1,.cons r t=>.cons r (Vals.take n t)
theorem Vals.drop:∀ {xs:List V} {us:List Value} (n:Nat),Vals xs us->Vals (xs.drop n) (us.drop n)
 | _,_,0,r=>r
 | _,_,_+1,.nil=>.nil
 | _,_,n+1,.cons _ t=>Vals.drop n t
def ik:Option V->Option Value->Prop
 | some v,some u=>RelV v u
 | none,none=>True
 | _,_=>False
def KV {κ : Type}:List (κ × V)->List (κ × Value)->Prop:=Paired fun (p:κ × V) (q:κ × Value)=>p.1=q.1/\RelV p.2 q.2
def kV:Key->V
 | .inl i=>.int i
 | .inr x=>.str x
inductive HO where
 | lst (xs:List V)
 | tup (xs:List V)
 | dK (kvs:List (Key × V)) | dT (kvs:List (List Key × V))
 | set (S:Int->Bool) (n:Nat)
 | ins (C dx:Addr) (fs:List (Str × V))
 | own (x:Addr)
 | xd (fs:List (Str × V))
 | met (f x:Addr)
 | qP (lo hi:Int)
 | eS (o:Obj) (u:HO)
 | jQ (ps:Array Value)
 | ext (φ : Heap->Prop)
abbrev Hp:=Addr->Option HO
def upd (H:Hp) (a:Addr) (o:HO):Hp:=fun b=>if b=a then some o else H b
theorem ab {H:Hp} {a:Addr} {o:HO}:upd H a o a=some o:=by unfold upd;rw [if_pos rfl]
theorem aF {H:Hp} {a b:Addr} {o:HO} (h:b ≠ a):upd H a o b=H b:=by unfold upd;rw [if_neg h]
theorem iE {H:Hp} {a b:Addr} {o u:HO} (h:H a=some o) (h':H b=some u) (d:o ≠ u):a ≠ b:=by
 intro e;subst e;rw [h] at h';exact d (Option.some.inj h')
theorem bp {H:Hp} {a b:Addr} {o:HO} (h:H a=some o) (h':H b=none):a ≠ b:=by
 intro e;subst e;rw [h] at h';cases h'
section
variable (P:Program) (w:World)
def bh (H:Hp) (h:Heap) (a:Addr):HO->Prop
 | .lst xs=>xs.length<=sizeLine/\∃ (its:List Value) (n:Nat),Vals xs its/\h.get? a=some { cls:=.type "list",data:=.seq its.toArray n }
 | .tup xs=>xs.length<=sizeLine/\∃ its:List Value,Vals xs its/\∃ o,h.get? a=some o/\o.cls=.type "tuple" /\ ∃ n,o.data=.seq its.toArray n/\o.dict=none
 | .dK kvs=>kvs.length<=sizeLine/\(a == sysModules)=false/\∃ vs,KV kvs vs/\h.DictOf (bJ P w) a vs
 | .dT kvs=>kvs.length<=sizeLine/\(a == sysModules)=false/\∃ xs:List (List Key × Addr × Value),
   Paired (fun (p:List Key × V) (q:List Key × Addr × Value)=>p.1=q.1/\H q.2.1=some (.tup (p.1.map kV))/\RelV p.2 q.2.2) kvs xs /\
   ∃ o es ep,h.get? a=some o/\o.ExactDict/\o.data=.dict es ep/\es.toList=xs.map (entryOfKey (tupleKind (bJ P w)))/\(xs.map (·.1)).Nodup
 | .set S n=>h.SetOf (intKind P w) a S n
 | .ins C dx fs=>H dx=some (.own a)/\fs.length<=1000/\dx ≠ a/\h.get? a=some (PySem.W.instObj C dx) /\
   ∃ mA,h.Ns1 dx mA/\(∀ f,ik (fs.lookup f) (mA f))/\PySem.Within mA (fs.map (·.1))
 | .own _=>∃ o,h.get? a=some o
 | .xd fs=>∃ mA,h.Ns1 a mA/\∀ f,ik (fs.lookup f) (mA f)
 | .qP lo hi=>∃ t u v,h.get? a=some { cls:=.type "range",data:=.fields #[.int lo t,.int hi u,.int 1 v] }
 | .eS o u=>h.get? a=some o/\bh H h a u
 | .jQ ps=>h.get? a=some { cls:=.none,data:=.fields ps }
 | .met f x=>h.get? a=some (PySem.W.methodObj (.ref f) (.ref x))
 | .ext φ=>φ h/\(∃ o,h.get? a=some o)/\∀ h1 h2:Heap,φ h1->(∀ o,h1.get? a=some o->h2.get? a=some o)->φ h2
def b5 (H:Hp) (h:Heap):Prop:=∀ a o,H a=some o->bh P w H h a o
end
section
variable {P:Program} {w:World} {H H':Hp} {h h':Heap} {a:Addr} {o:HO}
theorem bh.lt (x:bh P w H h a o):a < h.objs.size:=by
 cases o with
 | lst xs=>obtain⟨_,_,_,_,e⟩:=x;exact Heap.lt_size e
 | tup xs=>obtain⟨_,_,_,p⟩:=x;exact (let ⟨o,e,_⟩:=p;Heap.lt_size e)
 | dK kvs=>obtain⟨_,_,_,_,o,_,_,e,_⟩:=x;exact Heap.lt_size e
 | dT kvs=>obtain⟨_,_,_,_,o,_,_,e,_⟩:=x;exact Heap.lt_size e
 | set S n=>obtain⟨o,_,_,_,e,_⟩:=x;exact Heap.lt_size e
 | ins C dx fs=>obtain⟨_,_,_,e,_⟩:=x;exact Heap.lt_size e
 | own y=>obtain⟨_,e⟩:=x;exact Heap.lt_size e
 | xd fs=>obtain⟨_,⟨_,_,_,e,_⟩,_⟩:=x;exact Heap.lt_size e
 | qP lo hi=>obtain⟨_,_,_,e⟩:=x;exact Heap.lt_size e
 | eS ob u=>obtain⟨e,_⟩:=x;exact Heap.lt_size e
 | jQ ps=>exact Heap.lt_size (show h.get? a=some _ from x)
 | met f y=>exact Heap.lt_size (show h.get? a=some _ from x)
 | ext φ=>obtain⟨_,⟨_,e⟩,_⟩:=x;exact Heap.lt_size e
theorem Paired.qQ {α β : Type} {F G:α->β->Prop}:∀ {l₁ : List α} {l₂ : List β},Paired F l₁ l₂->(∀ a b,F a b->G a b)->Paired G l₁ l₂
 | _,_,.nil,_=>.nil
 | _,_,.cons r t,f=>.cons (f _ _ r) (Paired.qQ t f)
theorem bh.iW (x:bh P w H h a o) (k:∀ b u,(b=a\/H b=some (.own a))->h.get? b=some u->h'.get? b=some u)
  (ho:∀ b,H b=some (.own a)->H' b=some (.own a)) (ht:∀ b xs,H b=some (.tup xs)->H' b=some (.tup xs)):bh P w H' h' a o:=by
 induction o with
 | lst xs=>obtain⟨z,its,n,r,e⟩:=x;exact⟨z,its,n,r,k _ _ (.inl rfl) e⟩
 | tup xs=>obtain⟨z,its,r,ob,e,c⟩:=x;exact⟨z,its,r,ob,k _ _ (.inl rfl) e,c⟩
 | dK kvs=>obtain⟨z,y,vs,r,ob,es,ep,e,c⟩:=x;exact⟨z,y,vs,r,ob,es,ep,k _ _ (.inl rfl) e,c⟩
 | dT kvs =>
  obtain⟨z,y,xs,r,ob,es,ep,e,c⟩:=x
  exact⟨z,y,xs,Paired.qQ r fun p q z=>⟨z.1,ht _ _ z.2.1,z.2.2⟩,ob,es,ep,k _ _ (.inl rfl) e,c⟩
 | set S n=>obtain⟨ob,es,ep,t,e,c⟩:=x;exact⟨ob,es,ep,t,k _ _ (.inl rfl) e,c⟩
 | ins C dx fs =>
  obtain⟨d,z,ne,e,mA,⟨od,es,ep,e2,c⟩,r⟩:=x
  exact⟨ho _ d,z,ne,k _ _ (.inl rfl) e,mA,⟨od,es,ep,k _ _ (.inr d) e2,c⟩,r⟩
 | own y=>obtain⟨ob,e⟩:=x;exact⟨ob,k _ _ (.inl rfl) e⟩
 | xd fs=>obtain⟨mA,⟨od,es,ep,e,c⟩,r⟩:=x;exact⟨mA,⟨od,es,ep,k _ _ (.inl rfl) e,c⟩,r⟩
 | qP lo hi=>obtain⟨t,u,v,e⟩:=x;exact⟨t,u,v,k _ _ (.inl rfl) e⟩
 | eS ob u ih=>obtain⟨e,q⟩:=x;exact⟨k _ _ (.inl rfl) e,ih q⟩
 | jQ ps =>
  have e:h.get? a=some { cls:=.none,data:=.fields ps }:=x
  show h'.get? a=some { cls:=.none,data:=.fields ps }
  exact k a _ (.inl rfl) e
 | met f y =>
  have e:h.get? a=some (PySem.W.methodObj (.ref f) (.ref y)):=x
  show h'.get? a=some (PySem.W.methodObj (.ref f) (.ref y))
  exact k a _ (.inl rfl) e
 | ext φ=>obtain⟨p,⟨o,e⟩,st⟩:=x;exact⟨st _ _ p fun o q=>k _ _ (.inl rfl) q,⟨o,k _ _ (.inl rfl) e⟩,st⟩
theorem b5.lt (x:b5 P w H h) (e:H a=some o):a < h.objs.size:=(x a o e).lt
theorem b5.fresh (x:b5 P w H h) (e:h.objs.size<=a):H a=none:=by
 cases q:H a with
 | none=>rfl
 | some u=>exact absurd (Nat.lt_of_lt_of_le (x.lt q) e) (Nat.lt_irrefl _)
theorem b5.kept (x:b5 P w H h) (k:∀ b u,h.get? b=some u->h'.get? b=some u):b5 P w H h':=fun a o e =>
 (x a o e).iW (fun b u _ q=>k b u q) (fun _ q=>q) fun _ _ q=>q
theorem b5.laid (x:b5 P w H h) (k:∀ b u,h.get? b=some u->h'.get? b=some u) (hp:h.objs.size<=a) (new:bh P w (upd H a o) h' a o):b5 P w (upd H a o) h':=fun b u e=>by
 have hn:=x.fresh hp
 by_cases hb:b=a
 ·subst hb;rw [ab] at e;cases e;exact new
 ·rw [aF hb] at e
  exact (x b u e).iW (fun c v _ q=>k c v q) (fun c q=>by rw [aF (bp q hn)];exact q) fun c xs q=>by rw [aF (bp q hn)];exact q
end
def Rd (H:Hp) (a:Addr) (u:HO):Prop:=H a=some u\/∃ o,H a=some (.eS o u)
theorem Rd.ok {P:Program} {w:World} {H:Hp} {h:Heap} {a:Addr} {u:HO} (r:Rd H a u) (x:b5 P w H h):bh P w H h a u:=by
 rcases r with r | ⟨o,r⟩
 ·exact x a u r
 ·obtain⟨_,q⟩:=x a _ r
  exact q
def m6:Option HO->Prop
 | some (.lst _)=>True
 | some (.dK _)=>True
 | some (.dT _)=>True
 | some (.set _ _)=>True
 | some (.ins _ _ _)=>True
 | some (.ext _)=>True
 | _=>False
section
variable {P:Program} {w:World} {H:Hp} {h h':Heap} {x e:Addr} {o':HO}
theorem b5.write (ok:b5 P w H h) (mu:m6 (H x)) (he:e=x\/H e=some (.own x)) (k:∀ b u,b ≠ e->h.get? b=some u->h'.get? b=some u) (heo:∃ u,h'.get? e=some u)
  (new:bh P w (upd H x o') h' x o'):b5 P w (upd H x o') h':=fun b u q=>by
 have nown:∀ c y,H c=some (.own y)->c ≠ x:=fun c y r z=>by subst z;rw [r] at mu;exact mu
 have ntup:∀ c xs,H c=some (.tup xs)->c ≠ x:=fun c xs r z=>by subst z;rw [r] at mu;exact mu
 by_cases hb:b=x
 ·subst hb;rw [ab] at q;cases q;exact new
 ·rw [aF hb] at q
  by_cases hbe:b=e
  ·have q':H b=some (.own x):=by
    rcases he with z | z
    ·exact absurd (hbe.trans z) hb
    ·rw [hbe];exact z
   rw [q] at q';cases q'
   obtain⟨v,hv⟩:=heo
   exact⟨v,by rw [hbe];exact hv⟩
  ·refine (ok b u q).iW (fun c v hc r=>k c v ?_ r) (fun c r=>by rw [aF (nown c b r)];exact r) fun c xs r=>by rw [aF (ntup c xs r)];exact r
   rcases hc with rfl | hc
   ·exact hbe
   ·rintro rfl
    rcases he with z | z
    ·exact nown c b hc z
    ·rw [hc] at z;cases z;exact hb rfl
end
structure Un (fs ex:List Addr) (H H':Hp) (h h':Heap):Prop where
 keep:∀ b o,h.get? b=some o->H b=none->b ∉ fs->b ∉ ex->h'.get? b=some o
 slot:∀ b o,h.get? b=some o->H b=none->b ∈ fs->b ∉ ex->∃ sl,h'.get? b=some { o with slots:=sl }
 free:∀ b o,h.get? b=some o->H b=none->b ∉ ex->H' b=none
 there:∀ b o,h.get? b=some o->b ∉ ex->∃ o',h'.get? b=some o'
 cq:∀ b xs,H b=some (.tup xs)->H' b=some (.tup xs)
 fC:∀ b o u,H b=some (.eS o u)->H' b=some (.eS o u)
 fX:∀ b ps,H b=some (.jQ ps)->∃ more,H' b=some (.jQ (ps++more))
section
variable {fs fs' ex ex':List Addr} {H H1 H2:Hp} {h h1 h2 h':Heap} {a x e:Addr} {o:HO}
theorem Un.any (u:Un fs ex H H1 h h1) {b:Addr} {ob:Obj} (q:h.get? b=some ob) (n:H b=none) (hx:b ∉ ex):∃ sl,h1.get? b=some { ob with slots:=sl }:=by
 by_cases hb:b ∈ fs
 ·exact u.slot b ob q n hb hx
 ·exact⟨ob.slots,u.keep b ob q n hb hx⟩
theorem Un.kept (k:∀ b u,h.get? b=some u->h'.get? b=some u):Un fs ex H H h h' :=
 ⟨fun b ob q _ _ _=>k b ob q,fun b ob q _ _ _=>⟨ob.slots,k b ob q⟩,fun _ _ _ n _=>n,fun b ob q _=>⟨ob,k b ob q⟩,fun _ _ q=>q,fun _ _ _ q=>q,fun _ ps q=>⟨#[],by rw [q];simp⟩⟩
theorem Un.refl:Un fs ex H H h h:=Un.kept fun _ _ q=>q
theorem Un.laid (k:∀ b u,h.get? b=some u->h'.get? b=some u) (hp:h.objs.size<=a) (hn:H a=none):Un fs ex H (upd H a o) h h' where
 keep:=fun b u q _ _ _=>k b u q
 slot:=fun b u q _ _ _=>⟨u.slots,k b u q⟩
 free:=fun b u q n _=>by rw [aF (Nat.ne_of_lt (Nat.lt_of_lt_of_le (Heap.lt_size q) hp))];exact n
 there:=fun b u q _=>⟨u,k b u q⟩
 cq:=fun b xs q=>by rw [aF (bp q hn)];exact q
 fC:=fun b u xs q=>by rw [aF (bp q hn)];exact q
 fX:=fun b ps q=>⟨#[],by rw [aF (bp q hn),q];simp⟩
theorem Un.write (mu:m6 (H x)) (he:e=x\/H e=some (.own x)) (k:∀ b u,b ≠ e->h.get? b=some u->h'.get? b=some u) (heo:∃ u,h'.get? e=some u):Un fs ex H (upd H x o) h h':=by
  have hx:∀ b,H b=none->b ≠ x:=fun b n z=>by subst z;rw [n] at mu;exact mu
  have hb:∀ b,H b=none->b ≠ e:=fun b n z=>by
    subst z
    rcases he with r | r
    · exact hx b n r
    · rw [n] at r;cases r
  have hm:∀ b u,H b=some u->¬ m6 (some u)->b ≠ x:=fun b u q nm z=>by subst z;rw [q] at mu;exact nm mu
  refine⟨fun b u q n _ _=>k b u (hb b n) q,fun b u q n _ _=>⟨u.slots,k b u (hb b n) q⟩,fun b u q n _=>by rw [aF (hx b n)];exact n,fun b u q _=>?_,
    fun b xs q=>by rw [aF (hm b _ q fun z=>z)];exact q,fun b u xs q=>by rw [aF (hm b _ q fun z=>z)];exact q,fun b ps q=>⟨#[],by rw [aF (hm b _ q fun z=>z),q];simp⟩⟩
  by_cases hbe:b=e
  · subst hbe;exact heo
  · exact⟨u,k b u hbe q⟩
end
def pD (h:Heap) (H:Hp):List Addr:=(List.range h.objs.size).filter fun a=>(H a).isSome
def fD (h:Heap) (H:Hp):Heap:=PySem.W.hideAll h (pD h H)
theorem m7 (h:Heap) (H:Hp):(fD h H).objs.size=h.objs.size:=PySem.W.hideAll_size _ _
theorem oo {h:Heap} {H:Hp} {b:Addr} {o:Obj} (e:h.get? b=some o) (n:H b=none):(fD h H).get? b=some o :=
 PySem.W.hideAll_get _ e fun hm=>by
  have q:(H b).isSome=true:=(List.mem_filter.mp hm).2
  rw [n] at q;simp at q
theorem pX {h:Heap} {H:Hp} {b:Addr} {o:Obj} (e:(fD h H).get? b=some o):h.get? b=some o/\H b=none:=by
 have e':h.get? b=some o:=PySem.W.of_hideAll (pD h H) e
 refine⟨e',?_⟩
 cases q:H b with
 | none=>rfl
 | some x =>
  have hm:b ∈ pD h H:=List.mem_filter.mpr ⟨List.mem_range.mpr (Heap.lt_size e'),by simp [q]⟩
  have z:(fD h H).get? b=none:=PySem.W.hideAll_none (pD h H) hm
  rw [z] at e;cases e
def pY (g h:Heap) (L:Addr):List (Addr × Obj):=(List.range h.objs.size).filterMap fun a=>if a=L\/(g.get? a).isSome=true then none else (h.get? a).map fun o=>(a,o)
def rest (g h:Heap) (L d:Addr):List (Addr × Obj):=(pY g h L).filter fun p=>decide (p.1 ≠ d)
structure Mod (K:PySem.W.Frag) (mg:Str->Option Value) (base:Heap):Prop where
 qR:K.In base
 glob:base.Ns mainGlobals mg
 blt:∃ mb,base.Ns builtinsNs mb/\∀ x:Str,x ≠ "__name__" -> mb x=bootBuiltins x
 nolimit:base.NoLimit
structure Cx where
 prog:Program
 w:World
 K:PySem.W.Frag
 mg:Str->Option Value
 base:Heap
 A:Around
 N:List Str
 b6:Shared
 jR:Hp
 env:Env
 outer:List Env
 stack:List Env
 ex:List Addr
 fn:Str->Bool
 calm:Bool
 pn:List (Addr × Obj)
 xe:Value->Shared->Prop
def fY (l:List Env):List Addr:=l.filterMap (·.frame)
abbrev Cx.fs (X:Cx):List Addr:=fY X.outer
def pE (sc:Scope) (x:Str):Prop:=sc.names.lookup x=some .local\/sc.names.lookup x=some .cell\/sc.names.lookup x=some .free
def Loc (sc:Scope) (x:Str):Prop:=sc.names.lookup x=some .local\/sc.names.lookup x=some .cell
def Look (env:Env) (h:Heap) (m:Str->Option Value) (x:Str) (u:Value):Prop :=
 (env.kindOf x=some .local/\m x=some u)\/((env.kindOf x=some .cell\/env.kindOf x=some .free)/\∃ c,env.cells.lookup x=some c/\h.IsCell c (some u))
structure Cx.Ok (X:Cx):Prop where
 mod:Mod X.K X.mg X.base
 kind:X.env.scope.kind=.function
 glob:X.env.globals=mainGlobals
 blt:X.env.builtins=builtinsNs
 above:X.b6.heap.objs.size<=X.env.locals
 inj:∀ x y c,X.env.cells.lookup x=some c->X.env.cells.lookup y=some c->x=y
 has:∀ x,(X.env.kindOf x=some .cell\/X.env.kindOf x=some .free)->∃ c,X.env.cells.lookup x=some c
 m8:∀ x c,X.fn x=true->X.env.cells.lookup x=some c->X.b6.heap.objs.size<=c
 hd:X.calm=true->X.A.handled=none
 frames:X.A.frames=some X.stack
 pF:X.stack=X.outer\/(X.stack=X.env :: X.outer/\X.env.frame=some X.env.locals)
 sU:∀ b ∈ X.ex,b ≠ X.env.locals/\∀ x c,X.env.cells.lookup x=some c->c ≠ b
 bs:∀ b o,X.base.get? b=some o->X.b6.heap.get? b=some o/\X.jR b=none
 jg:X.base.objs.size<=X.b6.heap.objs.size
 jS:∀ b o,X.base.get? b=some o->b ∉ X.ex
 mq:∀ b ∈ X.ex,b ∉ X.fs
 ef:X.b6.heap.FunFrames X.base X.outer
 lh:∀ b ∈ X.fs,X.jR b=none
structure Inv (X:Cx) (pins:List (Addr × Obj)) (σ : List (Option V)) (H:Hp) (s:Shared):Prop where
 ok:X.Ok
 os:s.os=X.b6.os
 bare:AllBare s.gens
 base:Un X.fs X.ex X.jR H X.b6.heap s.heap
 loc:∃ m,s.heap.Ns X.env.locals m/\∀ (i:Nat) (x:Str) (v:V),X.N[i]? = some x->σ[i]? = some (some v)->pE X.env.scope x->∃ u,RelV v u/\Look X.env s.heap m x u
 cell:∀ x c,X.env.cells.lookup x=some c->∃ v,s.heap.IsCell c v
 free:H X.env.locals=none
 dz:∀ x c,X.env.cells.lookup x=some c->H c=none
 pin:∀ p ∈ X.pn++pins,s.heap.get? p.1=some p.2/\H p.1=none/\p.1 ≠ X.env.locals/\p.1 ∉ X.fs/\∀ v,p.2.data ≠ .cell v
 aK:b5 X.prog X.w H s.heap
 len:σ.length=X.N.length
section
variable {X:Cx} {pins:List (Addr × Obj)} {σ : List (Option V)} {H H':Hp} {s:Shared} {h':Heap}
theorem Cx.Ok.tD (ok:X.Ok) {b:Addr} {o:Obj} (e:X.base.get? b=some o):b ∉ X.fs:=fun hb=>by
 have:=(ok.ef.mem hb).1
 rw [e] at this;cases this
theorem Inv.bs (I:Inv X pins σ H s):∀ b o,X.base.get? b=some o->s.heap.get? b=some o/\H b=none:=fun b o e =>
 ⟨I.base.keep b o (I.ok.bs b o e).1 (I.ok.bs b o e).2 (I.ok.tD e) (I.ok.jS b o e),I.base.free b o (I.ok.bs b o e).1 (I.ok.bs b o e).2 (I.ok.jS b o e)⟩
theorem Inv.bk (I:Inv X pins σ H s):∀ b o,X.base.get? b=some o->s.heap.get? b=some o:=fun b o e=>(I.bs b o e).1
theorem Inv.mod (I:Inv X pins σ H s):Mod X.K X.mg X.base:=I.ok.mod
theorem Inv.cZ (I:Inv X pins σ H s):X.K.In s.heap:=I.ok.mod.qR.keeps I.bk
theorem Inv.lt (I:Inv X pins σ H s):X.env.locals < s.heap.objs.size:=let ⟨_,hn,_⟩:=I.loc;hn.lt
theorem Inv.sz (I:Inv X pins σ H s):X.b6.heap.objs.size<=s.heap.objs.size:=Nat.le_trans I.ok.above (Nat.le_of_lt I.lt)
theorem Inv.tE (I:Inv X pins σ H s) {a:Addr} (h:s.heap.objs.size<=a):a ∉ X.fs:=fun hb=>by
 obtain⟨_,o,ho,_⟩:=I.ok.ef.mem hb
 exact absurd (Nat.lt_of_lt_of_le (Heap.lt_size ho) (Nat.le_trans I.sz h)) (Nat.lt_irrefl _)
theorem Inv.jT (I:Inv X pins σ H s):∀ x c,X.env.cells.lookup x=some c->c ≠ X.env.locals:=fun x c e z=>by
 obtain⟨v,o,ho,hd⟩:=I.cell x c e
 obtain⟨m,⟨o',es,ep,ho',hd',_⟩,_⟩:=I.loc
 rw [z,ho'] at ho;cases ho;rw [hd'] at hd;cases hd
theorem Inv.ef (I:Inv X pins σ H s):s.heap.FunFrames X.base X.outer:=by
 have all:∀ (l:List Env),(∀ b ∈ fY l,b ∈ X.fs)->X.b6.heap.FunFrames X.base l->s.heap.FunFrames X.base l:=by
  intro l
  induction l with
  | nil=>intro _ _;trivial
  | cons env r ih =>
   intro hs hl
   obtain⟨hk,⟨L,o,hf,hn,ho,hd⟩,hr⟩:=hl
   have hL:L ∈ X.fs:=hs L (by unfold fY;rw [List.filterMap_cons,hf];exact List.mem_cons_self)
   obtain⟨sl,e⟩:=I.base.slot L o ho (I.ok.lh L hL) hL fun z=>I.ok.mq L z hL
   exact⟨hk,⟨L,_,hf,hn,e,hd⟩,ih (fun b hb=>hs b (by unfold fY;rw [List.filterMap_cons,hf];exact List.mem_cons_of_mem _ hb)) hr⟩
 exact all X.outer (fun _ hb=>hb) I.ok.ef
theorem Inv.stack (I:Inv X pins σ H s):s.heap.FunFrames X.base X.stack:=by
 rcases I.ok.pF with e | ⟨e,hf⟩
 ·rw [e];exact I.ef
 ·rw [e]
  obtain⟨m,hn,_⟩:=I.loc
  refine .cons (by rw [I.ok.kind];decide) hf hn ?_ I.ef
  exact Heap.get?_none_of_le (Nat.le_trans I.ok.jg I.ok.above)
theorem Inv.iF (I:Inv X pins σ H s):∀ b ∈ fY X.stack,b ∈ X.env.locals :: X.fs:=fun b hb=>by
 rcases I.ok.pF with e | ⟨e,hf⟩
 ·rw [e] at hb;exact List.mem_cons_of_mem _ hb
 ·rw [e] at hb
  unfold fY at hb
  rw [List.filterMap_cons,hf] at hb
  exact hb
theorem Inv.lj (I:Inv X pins σ H s):∀ b ∈ fY X.stack,H b=none:=fun b hb=>by
 rcases List.mem_cons.mp (I.iF b hb) with e | hb
 ·rw [e];exact I.free
 ·obtain⟨_,o,ho,_⟩:=I.ok.ef.mem hb
  exact I.base.free b o ho (I.ok.lh b hb) fun z=>I.ok.mq b z hb
theorem Inv.step {g':Array GenState} {t':Nat} {d':Drawn} {ch:List Addr} (I:Inv X pins σ H s)
  (hch:∀ b ∈ ch,(b ∈ X.ex\/X.b6.heap.objs.size<=b)/\b ≠ X.env.locals/\(∀ x c,X.env.cells.lookup x=some c->c ≠ b)/\∀ p ∈ X.pn++pins,p.1 ≠ b)
  (keep:∀ b o,b ≠ X.env.locals->b ∉ X.fs->b ∉ ch->s.heap.get? b=some o->H b=none->h'.get? b=some o)
  (slot:∀ b o,b ≠ X.env.locals->b ∈ X.fs->b ∉ ch->s.heap.get? b=some o->H b=none->∃ sl,h'.get? b=some { o with slots:=sl }) (free:∀ b o,b ∉ ch->s.heap.get? b=some o->H b=none->H' b=none)
  (there:∀ b o,b ∉ ch->s.heap.get? b=some o->∃ o',h'.get? b=some o')
  (cq:∀ b xs,H b=some (.tup xs)->H' b=some (.tup xs)) (fC:∀ b o u,H b=some (.eS o u)->H' b=some (.eS o u)) (fX:∀ b ps,H b=some (.jQ ps)->∃ more,H' b=some (.jQ (ps++more)))
  (ns:∀ m,s.heap.Ns X.env.locals m->h'.Ns X.env.locals m) (aK:b5 X.prog X.w H' h') (hg:AllBare g') :
  Inv X pins σ H' { s with heap:=h',gens:=g',drawn:=d',toks:=t' }:=by
 have neL:∀ b o,X.b6.heap.get? b=some o->b ≠ X.env.locals:=fun b o e=>Nat.ne_of_lt (Nat.lt_of_lt_of_le (Heap.lt_size e) I.ok.above)
 have neC:∀ b o,X.b6.heap.get? b=some o->b ∉ X.ex->b ∉ ch:=fun b o e hx hb=>by
  rcases (hch b hb).1 with z | z
  ·exact hx z
  ·exact absurd (Nat.lt_of_lt_of_le (Heap.lt_size e) z) (Nat.lt_irrefl _)
 have cellK:∀ x c,X.env.cells.lookup x=some c->∀ v,s.heap.IsCell c v->h'.IsCell c v:=fun x c e v ⟨o,ho,hd⟩=>by
  have nch:c ∉ ch:=fun z=>(hch c z).2.2.1 x c e rfl
  by_cases hc:c ∈ X.fs
  ·obtain⟨sl,q⟩:=slot c o (I.jT x c e) hc nch ho (I.dz x c e)
   exact⟨_,q,hd⟩
  ·exact⟨o,keep c o (I.jT x c e) hc nch ho (I.dz x c e),hd⟩
 refine⟨I.ok,I.os,hg,⟨fun b o e n hb hx=>?_,fun b o e n hb hx=>?_,fun b o e n hx=>?_,fun b o e hx=>?_,fun b xs e=>cq b xs (I.base.cq b xs e),fun b o xs e=>fC b o xs (I.base.fC b o xs e),fun b ps e=>?_⟩,?_,fun x c e=>?_,?_,fun x c e=>?_,fun p hp=>?_,aK,I.len⟩
 ·exact keep b o (neL b o e) hb (neC b o e hx) (I.base.keep b o e n hb hx) (I.base.free b o e n hx)
 ·obtain⟨sl,e1⟩:=I.base.slot b o e n hb hx
  obtain⟨sl',e2⟩:=slot b _ (neL b o e) hb (neC b o e hx) e1 (I.base.free b o e n hx)
  exact⟨sl',e2⟩
 ·obtain⟨o',e1⟩:=I.base.there b o e hx
  exact free b o' (neC b o e hx) e1 (I.base.free b o e n hx)
 ·obtain⟨o',e1⟩:=I.base.there b o e hx
  exact there b o' (neC b o e hx) e1
 ·obtain⟨m1,e1⟩:=I.base.fX b ps e
  obtain⟨m2,e2⟩:=fX b _ e1
  exact⟨m1++m2,by rw [e2,Array.append_assoc]⟩
 ·obtain⟨m,hn,hl⟩:=I.loc
  refine⟨m,ns m hn,fun i x v e1 e2 e3=>?_⟩
  obtain⟨u,r,l⟩:=hl i x v e1 e2 e3
  refine⟨u,r,?_⟩
  rcases l with l | ⟨k,c,e,z⟩
  ·exact .inl l
  ·exact .inr ⟨k,c,e,cellK x c e _ z⟩
 ·obtain⟨v,z⟩:=I.cell x c e
  exact⟨v,cellK x c e v z⟩
 ·obtain⟨m,⟨o,_,_,ho,_⟩,_⟩:=I.loc
  exact free _ o (fun z=>(hch _ z).2.1 rfl) ho I.free
 ·obtain⟨v,o,ho,hd⟩:=I.cell x c e
  exact free c o (fun z=>(hch c z).2.2.1 x c e rfl) ho (I.dz x c e)
 ·obtain⟨e,n,ne,nf,d⟩:=I.pin p hp
  have nch:p.1 ∉ ch:=fun z=>(hch p.1 z).2.2.2 p hp rfl
  exact⟨keep p.1 p.2 ne nf nch e n,free p.1 p.2 nch e n,ne,nf,d⟩
theorem Inv.un {t':Nat} (I:Inv X pins σ H s) (u:Un X.fs [] H H' s.heap h') (aK:b5 X.prog X.w H' h'):Inv X pins σ H' { s with heap:=h',toks:=t' }:=by
  obtain⟨m,⟨o,es,ep,ho,r⟩,_⟩:=id I.loc
  obtain⟨sl,hL⟩:=u.any ho I.free (by simp)
  exact I.step (g':=s.gens) (d':=s.drawn) (ch:=[]) (fun _ z=>nomatch z) (fun b o _ hb _ e n=>u.keep b o e n hb (by simp)) (fun b o _ hb _ e n=>u.slot b o e n hb (by simp)) (fun b o _ e n=>u.free b o e n (by simp)) (fun b o _ e=>u.there b o e (by simp)) u.cq u.fC u.fX (fun m' hm=>by
    obtain⟨o',es',ep',ho',r'⟩:=hm
    rw [ho] at ho';cases ho'
    exact⟨_,es',ep',hL,r'⟩) aK I.bare
theorem Inv.call {g':Array GenState} {t':Nat} {d':Drawn} {ch:List Addr} (I:Inv X pins σ H s) (u:Un (fY X.stack) ch H H' s.heap h') (aK:b5 X.prog X.w H' h') (hg:AllBare g')
  (hch:∀ b ∈ ch,(b ∈ X.ex\/X.b6.heap.objs.size<=b)/\b ≠ X.env.locals/\(∀ x c,X.env.cells.lookup x=some c->c ≠ b)/\∀ p ∈ X.pn++pins,p.1 ≠ b) :
  Inv X pins σ H' { s with heap:=h',gens:=g',drawn:=d',toks:=t' }:=by
 obtain⟨m,⟨o,es,ep,ho,r⟩,_⟩:=id I.loc
 obtain⟨sl,hL⟩:=u.any ho I.free fun z=>(hch _ z).2.1 rfl
 exact I.step (ch:=ch) hch (fun b o hL hb hc e n=>u.keep b o e n (fun z=>(List.mem_cons.mp (I.iF b z)).elim hL hb) hc) (fun b o _ _ hc e n=>u.any e n hc) (fun b o hc e n=>u.free b o e n hc) (fun b o hc e=>u.there b o e hc) u.cq u.fC u.fX (fun m' hm=>by
  obtain⟨o',es',ep',ho',r'⟩:=hm
  rw [ho] at ho';cases ho'
  exact⟨_,es',ep',hL,r'⟩) aK hg
theorem Inv.turned {t':Nat} {it:Addr} (I:Inv X pins σ H s) (k:∀ b o,b ≠ it->s.heap.get? b=some o->h'.get? b=some o) (hn:H it=none) (hL:it ≠ X.env.locals)
  (h1:it ∈ X.ex\/X.b6.heap.objs.size<=it) (h2:∀ x c,X.env.cells.lookup x=some c->c ≠ it) (h3:∀ p ∈ X.pn++pins,p.1 ≠ it):Inv X pins σ H { s with heap:=h',toks:=t' }:=by
 have nit:∀ b u,H b=some u->b ≠ it:=fun b u e z=>by rw [z,hn] at e;cases e
 refine I.step (g':=s.gens) (d':=s.drawn) (ch:=[it]) (fun b hb=>?_) (fun b o _ _ hc e _=>k b o (fun z=>hc (by simp [z])) e) (fun b o _ _ hc e _=>⟨o.slots,k b o (fun z=>hc (by simp [z])) e⟩) (fun _ _ _ _ n=>n)
  (fun b o hc e=>⟨o,k b o (fun z=>hc (by simp [z])) e⟩) (fun _ _ e=>e) (fun _ _ _ e=>e) (fun b ps e=>⟨#[],by rw [e];simp⟩) (fun m hm=>?_) (fun b u e=>?_) I.bare
 ·have e:b=it:=by simpa using hb
  subst e
  exact⟨h1,hL,h2,h3⟩
 ·obtain⟨o,es,ep,ho,r⟩:=hm
  exact⟨o,es,ep,k _ o (Ne.symm hL) ho,r⟩
 ·refine (I.aK b u e).iW (fun c v hc q=>k c v ?_ q) (fun _ q=>q) fun _ _ q=>q
  rcases hc with z | z
  ·rw [z];exact nit b u e
  ·exact nit c _ z
theorem Inv.tok (I:Inv X pins σ H s) (t:Nat):Inv X pins σ H { s with toks:=t }:=I.un (h':=s.heap) (t':=t) Un.refl I.aK
theorem Inv.kept {t':Nat} (I:Inv X pins σ H s) (k:∀ b u,s.heap.get? b=some u->h'.get? b=some u):Inv X pins σ H { s with heap:=h',toks:=t' }:=I.un (Un.kept k) (I.aK.kept k)
theorem Inv.laid {a:Addr} {o:HO} {t':Nat} (I:Inv X pins σ H s) (k:∀ b u,s.heap.get? b=some u->h'.get? b=some u) (hp:s.heap.objs.size<=a) (new:bh X.prog X.w (upd H a o) h' a o) :
  Inv X pins σ (upd H a o) { s with heap:=h',toks:=t' }:=I.un (Un.laid k hp (I.aK.fresh hp)) (I.aK.laid k hp new)
theorem Inv.write {x e:Addr} {o:HO} {t':Nat} (I:Inv X pins σ H s) (mu:m6 (H x)) (he:e=x\/H e=some (.own x)) (k:∀ b u,b ≠ e->s.heap.get? b=some u->h'.get? b=some u) (heo:∃ u,h'.get? e=some u)
  (new:bh X.prog X.w (upd H x o) h' x o):Inv X pins σ (upd H x o) { s with heap:=h',toks:=t' }:=I.un (Un.write mu he k heo) (I.aK.write mu he k heo new)
theorem Inv.ll {pins':List (Addr × Obj)} (I:Inv X pins σ H s) (h:∀ p ∈ pins',s.heap.get? p.1=some p.2/\H p.1=none/\p.1 ≠ X.env.locals/\p.1 ∉ X.fs/\∀ v,p.2.data ≠ .cell v):Inv X pins' σ H s :=
 ⟨I.ok,I.os,I.bare,I.base,I.loc,I.cell,I.free,I.dz,fun p hp=>(List.mem_append.mp hp).elim (fun z=>I.pin p (List.mem_append_left _ z)) (h p),I.aK,I.len⟩
theorem jU {N:List Str} (hN:N.Nodup) {i j:Nat} {x:Str} (a:N[i]? = some x) (b:N[j]? = some x):i=j:=by
 obtain⟨h1,e1⟩:=List.getElem?_eq_some_iff.mp a
 obtain⟨h2,e2⟩:=List.getElem?_eq_some_iff.mp b
 exact (List.getElem_inj hN).mp (e1.trans e2.symm)
theorem jh {M:Model} {A:Around} {E:Value->Shared->Prop} {i:Nat} {x:Str} {v:V} {u:Value} {Q:Unit->Shared->Prop} (I:Inv X pins σ H s) (hN:X.N.Nodup) (hi:X.N[i]? = some x) (hx:Loc X.env.scope x) (r:RelV v u)
  (h:∀ s',Inv X pins (σ.set i (some v)) H s'->(∃ a,Heap.SameBut a s.heap s'.heap/\(a=X.env.locals\/X.env.cells.lookup x=some a))->Q () s') (hf:X.fn x=true\/X.env.scope.names.lookup x=some .local:=by first | exact .inl rfl | exact .inr rfl | assumption):wpAny M A (storeName X.env x u) Q E s:=by
 obtain⟨m,hn,hl⟩:=id I.loc
 have hcls:(X.env.scope.kind == .class || (X.env.scope.kind == .module && X.env.locals != X.env.globals))=false:=by rw [I.ok.kind];rfl
 have hiσ : i < σ.length:=by rw [I.len];exact (List.getElem?_eq_some_iff.mp hi).1
 have jT:=I.jT
 have tracked:∀ {a:Addr} {h':Heap},(∃ o,s.heap.get? a=some o/\H a=none)->Heap.SameBut a s.heap h'->b5 X.prog X.w H h':=fun {a h'} ha hs b ob e=>by
  obtain⟨_,_,hfree⟩:=ha
  refine (I.aK b ob e).iW (fun c w' hc q=>(hs.2 c ?_).trans q) (fun _ q=>q) fun _ _ q=>q
  rintro rfl
  rcases hc with rfl | hc
  ·rw [hfree] at e;cases e
  ·rw [hfree] at hc;cases hc
 rcases hx with hk | hk
 ·refine wpAny_storeName_local hk hn (fun h' hn' hs=>?_) hcls
  obtain⟨oL,_,_,hoL,_⟩:=id hn
  refine h _ ⟨I.ok,I.os,I.bare,⟨fun b o e n hb hx=>?_,fun b o e n hb hx=>?_,I.base.free,fun b o e hx=>?_,I.base.cq,I.base.fC,I.base.fX⟩,⟨_,hn',fun j y v' e1 e2 e3=>?_⟩,fun y c e=>?_,I.free,I.dz,fun p hp=>?_,tracked ⟨oL,hoL,I.free⟩ hs,by simpa using I.len⟩ ⟨_,hs,.inl rfl⟩
  ·exact (hs.2 b (Nat.ne_of_lt (Nat.lt_of_lt_of_le (Heap.lt_size e) I.ok.above))).trans (I.base.keep b o e n hb hx)
  ·obtain⟨sl,e1⟩:=I.base.slot b o e n hb hx
   exact⟨sl,(hs.2 b (Nat.ne_of_lt (Nat.lt_of_lt_of_le (Heap.lt_size e) I.ok.above))).trans e1⟩
  ·obtain⟨o',e1⟩:=I.base.there b o e hx
   exact⟨o',(hs.2 b (Nat.ne_of_lt (Nat.lt_of_lt_of_le (Heap.lt_size e) I.ok.above))).trans e1⟩
  ·by_cases hj:j=i
   ·subst hj
    rw [hi] at e1;cases e1
    rw [List.getElem?_set_self hiσ] at e2
    cases e2
    exact⟨u,r,.inl ⟨hk,by simp⟩⟩
   ·rw [List.getElem?_set_ne (Ne.symm hj)] at e2
    obtain⟨u',r',q⟩:=hl j y v' e1 e2 e3
    refine⟨u',r',?_⟩
    rcases q with ⟨k,e⟩ | ⟨k,c,e,z⟩
    ·refine .inl ⟨k,?_⟩
     have:y ≠ x:=fun e=>hj (jU hN e1 (e ▸ hi))
     simp [this,e]
    ·exact .inr ⟨k,c,e,z.sameBut hs (jT y c e)⟩
  ·obtain⟨w',z⟩:=I.cell y c e
   exact⟨w',z.sameBut hs (jT y c e)⟩
  ·obtain⟨e,n,ne,nf,d⟩:=I.pin p hp
   exact⟨(hs.2 p.1 ne).trans e,n,ne,nf,d⟩
 ·have hfn:X.fn x=true:=by
   rcases hf with z | z
   ·exact z
   ·rw [z] at hk;cases hk
  obtain⟨c,hc⟩:=I.ok.has x (.inl hk)
  obtain⟨w',z⟩:=I.cell x c hc
  refine wpAny_storeName_cell I.ok.kind hk hc z (fun h' hc' hs=>?_)
  obtain⟨oc,hoc,hocd⟩:=id z
  refine h { s with heap:=h' } ⟨I.ok,I.os,I.bare,⟨fun b o e n hb hx=>?_,fun b o e n hb hx=>?_,I.base.free,fun b o e hx=>?_,I.base.cq,I.base.fC,I.base.fX⟩,⟨m,hn.sameBut hs (Ne.symm (jT x c hc)),fun j y v' e1 e2 e3=>?_⟩,fun y c' e=>?_,I.free,I.dz,fun p hp=>?_,tracked ⟨oc,hoc,I.dz x c hc⟩ hs,by simpa using I.len⟩ ⟨c,hs,.inr hc⟩
  ·exact (hs.2 b (Nat.ne_of_lt (Nat.lt_of_lt_of_le (Heap.lt_size e) (I.ok.m8 x c hfn hc)))).trans (I.base.keep b o e n hb hx)
  ·obtain⟨sl,e1⟩:=I.base.slot b o e n hb hx
   exact⟨sl,(hs.2 b (Nat.ne_of_lt (Nat.lt_of_lt_of_le (Heap.lt_size e) (I.ok.m8 x c hfn hc)))).trans e1⟩
  ·obtain⟨o',e1⟩:=I.base.there b o e hx
   exact⟨o',(hs.2 b (Nat.ne_of_lt (Nat.lt_of_lt_of_le (Heap.lt_size e) (I.ok.m8 x c hfn hc)))).trans e1⟩
  ·by_cases hj:j=i
   ·subst hj
    rw [hi] at e1;cases e1
    rw [List.getElem?_set_self hiσ] at e2
    cases e2
    exact⟨u,r,.inr ⟨.inl hk,c,hc,hc'⟩⟩
   ·rw [List.getElem?_set_ne (Ne.symm hj)] at e2
    obtain⟨u',r',q⟩:=hl j y v' e1 e2 e3
    refine⟨u',r',?_⟩
    rcases q with q | ⟨k,c',e,z'⟩
    ·exact .inl q
    ·refine .inr ⟨k,c',e,z'.sameBut hs ?_⟩
     rintro rfl
     exact hj (jU hN e1 (I.ok.inj _ _ _ e hc ▸ hi))
  ·by_cases hcc:c' = c
   ·subst hcc;exact⟨_,hc'⟩
   ·obtain⟨w2,z2⟩:=I.cell y c' e
    exact⟨w2,z2.sameBut hs hcc⟩
  ·obtain⟨e,n,ne,nf,d⟩:=I.pin p hp
   refine⟨(hs.2 p.1 ?_).trans e,n,ne,nf,d⟩
   intro q
   rw [q,hoc] at e
   have q':oc=p.2:=Option.some.inj e
   exact d w' (by rw [<-q'];exact hocd)
theorem jV {M:Model} {A:Around} {E:Value->Shared->Prop} {i:Nat} {x:Str} {v:V} {u:Value} {Q:Unit->Shared->Prop} (I:Inv X pins σ H s) (hN:X.N.Nodup) (hi:X.N[i]? = some x) (hx:Loc X.env.scope x) (r:RelV v u)
  (h:∀ s',Inv X pins (σ.set i (some v)) H s'->Q () s') (hf:X.fn x=true\/X.env.scope.names.lookup x=some .local:=by first | exact .inl rfl | exact .inr rfl | assumption):wpAny M A (storeName X.env x u) Q E s :=
 jh I hN hi hx r (fun s' I' _=>h s' I') hf
theorem Inv.sj {s':Shared} {ch:List Addr} (I:Inv X pins σ H s) (ho:s'.os=s.os) (u:Un (fY X.stack) ch H H' s.heap s'.heap) (aK:b5 X.prog X.w H' s'.heap) (hg:AllBare s'.gens)
  (hch:∀ b ∈ ch,(b ∈ X.ex\/X.b6.heap.objs.size<=b)/\b ≠ X.env.locals/\(∀ x c,X.env.cells.lookup x=some c->c ≠ b)/\∀ p ∈ X.pn++pins,p.1 ≠ b):Inv X pins σ H' s':=by
 obtain⟨h',g',d',t',o'⟩:=s'
 have e:o' = s.os:=ho
 subst e
 exact I.call (g':=g') (t':=t') (d':=d') u aK hg hch
end
abbrev XK:=Value->Option Addr->Hp->Prop
abbrev St:=List (Option V)
abbrev VK:=V->Hp->Prop
abbrev TE:=St->Hp->VK->Prop
abbrev TT:=St->Hp->(Bool->Hp->Prop)->Prop
abbrev TA:=St->Hp->(List V->Hp->Prop)->Prop
structure Ends where
 nx:St->Hp->Prop
 rt:VK
 bk:St->Hp->Prop:=fun _ _=>False
 ct:St->Hp->Prop:=fun _ _=>False
abbrev TS:=Ends->St->Hp->Prop
def EP (X:Cx) (pins:List (Addr × Obj)) (σ : St) (Q:VK) (u:Value) (s':Shared):Prop:=∃ v H',Inv X pins σ H' s'/\RelV v u/\Q v H'
def TP (X:Cx) (pins:List (Addr × Obj)) (σ : St) (Q:Bool->Hp->Prop) (b:Bool) (s':Shared):Prop:=∃ H',Inv X pins σ H' s'/\Q b H'
def AP (X:Cx) (pins:List (Addr × Obj)) (σ : St) (Q:List V->Hp->Prop) (us:List Value) (s':Shared):Prop:=∃ vs H',Inv X pins σ H' s'/\Vals vs us/\Q vs H'
def SP (X:Cx) (pins:List (Addr × Obj)) (D:Ends) (f:Flow) (s':Shared):Prop :=
 match f with
 | .next=>∃ σ' H',Inv X pins σ' H' s'/\D.nx σ' H'
 | .brk=>∃ σ' H',Inv X pins σ' H' s'/\D.bk σ' H'
 | .cont=>∃ σ' H',Inv X pins σ' H' s'/\D.ct σ' H'
 | .ret u=>∃ v σ' H',Inv X pins σ' H' s'/\RelV v u/\D.rt v H'
def PE (X:Cx) (e:Expr) (t:TE):Prop :=
 ∀ (pins:List (Addr × Obj)) (s:Shared) (σ : St) (H:Hp) (Q:VK),Inv X pins σ H s->t σ H Q->wpAny (model X.prog X.w) X.A (eval e X.env) (EP X pins σ Q) X.xe s
def PT (X:Cx) (e:Expr) (t:TT):Prop :=
 ∀ (pins:List (Addr × Obj)) (s:Shared) (σ : St) (H:Hp) (Q:Bool->Hp->Prop),Inv X pins σ H s->t σ H Q->wpAny (model X.prog X.w) X.A (isTrue e X.env (eval e X.env)) (TP X pins σ Q) X.xe s
def PW (X:Cx) (e:Expr) (t:TT):Prop :=
 ∀ (whole:Sem Value) (pins:List (Addr × Obj)) (s:Shared) (σ : St) (H:Hp) (Q:Bool->Hp->Prop),Inv X pins σ H s->t σ H Q->wpAny (model X.prog X.w) X.A (isTrue e X.env whole) (TP X pins σ Q) X.xe s
theorem PW.pt {X:Cx} {e:Expr} {t:TT} (h:PW X e t):PT X e t:=h _
def PA (X:Cx) (es:List Expr) (t:TA):Prop :=
 ∀ (pos:Pos) (pins:List (Addr × Obj)) (s:Shared) (σ : St) (H:Hp) (Q:List V->Hp->Prop),Inv X pins σ H s->t σ H Q->wpAny (model X.prog X.w) X.A (spliced (backTo pos (starEach es X.env))) (AP X pins σ Q) X.xe s
def PS (X:Cx) (st:Stmt) (t:TS):Prop :=
 ∀ (pins:List (Addr × Obj)) (s:Shared) (σ : St) (H:Hp) (D:Ends),Inv X pins σ H s->t D σ H->wpAny (model X.prog X.w) X.A (exec st X.env) (SP X pins D) X.xe s
def eg (X:Cx) (st:List Stmt) (t:TS):Prop :=
 ∀ (pins:List (Addr × Obj)) (s:Shared) (σ : St) (H:Hp) (D:Ends),Inv X pins σ H s->t D σ H->wpAny (model X.prog X.w) X.A (execs st X.env) (SP X pins D) X.xe s
theorem aM {α : Type} {t:Sem α} {Q Q':α->Shared->Prop} {M:Model} {A:Around} {E:Value->Shared->Prop} {s:Shared} (h:wpAny M A t Q E s) (hQ:∀ a s,Q a s->Q' a s):wpAny M A t Q' E s:=wpAny_mono h hQ fun _ _ x=>x
section
variable {X:Cx}
inductive oq (i:Nat) (σ : St) (H:Hp) (Q:VK):Prop
 | mk (v:_) (_:σ[i]? = some (some v)) (_:Q v H)
def tC (v:V):TE:=fun _ H Q=>Q v H
theorem qS {i:Nat} {x:Str} {pos:Pos} (hN:X.N[i]? = some x) (hv:pE X.env.scope x) (hd:(x == ("__debug__" : Str))=false:=by decide) (hcd:(x == ("__classdict__" : Str))=false:=by decide):PE X (.Name x pos) (oq i):=by
 intro pins s σ H Q I h
 obtain⟨v,e,h⟩:=h
 obtain⟨m,hn,hl⟩:=I.loc
 obtain⟨u,r,l⟩:=hl i x v hN e hv
 have fin:EP X pins σ Q u s:=⟨v,H,I,r,h⟩
 rcases l with ⟨hk,hm⟩ | ⟨hk,c,hc,hcell⟩
 ·exact wpAny_Name (wpAny_loadName_local I.ok.kind hk hn hm fin) hd
 ·rcases hk with hk | hk
  ·exact wpAny_Name (wpAny_loadName_cell I.ok.kind hk hc hcell fin) hd
  ·exact wpAny_Name (wpAny_loadName_free I.ok.kind hk hc hcell fin hcd) hd
theorem aa {i j pos}:PE X (.Constant (.int i) j pos) (tC (.int i)):=fun _ _ _ H _ I h=>wpAny_Constant_int ⟨.int i,H,I.tok _,⟨_,rfl⟩,h⟩
theorem br {b j pos}:PE X (.Constant (.bool b) j pos) (tC (.bl b)):=fun _ _ _ H _ I h=>Constant_bool ⟨.bl b,H,I,rfl,h⟩
theorem m9 {j pos}:PE X (.Constant .none j pos) (tC .aO):=fun _ _ _ H _ I h=>Constant_none ⟨.aO,H,I,rfl,h⟩
theorem aQ {x j pos}:PE X (.Constant (.str x) j pos) (tC (.str x)):=fun _ _ _ H _ I h=>Calls.Constant_str ⟨.str x,H,I.tok _,⟨_,rfl⟩,h⟩
def Gl (X:Cx) (x:Str):Prop:=X.env.kindOf x=some .globalImplicit
theorem lp {E:Value->Shared->Prop} {pins:List (Addr × Obj)} {s:Shared} {σ : St} {H:Hp} {x:Str} {u:Value} {pos:Pos} {Q:Value->Shared->Prop} (I:Inv X pins σ H s) (hg:Gl X x) (hm:X.mg x=some u) (h:Q u s)
  (hd:(x == ("__debug__" : Str))=false:=by decide):wpAny (model X.prog X.w) X.A (eval (.Name x pos) X.env) Q E s :=
 Calls.Name_function_global I.ok.kind hg (Calls.loadGlobal_global (by rw [I.ok.glob];exact I.mod.glob.keeps I.bk) hm h) hd
theorem fZ {E:Value->Shared->Prop} {pins:List (Addr × Obj)} {s:Shared} {σ : St} {H:Hp} {x:Str} {u:Value} {pos:Pos} {Q:Value->Shared->Prop} (I:Inv X pins σ H s) (hg:Gl X x) (hm:X.mg x=none) (hv:bootBuiltins x=some u) (h:Q u s)
  (hn:x ≠ "__name__" := by decide) (hd:(x == ("__debug__" : Str))=false:=by decide):wpAny (model X.prog X.w) X.A (eval (.Name x pos) X.env) Q E s:=by
 obtain⟨mb,h1,h2⟩:=I.mod.blt
 exact Calls.Name_function_global I.ok.kind hg (Calls.loadGlobal_builtin (by rw [I.ok.glob];exact I.mod.glob.keeps I.bk) hm (by rw [I.ok.blt];exact h1.keeps I.bk) ((h2 x hn).trans hv) h) hd
theorem gS {x:Str} {v:V} {u:Value} {pos:Pos} (hg:Gl X x) (hm:X.mg x=some u) (r:RelV v u) (hd:(x == ("__debug__" : Str))=false:=by decide):PE X (.Name x pos) (tC v) :=
 fun _ _ _ H _ I h=>lp I hg hm ⟨v,H,I,r,h⟩ hd
theorem bf {x:Str} {v:V} {u:Value} {pos:Pos} (hg:Gl X x) (hm:X.mg x=none) (hv:bootBuiltins x=some u) (r:RelV v u) (hn:x ≠ "__name__" := by decide) (hd:(x == ("__debug__" : Str))=false:=by decide):PE X (.Name x pos) (tC v) :=
 fun _ _ _ H _ I h=>fZ I hg hm hv ⟨v,H,I,r,h⟩ hn hd
variable {a b:Expr} {ta tb:TE} {pos:Pos}
def PC (X:Cx) (op:CmpOp) (a b:Expr) (t:TE):Prop :=
 ∀ (pins:List (Addr × Obj)) (s:Shared) (σ : St) (H:Hp) (Q:VK),Inv X pins σ H s->t σ H Q ->
  wpAny (model X.prog X.w) X.A (eval a X.env) (fun v s₁=>wpAny (model X.prog X.w) X.A (eval b X.env) (fun u s₂=>wpAny (model X.prog X.w) X.A (compareOp op v u) (EP X pins σ Q) X.xe s₂) X.xe s₁) X.xe s
theorem ou (b:Expr) {op:CmpOp} (h:op ≠ .In) (h2:op ≠ .NotIn):behindInMarks op b=false:=by
 have e1:(op == CmpOp.In)=false:=by cases op <;> first | rfl | exact absurd rfl h
 have e2:(op == CmpOp.NotIn)=false:=by cases op <;> first | rfl | exact absurd rfl h2
 cases b <;> simp [behindInMarks,e1,e2]
def tF (ta:TE):TE:=fun σ H Q=>ta σ H fun x H1=>Q (.bl (decide (x=.aO))) H1
theorem RelV.ow {x:V} {v:Value} (r:RelV x v):(v == Value.none)=decide (x=.aO):=by
 cases x with
 | aO=>cases r;rfl
 | bl _=>cases r;rfl
 | int _=>obtain⟨t,rfl⟩:=r;rfl
 | str _=>obtain⟨t,rfl⟩:=r;rfl
 | fT _=>obtain⟨t,rfl⟩:=r;rfl
 | jP _=>obtain⟨t,rfl⟩:=r;rfl
 | ref _=>cases r;rfl
 | ty _=>cases r;rfl
theorem qT {j pos'} (ha:PE X a ta):PC X .Is a (.Constant .none j pos') (tF ta):=by
 intro pins s σ H Q I h
 refine aM (ha pins s σ H _ I h) fun v s1 ⟨x,H1,I1,r1,q1⟩=>?_
 exact Constant_none (is_none_gen ⟨.bl _,H1,I1,by rw [r1.ow];rfl,q1⟩)
inductive sk (Q:(Bool->Hp->Prop)) (x:V) (H1:Hp):Prop
 | mk (c:_) (_:x=.bl c) (_:Q c H1)
def tB (t:TE):TT:=fun σ H Q=>t σ H fun x H1=>sk Q x H1
theorem qU {op:CmpOp} {t:TE} (h:PC X op a b t) (h1:behindInMarks op b=false:=by first | exact ou _ (by decide) (by decide) | rfl):PT X (.Compare a [op] [b] pos) (tB t):=by
 intro pins s σ H Q I hw
 refine wpAny_isTrue_Compare1 (aM (h pins s σ H _ I hw) fun v s1 h1=>aM h1 fun u s2 h2=>aM h2 fun c s3 ⟨x,H1,I1,r1,q1⟩=>?_) h1
 obtain⟨d,rfl,q⟩:=q1
 cases r1
 exact wpAny_truthy_bool ⟨H1,I1,q⟩
theorem bA {e:Expr} {t:TE} (h:PE X e t) (he:∀ whole,isTrue e X.env whole=(do let v <-whole;standAt e.pos;holding [v] (truthy v)):=by intro _;rfl):PT X e (tB t):=by
 intro pins s σ H Q I hw
 refine isTrue_plain (aM (h pins s σ H _ I hw) fun v s1 ⟨x,H1,I1,r1,q1⟩=>?_) (he _)
 obtain⟨d,rfl,q⟩:=q1
 cases r1
 exact wpAny_truthy_bool ⟨H1,I1,q⟩
variable {tA tB':TT} {rest:List Expr}
def tG (t u:TT):TT:=fun σ H Q=>t σ H fun c H1=>if c=true then u σ H1 Q else Q false H1
def ue (t u:TT):TT:=fun σ H Q=>t σ H fun c H1=>if c=true then Q true H1 else u σ H1 Q
def tH (t:TT):TT:=fun σ H Q=>t σ H fun c H1=>Q (!c) H1
theorem iX (ha:PT X a tA):PW X (.BoolOp .And [a] pos) tA:=by
 intro wh pins s σ H Q I h
 refine isTrue_and (aM (ha pins s σ H Q I h) fun c s1 e=>?_)
 cases c with
 | true=>exact isTrue_and_nil e
 | false=>exact e
theorem bV (ha:PT X a tA):PW X (.BoolOp .Or [a] pos) tA:=by
 intro wh pins s σ H Q I h
 refine isTrue_or (aM (ha pins s σ H Q I h) fun c s1 e=>?_)
 cases c with
 | false=>exact isTrue_or_nil e
 | true=>exact e
theorem iG (ha:PT X a tA) (hb:PW X (.BoolOp .And (b :: rest) pos) tB'):PW X (.BoolOp .And (a :: b :: rest) pos) (tG tA tB'):=by
 intro wh pins s σ H Q I h
 refine isTrue_and (aM (ha pins s σ H _ I h) fun c s1 ⟨H1,I1,q1⟩=>?_)
 cases c with
 | true=>exact hb wh pins s1 σ H1 Q I1 q1
 | false=>exact⟨H1,I1,q1⟩
theorem bC (ha:PT X a tA) (hb:PW X (.BoolOp .Or (b :: rest) pos) tB'):PW X (.BoolOp .Or (a :: b :: rest) pos) (ue tA tB'):=by
 intro wh pins s σ H Q I h
 refine isTrue_or (aM (ha pins s σ H _ I h) fun c s1 ⟨H1,I1,q1⟩=>?_)
 cases c with
 | true=>exact⟨H1,I1,q1⟩
 | false=>exact hb wh pins s1 σ H1 Q I1 q1
theorem bB (ha:PT X a tA):PT X (.UnaryOp .Not a pos) (tH tA):=by
 intro pins s σ H Q I h
 exact isTrue_not (ha pins s σ H (fun c H1=>Q (!c) H1) I h)
inductive ox (tb:TE) (σ : St) (Q:VK) (x:V) (H1:Hp):Prop
 | mk (c:_) (_:x=.bl c) (_:if c=true then tb σ H1 Q else Q (.bl false) H1)
def sm (ta tb:TE):TE:=fun σ H Q=>ta σ H fun x H1=>ox tb σ Q x H1
inductive oy (Q:VK) (x:V) (H1:Hp):Prop
 | mk (c:_) (_:x=.bl c) (_:Q (.bl (!c)) H1)
def so (ta:TE):TE:=fun σ H Q=>ta σ H fun x H1=>oy Q x H1
theorem gc {op} {t:TE} (h:PE X a t):PE X (.BoolOp op [a] pos) t:=fun pins s σ H Q I hw=>BoolOp_one (h pins s σ H Q I hw)
theorem gd (ha:PE X a ta) (hb:PE X (.BoolOp .And (b :: rest) pos) tb):PE X (.BoolOp .And (a :: b :: rest) pos) (sm ta tb):=by
 intro pins s σ H Q I h
 refine BoolOp_and (aM (ha pins s σ H _ I h) fun v s1 ⟨x,H1,I1,r1,q1⟩=>?_)
 obtain⟨c,rfl,q1⟩:=q1
 cases r1
 refine wpAny_truthy_bool ?_
 cases c with
 | true=>exact hb pins s1 σ H1 Q I1 q1
 | false=>exact⟨.bl false,H1,I1,rfl,q1⟩
theorem nc (ha:PE X a ta):PE X (.UnaryOp .Not a pos) (so ta):=by
 intro pins s σ H Q I h
 refine UnaryOp_ (aM (ha pins s σ H _ I h) fun v s1 ⟨x,H1,I1,r1,q1⟩=>?_)
 obtain⟨c,rfl,q1⟩:=q1
 cases r1
 exact not_of (wpAny_truthy_bool ⟨.bl (!c),H1,I1,rfl,q1⟩)
end
def aW (K:PySem.W.Frag) (H:Hp) (a:Addr) (xs:List V):Prop :=
 Rd H a (.lst xs) \/
  ∃ (o:Obj) (its:Array Value) (n:Nat),K.lookup a=some o/\o.cls=.type "list" /\ o.dict=none/\o.data=.seq its n/\its.size<=sizeLine/\Vals xs its.toList
def aG (K:PySem.W.Frag) (H:Hp) (a:Addr) (xs:List V):Prop :=
 Rd H a (.tup xs) \/
  ∃ (o:Obj) (its:Array Value) (n:Nat),K.lookup a=some o/\o.cls=.type "tuple" /\ o.data=.seq its n/\its.size<=sizeLine/\Vals xs its.toList
def tI:Value->Option V
 | .none=>some .aO
 | .bool b=>some (.bl b)
 | .int i _=>some (.int i)
 | .str x _=>some (.str x)
 | .bytes b _=>some (.fT b)
 | .float b _=>some (.jP b)
 | .ref a=>some (.ref a)
 | .type n=>some (.ty n)
 | _=>none
theorem RelV.abs {x:V} {u:Value} (r:RelV x u):tI u=some x:=by
 cases x with
 | aO=>cases r;rfl
 | bl _=>cases r;rfl
 | int _=>obtain⟨t,rfl⟩:=r;rfl
 | str _=>obtain⟨t,rfl⟩:=r;rfl
 | fT _=>obtain⟨t,rfl⟩:=r;rfl
 | jP _=>obtain⟨t,rfl⟩:=r;rfl
 | ref _=>cases r;rfl
 | ty _=>cases r;rfl
theorem RelV.inj {x y:V} {u:Value} (r:RelV x u) (q:RelV y u):x=y:=Option.some.inj (r.abs.symm.trans q.abs)
theorem Vals.inj:∀ {xs ys:List V} {us:List Value},Vals xs us->Vals ys us->xs=ys
 | _,_,_,.nil,.nil=>rfl
 | _,_,_,.cons r t,.cons r' t'=>by rw [r.inj r',Vals.inj t t']
section
variable {X:Cx} {pins:List (Addr × Obj)} {σ : St} {H:Hp} {s:Shared} {a:Addr} {xs ys:List V}
theorem aW.of {K:PySem.W.Frag} (h:H a=some (.lst xs)):aW K H a xs:=.inl (.inl h)
theorem aG.of {K:PySem.W.Frag} (h:H a=some (.tup xs)):aG K H a xs:=.inl (.inl h)
theorem Inv.list (I:Inv X pins σ H s) (h:aW X.K H a xs):∃ its:List Value,Vals xs its/\PlainL s.heap a its.toArray/\xs.length<=sizeLine:=by
 rcases h with h | ⟨o,its,n,hk,hc,hd,hs,hz,r⟩
 ·obtain⟨z,its,n,r,e⟩:=h.ok I.aK
  exact⟨its,r,⟨_,n,e,rfl,rfl,rfl⟩,z⟩
 ·refine⟨its.toList,r,⟨o,n,I.cZ a o hk,hc,hd,by simpa using hs⟩,?_⟩
  have e:=r.length
  simp only [Array.length_toList] at e
  omega
theorem Inv.tuple (I:Inv X pins σ H s) (h:aG X.K H a xs):∃ its:List Value,Vals xs its/\IsTup s.heap a its.toArray/\xs.length<=sizeLine:=by
 rcases h with h | ⟨o,its,n,hk,hc,hs,hz,r⟩
 ·obtain⟨z,its,r,o,e,c,n,d,_⟩:=h.ok I.aK
  exact⟨its,r,⟨o,e,c,n,d⟩,z⟩
 ·refine⟨its.toList,r,⟨o,I.cZ a o hk,hc,n,by simpa using hs⟩,?_⟩
  have e:=r.length
  simp only [Array.length_toList] at e
  omega
theorem Inv.gf (I:Inv X pins σ H s) (h:aG X.K H a xs) (h':aG X.K H a ys):xs=ys:=by
 obtain⟨its,r,⟨o,e,_,n,d⟩,_⟩:=I.tuple h
 obtain⟨its',r',⟨o',e',_,n',d'⟩,_⟩:=I.tuple h'
 rw [e] at e';cases e'
 rw [d] at d'
 injection d' with d1 _
 have:its=its':=by simpa using congrArg Array.toList d1
 subst this
 exact r.inj r'
end
abbrev Cx.e4 (X:Cx) (E:Value->Shared->Prop):Cx:={ X with xe:=E }
abbrev Cx.ng (X:Cx):Cx:=X.e4 fun _ _=>False
theorem Cx.Ok.e4 {X:Cx} (ok:X.Ok) (E:Value->Shared->Prop):(X.e4 E).Ok :=
 ⟨ok.mod,ok.kind,ok.glob,ok.blt,ok.above,ok.inj,ok.has,ok.m8,ok.hd,ok.frames,ok.pF,ok.sU,ok.bs,ok.jg,ok.jS,ok.mq,ok.ef,ok.lh⟩
theorem Cx.Ok.dB {X:Cx} {E:Value->Shared->Prop} (ok:(X.e4 E).Ok):X.Ok :=
 ⟨ok.mod,ok.kind,ok.glob,ok.blt,ok.above,ok.inj,ok.has,ok.m8,ok.hd,ok.frames,ok.pF,ok.sU,ok.bs,ok.jg,ok.jS,ok.mq,ok.ef,ok.lh⟩
section
variable {X:Cx} {pins:List (Addr × Obj)} {σ : St} {H:Hp} {s:Shared} {E:Value->Shared->Prop}
theorem Inv.e4 (I:Inv X pins σ H s) (E:Value->Shared->Prop):Inv (X.e4 E) pins σ H s:=⟨I.ok.e4 E,I.os,I.bare,I.base,I.loc,I.cell,I.free,I.dz,I.pin,I.aK,I.len⟩
theorem Inv.dB (I:Inv (X.e4 E) pins σ H s):Inv X pins σ H s:=⟨I.ok.dB,I.os,I.bare,I.base,I.loc,I.cell,I.free,I.dz,I.pin,I.aK,I.len⟩
theorem SP.dB {D:Ends} {f:Flow} {s':Shared} (h:SP (X.e4 E) pins D f s'):SP X pins D f s':=by
 cases f with
 | next=>obtain⟨σ',H',I,q⟩:=h;exact⟨σ',H',I.dB,q⟩
 | brk=>obtain⟨σ',H',I,q⟩:=h;exact⟨σ',H',I.dB,q⟩
 | cont=>obtain⟨σ',H',I,q⟩:=h;exact⟨σ',H',I.dB,q⟩
 | ret u=>obtain⟨v,σ',H',I,r,q⟩:=h;exact⟨v,σ',H',I.dB,r,q⟩
theorem eg.ng {st:List Stmt} {t:TS} (h:eg X.ng st t):eg X st t:=fun pins s σ H D I hw =>
 wpAny_mono (h pins s σ H D (I.e4 _) hw) (fun _ _ q=>q.dB) fun _ _ z=>False.elim z
end
section
variable {X:Cx} {st:Stmt} {rest:List Stmt} {t u:TS} {e:Expr} {te:TE} {pos:Pos}
def sr:TS:=fun D σ H=>D.nx σ H
def qV (t u:TS):TS:=fun D σ H=>t { D with nx:=u D } σ H
theorem aH:eg X [] sr:=fun _ _ σ H _ I h=>wpAny_execs_nil ⟨σ,H,I,h⟩
theorem af (h1:PS X st t) (h2:eg X rest u):eg X (st :: rest) (qV t u):=by
 intro pins s σ H D I h
 refine wpAny_execs_cons (aM (h1 pins s σ H { D with nx:=u D } I h) fun f s1 q=>?_)
 cases f with
 | next =>
  obtain⟨σ',H',I',q⟩:=q
  exact h2 pins s1 σ' H' D I' q
 | ret v=>exact q
 | brk=>exact q
 | cont=>exact q
theorem ah (h1:PS X st t):eg X [st] t:=by
 intro pins s σ H D I h
 refine wpAny_execs_cons (aM (h1 pins s σ H D I h) fun f s1 q=>?_)
 cases f with
 | next=>exact wpAny_execs_nil q
 | ret v=>exact q
 | brk=>exact q
 | cont=>exact q
theorem Inv.quiet {pins:List (Addr × Obj)} {σ : St} {H:Hp} {s:Shared} (I:Inv X pins σ H s):interactive X.env=false:=by simp [interactive,I.ok.kind]
def pG (te:TE):TS:=fun D σ H=>te σ H fun _ H1=>D.nx σ H1
theorem iY (he:PE X e te) (hs:swapsWith e none pos.line X.env=pure false:=by rfl):PS X (.Expr e pos) (pG te):=by
 intro pins s σ H D I h
 exact wpAny_Expr_any (aM (he pins s σ H _ I h) fun v s1 ⟨x,H1,I1,r1,q1⟩=>⟨σ,H1,I1,q1⟩) I.quiet hs
def qW (te:TE):TS:=fun D σ H=>te σ H D.rt
theorem ao (he:PE X e te):PS X (.Return (some e) pos) (qW te):=by
 intro pins s σ H D I h
 exact wpAny_Return_some (aM (he pins s σ H _ I h) fun v s1 ⟨x,H1,I1,r1,q1⟩=>⟨x,σ,H1,I1,r1,q1⟩)
def tJ (c:TT) (t u:TS):TS:=fun D σ H=>c σ H fun b H1=>if b=true then t D σ H1 else u D σ H1
theorem aR {c:Expr} {a b:List Stmt} {tc:TT} (hc:PT X c tc) (ha:eg X a t) (hb:eg X b u):PS X (.If c a b pos) (tJ tc t u):=by
 intro pins s σ H D I h
 refine wpAny_If (aM (hc pins s σ H _ I h) fun d s1 ⟨H1,I1,q1⟩=>?_)
 cases d with
 | true=>exact ha pins s1 σ H1 D I1 q1
 | false=>exact hb pins s1 σ H1 D I1 q1
end
abbrev TG:=V->St->Hp->(St->Hp->Prop)->Prop
abbrev jW:=List V->St->Hp->(St->Hp->Prop)->Prop
def PG (X:Cx) (target:Expr) (t:TG):Prop :=
 ∀ (pins:List (Addr × Obj)) (s:Shared) (σ : St) (H:Hp) (v:V) (u:Value) (Q:St->Hp->Prop),Inv X pins σ H s->RelV v u->t v σ H Q ->
  wpAny (model X.prog X.w) X.A (assign target X.env u) (fun _ s'=>∃ σ' H',Inv X pins σ' H' s'/\Q σ' H') X.xe s
def pH (X:Cx) (ts:List Expr) (t:jW):Prop :=
 ∀ (pins:List (Addr × Obj)) (s:Shared) (σ : St) (H:Hp) (vs:List V) (us:List Value) (Q:St->Hp->Prop),Inv X pins σ H s->Vals vs us->t vs σ H Q ->
  wpAny (model X.prog X.w) X.A (assignInOrder ((assignEach ts X.env).map (·.2)) us) (fun _ s'=>∃ σ' H',Inv X pins σ' H' s'/\Q σ' H') X.xe s
abbrev oz:=V->V->V->Hp->(Hp->Prop)->Prop
def qX (X:Cx) (t:oz):Prop :=
 ∀ (pins:List (Addr × Obj)) (s:Shared) (σ : St) (H:Hp) (o i v:V) (ov iv u:Value) (Q:Hp->Prop),Inv X pins σ H s->RelV o ov->RelV i iv->RelV v u->t o i v H Q ->
  wpAny (model X.prog X.w) X.A (setItem ov iv u) (fun _ s'=>∃ H',Inv X pins σ H' s'/\Q H') X.xe s
section
variable {X:Cx} {pos:Pos}
def fE (i:Nat):TG:=fun v σ H Q=>Q (σ.set i (some v)) H
theorem pZ {i:Nat} {x:Str} (hN:X.N.Nodup) (hi:X.N[i]? = some x) (hx:Loc X.env.scope x) (hf:X.fn x=true\/X.env.scope.names.lookup x=some .local:=by first | exact .inl rfl | exact .inr rfl | assumption):PG X (.Name x pos) (fE i):=by
 intro pins s σ H v u Q I r h
 exact wpAny_assign_Name (jV I hN hi hx r (fun s' I'=>⟨_,H,I',h⟩) hf)
def tK:jW:=fun vs σ H Q=>vs = []/\Q σ H
inductive sv (t:TG) (u:jW) (vs:List V) (σ : St) (H:Hp) (Q:(St->Hp->Prop)):Prop
 | mk (v r:_) (_:vs=v :: r) (_:t v σ H fun σ' H'=>u r σ' H' Q)
theorem lq:pH X [] tK:=by
 intro pins s σ H vs us Q I r h
 obtain⟨e,h⟩:=h
 subst e
 cases r
 exact assignInOrder_nil ⟨σ,H,I,h⟩
theorem fF {e:Expr} {es:List Expr} {t:TG} {u:jW} (h1:PG X e t) (h2:pH X es u)
  (hs:(assignEach (e :: es) X.env).map (·.2)=assign e X.env :: (assignEach es X.env).map (·.2):=by rfl):pH X (e :: es) (sv t u):=by
 intro pins s σ H vs us Q I r h
 obtain⟨v,vr,e1,h⟩:=h
 subst e1
 cases r with
 | cons r rr =>
  rw [hs]
  refine assignInOrder_cons (aM (h1 pins s σ H _ _ _ I r h) fun _ s1 ⟨σ1,H1,I1,q1⟩=>?_)
  exact h2 pins s1 σ1 H1 _ _ Q I1 rr q1
inductive oA (K:PySem.W.Frag) (n:Nat) (t:jW) (v:V) (σ : St) (H:Hp) (Q:(St->Hp->Prop)):Prop
 | mk (a xs:_) (_:v=.ref a) (_:aG K H a xs) (_:xs.length=n) (_:t xs σ H Q)
theorem nh {es:List Expr} {k:Nat} {t:jW} {n:Nat} (hc:X.calm=true) (h:pH X es t)
  (hn:(assignEach es X.env).length=n:=by rfl) (hst:(assignEach es X.env).findIdx? (·.1)=none:=by rfl):PG X (.Tuple es k pos) (oA X.K n t):=by
 intro pins s σ H v u Q I r hw
 obtain⟨a,xs,e1,hq,hl,hw⟩:=hw
 subst e1
 cases r
 obtain⟨its,rv,ht,hz⟩:=I.tuple hq
 refine assign_Tuple_tuple (I.ok.hd hc) ht (by simp [hn,<-hl,rv.length]) hst fun h' hx=>?_
 have I1:Inv X pins σ H { s with heap:=h' }:=I.kept (t':=s.toks) fun b o e=>hx b o (Nat.ne_of_lt (Heap.lt_size e)) e
 exact h pins _ σ H xs _ Q I1 (by simpa using rv) hw
def tL (to ti:TE) (t:oz):TG:=fun v σ H Q=>to σ H fun o H1=>ti σ H1 fun i H2=>t o i v H2 fun H3=>Q σ H3
theorem jX {o i:Expr} {to ti:TE} {t:oz} (ho:PE X o to) (hi:PE X i ti) (hs:qX X t)
  (ha:∀ v,assign (.Subscript o i pos) X.env v=(do
   let ov <-holding [v] (eval o X.env)
   let iv <-holding [v,ov] (eval i X.env)
   standAt pos
   holding [v,ov,iv] (setItem ov iv v)
   release [v,ov,iv] []):=by intro _;rfl):PG X (.Subscript o i pos) (tL to ti t):=by
 intro pins s σ H v u Q I r h
 rw [ha]
 refine wpAny_bind (wpAny_holding (aM (ho pins s σ H _ I h) fun ov s1 ⟨x,H1,I1,r1,q1⟩=>?_))
 refine wpAny_bind (wpAny_holding (aM (hi pins s1 σ H1 _ I1 q1) fun iv s2 ⟨y,H2,I2,r2,q2⟩=>?_))
 refine wpAny_bind (wpAny_standAt (wpAny_bind (wpAny_holding (aM (hs pins s2 σ H2 x y v ov iv u _ I2 r1 r2 r q2) fun _ s3 ⟨H3,I3,q3⟩=>?_))))
 exact wpAny_release ⟨σ,H3,I3,q3⟩
def jY (te:TE) (g:TG):TS:=fun D σ H=>te σ H fun x H1=>g x σ H1 D.nx
theorem iH {tg e:Expr} {te:TE} {g:TG} (he:PE X e te) (hg:PG X tg g) (hs:swapsWithSole [tg] e pos.line X.env=pure false:=by rfl) (hw:swappedStores [tg] e X.env=pure none:=by rfl)
  (h1:(assignEach [tg] X.env).map (·.2) = [assign tg X.env]:=by rfl):PS X (.Assign [tg] e pos) (jY te g):=by
 intro pins s σ H D I h
 refine wpAny_Assign_stores (aM (he pins s σ H _ I h) fun v s1 ⟨x,H1,I1,r1,q1⟩=>?_) hs hw
 rw [h1]
 exact aM (hg pins s1 σ H1 x v _ I1 r1 q1) fun _ s2 q=>q
theorem qY {i:Nat} {x:Str} {e:Expr} {te:TE} {pos':Pos} (hN:X.N.Nodup) (hi:X.N[i]? = some x) (hx:Loc X.env.scope x) (he:PE X e te) (hs:swapsWith e (some (.Name x pos')) pos.line X.env=pure false:=by rfl) (hf:X.fn x=true\/X.env.scope.names.lookup x=some .local:=by first | exact .inl rfl | exact .inr rfl | assumption) :
  PS X (.Assign [.Name x pos'] e pos) (jY te (fE i)):=by
 intro pins s σ H D I h
 refine wpAny_Assign_Name (aM (he pins s σ H _ I h) fun v s1 ⟨y,H1,I1,r1,q1⟩=>?_) hs
 exact jV I1 hN hi hx r1 (fun s2 I2=>⟨_,H1,I2,q1⟩) hf
end
section
variable {X:Cx} {pos:Pos}
end
structure It where
 go:Nat->Hp->Prop
 ni:Nat->Hp->V->Hp->Prop
 stop:Nat->Hp->Prop
def eh (X:Cx) (pins:List (Addr × Obj)) (H:Hp) (b:Addr):Prop :=
 H b=none/\b ≠ X.env.locals/\b ∉ X.fs/\(b ∈ X.ex\/X.b6.heap.objs.size<=b)/\(∀ x c,X.env.cells.lookup x=some c->c ≠ b)/\∀ p ∈ X.pn++pins,p.1 ≠ b
theorem Inv.il {X:Cx} {pins:List (Addr × Obj)} {σ : St} {H H':Hp} {s:Shared} {b:Addr} (I:Inv X pins σ H s) (hb:s.heap.objs.size<=b) (hn:H' b=none):eh X pins H' b:=by
 refine⟨hn,Nat.ne_of_gt (Nat.lt_of_lt_of_le I.lt hb),I.tE hb,.inr (Nat.le_trans I.sz hb),fun x c e z=>?_,fun p hp z=>?_⟩
 ·obtain⟨v,q⟩:=I.cell x c e
  exact absurd (Nat.lt_of_lt_of_le q.lt (by rw [z];exact hb)) (Nat.lt_irrefl _)
 ·exact absurd (Nat.lt_of_lt_of_le (Heap.lt_size (I.pin p hp).1) (by rw [z];exact hb)) (Nat.lt_irrefl _)
structure Turn (P:Program) (w:World) (K:PySem.W.Frag) (tg:Expr) (J:It) (fp:List Addr) (it:Addr) (tn:Nat->Heap->Prop):Prop where
 mem:it ∈ fp
 obj:∀ i h,tn i h->∀ b ∈ fp,∃ o,h.get? b=some o/\∀ v,o.data ≠ .cell v
 keep:∀ i h h',tn i h->(∀ b ∈ fp,∀ o,h.get? b=some o->h'.get? b=some o)->tn i h'
 item:∀ (X:Cx),X.prog=P->X.w=w->X.K=K->X.calm=true->∀ (i:Nat) (pins:List (Addr × Obj)) (s:Shared) (σ : St) (H:Hp) (E:Value->Shared->Prop),Inv X pins σ H s->(∀ b ∈ fp,eh X pins H b)->tn i s.heap->J.go i H ->
  wpAny (model P w) X.A (pyNext (.ref it)) (fun r s1=>∃ u,r=some u /\
   wpAny (model P w) X.A (letOwnedTupleGo tg (.ref it) u) (fun _ s2=>∃ x H',Inv X pins σ H' s2/\RelV x u/\J.ni i H x H'/\tn (i+1) s2.heap/\∀ b ∈ fp,H' b=none) E s1) E s
 done:∀ (X:Cx),X.prog=P->X.w=w->X.K=K->X.calm=true->∀ (i:Nat) (pins:List (Addr × Obj)) (s:Shared) (σ : St) (H:Hp) (E:Value->Shared->Prop),Inv X pins σ H s->(∀ b ∈ fp,eh X pins H b)->tn i s.heap->J.stop i H ->
  wpAny (model P w) X.A (pyNext (.ref it)) (fun r s1=>r=none/\Inv X pins σ H s1) E s
 self:∀ (A:Around) (i:Nat) (s:Shared) (Q:Value->Shared->Prop) (E:Value->Shared->Prop),tn i s.heap->Q (.ref it) s->wpAny (model P w) A (pyIter (.ref it)) Q E s
abbrev TI:=St->Hp->(It->Hp->Prop)->Prop
def sV (X:Cx) (pins:List (Addr × Obj)) (σ : St) (tg:Expr) (R:It->Hp->Prop) (itv:Value) (s2:Shared):Prop :=
 ∃ (it:Addr) (fp:List Addr) (tn:Nat->Heap->Prop) (J:It) (H':Hp),itv=.ref it/\Inv X pins σ H' s2/\Turn X.prog X.w X.K tg J fp it tn/\tn 0 s2.heap/\(∀ b ∈ fp,eh X pins H' b)/\R J H'
def PI (X:Cx) (tg iter:Expr) (wi:TI):Prop :=
 ∀ (pins:List (Addr × Obj)) (s:Shared) (σ : St) (H:Hp) (R:It->Hp->Prop),Inv X pins σ H s->wi σ H R ->
  wpAny (model X.prog X.w) X.A (eval iter X.env) (fun v s1=>wpAny (model X.prog X.w) X.A (pyIter v) (sV X pins σ tg R) X.xe s1) X.xe s
theorem mr {M:Model} {A:Around} {E:Value->Shared->Prop} {s:Shared} {tg:Expr} {it:Addr} {u:Value} {o:Obj} {n:String} {vs:Array Value} {Q:Unit->Shared->Prop} (ho:s.heap.get? it=some o) (hc:o.cls=.type n) (hd:o.data=.fields vs)
    (hn:["enumerate", "zip", "dict_itemiterator", "dict_reverseitemiterator", "odict_iterator", "itertools.zip_longest", "itertools.pairwise"].contains n=false) (hQ:Q () s):wpAny M A (letOwnedTupleGo tg (.ref it) u) Q E s:=by
  unfold letOwnedTupleGo
  cases tg <;> first
    | exact wpAny_pure hQ
    | (cases u <;> first
        | exact wpAny_pure hQ
        | (refine wpAny_bind (wpAny_load ho ?_)
           rw [hc,hd]
           show wpAny M A (if (["enumerate", "zip", "dict_itemiterator", "dict_reverseitemiterator", "odict_iterator", "itertools.zip_longest", "itertools.pairwise"].contains n && vs[0]? == some (rawInt _))=true then _ else _) Q E s
           rw [if_neg (by intro h;rw [hn,Bool.false_and] at h;cases h)]
           exact wpAny_pure hQ))
def lr (K:PySem.W.Frag) (a:Addr):It :=
 ⟨fun i H=>∃ xs x,aG K H a xs/\xs[i]? = some x,fun i H x H'=>H' = H/\∀ xs,aG K H a xs->xs[i]? = some x,fun i H=>∃ xs,aG K H a xs/\xs.length<=i⟩
def jZ (lo:Int) (n:Nat):It:=⟨fun i _=>i < n,fun i H x H'=>H' = H/\x=.int (lo+i),fun i _=>n<=i⟩
theorem mv {P:Program} {w:World} {K:PySem.W.Frag} {tg:Expr} (a it:Addr):Turn P w K tg (lr K a) [it] it (fun i h=>h.IsTupleIter it a i) where
 mem:=by simp
 obj:=fun i h st b hb=>by
  have e:b=it:=by simpa using hb
  subst e
  obtain⟨o,e,c,d⟩:=st
  exact⟨o,e,fun v z=>by rw [d] at z;cases z⟩
 keep:=fun i h h' st k=>st.at fun o e=>k it (by simp) o e
 item:=by
  intro X hP hw hK hc i pins s σ H E I hf st hg
  subst hP hw hK
  obtain⟨xs,x,hq,hx⟩:=hg
  obtain⟨its,rv,p,hz⟩:=I.tuple hq
  obtain⟨u,hu,ru⟩:=rv.get hx
  obtain⟨f0,f1,f2,f3,f4,f5⟩:=hf it (by simp)
  refine wpAny_pyNext_tuple_item st (show s.heap.IsTuple a its.toArray from p) (x:=u) (by simpa using hu) fun h' st' sb=>?_
  have I1:Inv X pins σ H { s with heap:=h' }:=I.turned (t':=s.toks) (fun b o hb e=>(sb.2 b hb).trans e) f0 f1 f3 f4 f5
  obtain⟨o,e,c,d⟩:=id st'
  exact⟨u,rfl,mr (s:={ s with heap:=h' }) e c d (by decide) ⟨x,H,I1,ru,⟨rfl,fun ys hy=>by rw [I.gf hy hq];exact hx⟩,st',fun b hb=>(hf b hb).1⟩⟩
 done:=by
  intro X hP hw hK hc i pins s σ H E I hf st hg
  subst hP hw hK
  obtain⟨xs,hq,hx⟩:=hg
  obtain⟨its,rv,p,hz⟩:=I.tuple hq
  obtain⟨f0,f1,f2,f3,f4,f5⟩:=hf it (by simp)
  have hl:=rv.length
  exact wpAny_pyNext_tuple_end (I.ok.hd hc) st (show s.heap.IsTuple a its.toArray from p) (by simp;omega) fun h' eb=>⟨rfl,I.turned (t':=s.toks) (fun b o hb e=>eb b o hb e) f0 f1 f3 f4 f5⟩
 self:=fun _ _ _ _ _ st h=>wpAny_pyIter_tupleiter st h
theorem mw {P:Program} {w:World} {K:PySem.W.Frag} {tg:Expr} (it:Addr) (lo:Int) (n:Nat):Turn P w K tg (jZ lo n) [it] it (fun i h=>IsRangeIter h it (lo+(i:Nat) * 1) ((n:Int) - (i:Nat)) 1) where
 mem:=by simp
 obj:=fun i h st b hb=>by
  have e:b=it:=by simpa using hb
  subst e
  exact⟨_,st,fun v z=>by
   have z':Data.fields _=Data.cell v:=z
   cases z'⟩
 keep:=fun i h h' st k=>k it (by simp) _ st
 item:=by
  intro X hP hw hK hc i pins s σ H E I hf st hg
  subst hP hw hK
  obtain⟨f0,f1,f2,f3,f4,f5⟩:=hf it (by simp)
  have W:=Walks.range (prog:=X.prog) (w:=X.w) (I.ok.hd hc) it lo 1 n
  refine W.item i s _ _ hg st fun v h' tk hv st' kk=>?_
  obtain⟨t,rfl⟩:=hv
  have I1:Inv X pins σ H { s with heap:=h',toks:=tk }:=I.turned (fun b o hb e=>kk b o (by simpa using hb) e) f0 f1 f3 f4 f5
  refine⟨_,rfl,mr (s:={ s with heap:=h',toks:=tk }) (n := "range_iterator") st' rfl rfl (by decide) ⟨.int (lo+i),H,I1,⟨t,?_⟩,⟨rfl,rfl⟩,st',fun b hb=>(hf b hb).1⟩⟩
  rw [Int.mul_one]
 done:=by
  intro X hP hw hK hc i pins s σ H E I hf st hg
  subst hP hw hK
  obtain⟨f0,f1,f2,f3,f4,f5⟩:=hf it (by simp)
  exact wpAny_pyNext_range_end (I.ok.hd hc) st (by have:n<=i:=hg;omega) fun h' eb=>⟨rfl,I.turned (t':=s.toks) (fun b o hb e=>eb b o hb e) f0 f1 f3 f4 f5⟩
 self:=fun _ _ _ _ _ st h=>wpAny_pyIter_rangeiter st h
section
variable {X:Cx} {tg:Expr}
inductive p7 (K:PySem.W.Frag) (R:(It->Hp->Prop)) (x:V) (H1:Hp):Prop
 | mk (a:_) (_:x=.ref a) (_:(∃ xs,aG K H1 a xs)) (_:R (lr K a) H1)
def tM (K:PySem.W.Frag) (tl:TE):TI:=fun σ H R=>tl σ H fun x H1=>p7 K R x H1
theorem gg {l:Expr} {tl:TE} (hl:PE X l tl):PI X tg l (tM X.K tl):=by
 intro pins s σ H R I h
 refine aM (hl pins s σ H _ I h) fun v s1 ⟨x,H1,I1,r1,q1⟩=>?_
 obtain⟨a,e,⟨xs,hq⟩,q⟩:=q1
 subst e
 cases r1
 obtain⟨its,rv,p,hz⟩:=I1.tuple hq
 refine wpAny_pyIter_tuple (show s1.heap.IsTuple a its.toArray from p) ?_
 refine⟨s1.heap.objs.size,[s1.heap.objs.size],_,_,H1,rfl,I1.kept (t':=s1.toks) fun b o e=>Heap.get?_push_of_some _ e,mv a _,⟨_,Heap.get?_push_size _ rfl,rfl,rfl⟩,fun b hb=>?_,q⟩
 have e:b=s1.heap.objs.size:=by simpa using hb
 subst e
 exact I1.il (Nat.le_refl _) (I1.aK.fresh (Nat.le_refl _))
theorem oB {pins:List (Addr × Obj)} {σ : St} {H:Hp} {s:Shared} {R:It->Hp->Prop} {E:Value->Shared->Prop} {lo hi:Int} {t u v:Tok} {tk:Nat} (I:Inv X pins σ H s) (h1:-(2 ^ 62)<=lo) (h2:lo < 2 ^ 62) (h3:-(2 ^ 62)<=hi) (h4:hi < 2 ^ 62)
  (q:R (jZ lo (hi - lo).toNat) H):wpAny (model X.prog X.w) X.A (pyIter (.ref s.heap.objs.size)) (sV X pins σ tg R) E { s with heap:=s.heap.push { cls:=.type "range",data:=.fields #[.int lo t,.int hi u,.int 1 v] },toks:=tk }:=by
 refine wpAny_pyIter_range (IsRange.new ..) (small_one h1 h2 h3 h4) ?_
 have I1:Inv X pins σ H { s with heap:=s.heap.push { cls:=.type "range",data:=.fields #[.int lo t,.int hi u,.int 1 v] },toks:=tk }:=I.kept fun b o e=>Heap.get?_push_of_some _ e
 refine⟨(s.heap.push { cls:=.type "range",data:=.fields #[.int lo t,.int hi u,.int 1 v] }).objs.size,[(s.heap.push { cls:=.type "range",data:=.fields #[.int lo t,.int hi u,.int 1 v] }).objs.size],_,_,H,rfl,
  I1.kept (t':=tk) fun b o e=>Heap.get?_push_of_some _ e,mw _ lo (hi - lo).toNat,?_,fun b hb=>?_,q⟩
 ·have e1:lo+((0:Nat):Int) * 1=lo:=by simp
  have e2:(((hi - lo).toNat:Nat):Int) - ((0:Nat):Int)=Builtin.Range.rangeSize lo hi 1:=by rw [rangeSize_one];split <;> omega
  show IsRangeIter _ _ (lo+((0:Nat):Int) * 1) ((((hi - lo).toNat:Nat):Int) - ((0:Nat):Int)) 1
  rw [e1,e2]
  exact Heap.get?_push_size _ rfl
 ·have e:b=(s.heap.push { cls:=.type "range",data:=.fields #[.int lo t,.int hi u,.int 1 v] }).objs.size:=by simpa using hb
  subst e
  exact I1.il (Nat.le_refl _) (I1.aK.fresh (Nat.le_refl _))
inductive oC (R:(It->Hp->Prop)) (vs:List V) (H1:Hp):Prop
 | mk (j:Int) (_:vs = [.int j]) (_:-(2 ^ 62)<=j) (_:j < 2 ^ 62) (_:R (jZ 0 j.toNat) H1)
def sx (ta:TA):TI:=fun σ H R=>ta σ H fun vs H1=>oC R vs H1
theorem dC {a:Expr} {ta:TA} {p pos:Pos} (hg:Gl X "range") (hm:X.mg "range" = none) (ha:PA X [a] ta) (hs:starEach [a] X.env = [(false,eval a X.env)]:=by rfl):PI X tg (.Call (.Name "range" p) [a] [] pos) (sx ta):=by
 intro pins s σ H R I h
 refine Call_ (fZ I hg hm boot_range (PyProof.Rows.callWith_type1 (aM (ha pos pins s σ H _ I h) fun us s1 ⟨vs,H1,I1,r1,q1⟩=>?_) hs rfl))
 obtain⟨j,e,q1,q2,q⟩:=q1
 subst e
 cases r1 with
 | cons r rr =>
  cases rr
  obtain⟨t,rfl⟩:=r
  exact call_range_1 (oB I1 (by omega) (by omega) q1 q2 (by simpa using q))
def tN (wi:TI) (g:TG) (tb:TS):TS:=fun D σ H=>wi σ H fun J H1=>∃ W:Nat->Nat->St->Hp->Prop,(∃ m,W 0 m σ H1)/\∀ i m σ H,W i m σ H ->
 (J.stop i H/\D.nx σ H)\/(J.go i H/\∃ N:St->Hp->Prop,(∀ σ' H',N σ' H'->∃ m',m' < m/\W (i+1) m' σ' H')/\∀ x H',J.ni i H x H'->g x σ H' fun σ2 H2=>tb { D with nx:=N,ct:=N,bk:=D.nx } σ2 H2)
def gh (fp:List Addr) (h:Heap):List (Addr × Obj):=fp.filterMap fun b=>(h.get? b).map fun o=>(b,o)
theorem dP {fp:List Addr} {h:Heap} {b:Addr} {o:Obj} (hb:b ∈ fp) (e:h.get? b=some o):(b,o) ∈ gh fp h:=List.mem_filterMap.mpr ⟨b,hb,by rw [e];rfl⟩
theorem nj {fp:List Addr} {h:Heap} {p:Addr × Obj} (hp:p ∈ gh fp h):p.1 ∈ fp/\h.get? p.1=some p.2:=by
 obtain⟨b,hb,e⟩:=List.mem_filterMap.mp hp
 cases q:h.get? b with
 | none=>rw [q] at e;cases e
 | some o =>
  rw [q] at e
  have e':(b,o)=p:=Option.some.inj e
  subst e'
  exact⟨hb,q⟩
theorem Inv.pinned {pins:List (Addr × Obj)} {σ : St} {H:Hp} {s:Shared} {fp:List Addr} (I:Inv X pins σ H s) (hf:∀ b ∈ fp,eh X pins H b) (ho:∀ b ∈ fp,∃ o,s.heap.get? b=some o/\∀ v,o.data ≠ .cell v):Inv X (pins++gh fp s.heap) σ H s :=
 I.ll fun p hp=>(List.mem_append.mp hp).elim (fun z=>I.pin p (List.mem_append_right _ z)) fun z=>by
  obtain⟨hb,e⟩:=nj z
  obtain⟨f0,f1,f2,_⟩:=hf p.1 hb
  obtain⟨o,e',d⟩:=ho p.1 hb
  rw [e] at e';cases e'
  exact⟨e,f0,f1,f2,d⟩
theorem Inv.ei {pins pl:List (Addr × Obj)} {σ : St} {H:Hp} {s:Shared} (I:Inv X (pins++pl) σ H s):Inv X pins σ H s:=I.ll fun p hp=>I.pin p (List.mem_append_right _ (List.mem_append_left _ hp))
theorem gi {iter:Expr} {body:List Stmt} {wi:TI} {g:TG} {tb:TS} {pos:Pos} (hp:PassesOwn (model X.prog X.w) X.A X.env X.xe) (hc:X.calm=true) (hi:PI X tg iter wi) (hg:PG X tg g) (hb:eg X body tb)
  (hs:∀ x,foldedSetIterable iter X.env x=pure x:=by intro _;rfl):PS X (.For tg iter body [] pos) (tN wi g tb):=by
 intro pins s σ H D I h
 refine wpAny_For (aM (hi pins s σ H _ I h) fun v s1 h1=>aM h1 fun itv s2 h2=>?_) hs
 obtain⟨it,fp,tn,J,H2,e,I2,T,st2,f2,W,⟨m0,w0⟩,turn⟩:=h2
 subst e
 have stat:∀ {H':Hp},(∀ b ∈ fp,H' b=none)->∀ b ∈ fp,eh X pins H' b:=fun hn b hb=>⟨hn b hb,(f2 b hb).2⟩
 refine codeAny_forLoop_any (fun n s'=>∃ i σ' H',Inv X pins σ' H' s'/\tn i s'.heap/\(∀ b ∈ fp,H' b=none)/\W i n σ' H') ?_ m0 ⟨0,σ,H2,I2,st2,fun b hb=>(f2 b hb).1,w0⟩
 rintro n s3 ⟨i,σ3,H3,I3,st3,fr3,w3⟩
 rcases turn i n σ3 H3 w3 with ⟨stop,qn⟩ | ⟨go,N,hN,step⟩
 ·refine wpAny_passesOwn hp (aM (T.done X rfl rfl rfl hc i pins s3 σ3 H3 X.xe I3 (stat fr3) st3 stop) fun r s4 ⟨hr,I4⟩=>?_)
  subst hr
  exact wpAny_execs_nil ⟨σ3,H3,I4,qn⟩
 ·refine wpAny_passesOwn hp (aM (T.item X rfl rfl rfl hc i pins s3 σ3 H3 X.xe I3 (stat fr3) st3 go) fun r s4 ⟨u,hr,h4⟩=>?_)
  subst hr
  refine wpAny_passesOwn hp (aM h4 fun _ s5 ⟨x,H5,I5,r5,y5,st5,fr5⟩=>?_)
  have I5':=I5.pinned (stat fr5) (T.obj _ _ st5)
  refine wpAny_passesOwn hp (aM (hg _ s5 σ3 H5 x u _ I5' r5 (step x H5 y5)) fun _ s6 ⟨σ6,H6,I6,q6⟩=>?_)
  refine wpAny_passesOwn hp (aM (hb _ s6 σ6 H6 _ I6 q6) fun f s7 q7=>?_)
  have again:∀ {σ7:St} {H7:Hp},Inv X (pins++gh fp s5.heap) σ7 H7 s7->N σ7 H7->∃ m,m < n/\∃ i σ' H',Inv X pins σ' H' s7/\tn i s7.heap/\(∀ b ∈ fp,H' b=none)/\W i m σ' H':=fun {σ7 H7} I7 n7=>by
   obtain⟨m',hm,w7⟩:=hN σ7 H7 n7
   refine⟨m',hm,i+1,σ7,H7,I7.ei,T.keep _ _ _ st5 fun b hb o e=>(I7.pin (b,o) (List.mem_append_right _ (List.mem_append_right _ (dP hb e)))).1,fun b hb=>?_,w7⟩
   obtain⟨o,e,d⟩:=T.obj _ _ st5 b hb
   exact (I7.pin (b,o) (List.mem_append_right _ (List.mem_append_right _ (dP hb e)))).2.1
  cases f with
  | next=>obtain⟨σ7,H7,I7,n7⟩:=q7;exact again I7 n7
  | cont=>obtain⟨σ7,H7,I7,n7⟩:=q7;exact again I7 n7
  | brk=>obtain⟨σ7,H7,I7,q7⟩:=q7;exact⟨σ7,H7,I7.ei,q7⟩
  | ret v=>obtain⟨x7,σ7,H7,I7,r7,q7⟩:=q7;exact⟨x7,σ7,H7,I7.ei,r7,q7⟩
end
theorem lu {K:PySem.W.Frag} {a:Addr} {xs:List V} {g:TG} {tb:TS} {D:Ends} {σ : St} {H:Hp} (Pv:Nat->St->Hp->Prop) (h0:Pv 0 σ H) (hl:∀ i σ H,i<=xs.length->Pv i σ H->aG K H a xs)
  (hs:∀ i x σ H,xs[i]? = some x->Pv i σ H->g x σ H fun σ2 H2=>tb { D with nx:=Pv (i+1),ct:=Pv (i+1),bk:=D.nx } σ2 H2) (hd:∀ σ H,Pv xs.length σ H->D.nx σ H) :
  ∃ W:Nat->Nat->St->Hp->Prop,(∃ m,W 0 m σ H)/\∀ i m σ H,W i m σ H ->
   ((lr K a).stop i H/\D.nx σ H)\/((lr K a).go i H/\∃ N:St->Hp->Prop,(∀ σ' H',N σ' H'->∃ m',m' < m/\W (i+1) m' σ' H')/\∀ x H',(lr K a).ni i H x H'->g x σ H' fun σ2 H2=>tb { D with nx:=N,ct:=N,bk:=D.nx } σ2 H2):=by
 refine⟨fun i m σ H=>m=xs.length - i/\i<=xs.length/\Pv i σ H,⟨xs.length,by simp,Nat.zero_le _,h0⟩,?_⟩
 rintro i m σ H ⟨rfl,hi,p⟩
 have q:=hl i σ H hi p
 by_cases hlt:i < xs.length
 ·refine .inr ⟨⟨xs,xs[i],q,by simp [hlt]⟩,Pv (i+1),fun σ' H' p'=>⟨xs.length - (i+1),by omega,rfl,hlt,p'⟩,fun x H' y=>?_⟩
  obtain⟨e,y⟩:=y
  subst e
  exact hs i x σ _ (y xs q) p
 ·have e:i=xs.length:=by omega
  subst e
  exact .inl ⟨⟨xs,q,Nat.le_refl _⟩,hd σ H p⟩
theorem gm {lo:Int} {n:Nat} {g:TG} {tb:TS} {D:Ends} {σ : St} {H:Hp} (Pv:Nat->St->Hp->Prop) (h0:Pv 0 σ H)
  (hs:∀ i σ H,i < n->Pv i σ H->g (.int (lo+i)) σ H fun σ2 H2=>tb { D with nx:=Pv (i+1),ct:=Pv (i+1),bk:=D.nx } σ2 H2) (hd:∀ σ H,Pv n σ H->D.nx σ H) :
  ∃ W:Nat->Nat->St->Hp->Prop,(∃ m,W 0 m σ H)/\∀ i m σ H,W i m σ H ->
   ((jZ lo n).stop i H/\D.nx σ H)\/((jZ lo n).go i H/\∃ N:St->Hp->Prop,(∀ σ' H',N σ' H'->∃ m',m' < m/\W (i+1) m' σ' H')/\∀ x H',(jZ lo n).ni i H x H'->g x σ H' fun σ2 H2=>tb { D with nx:=N,ct:=N,bk:=D.nx } σ2 H2):=by
 refine⟨fun i m σ H=>m=n - i/\i<=n/\Pv i σ H,⟨n,by simp,Nat.zero_le _,h0⟩,?_⟩
 rintro i m σ H ⟨rfl,hi,p⟩
 by_cases hlt:i < n
 ·refine .inr ⟨hlt,Pv (i+1),fun σ' H' p'=>⟨n - (i+1),by omega,rfl,hlt,p'⟩,fun x H' y=>?_⟩
  obtain⟨e,y⟩:=y
  subst e y
  exact hs i σ _ hlt p
 ·have e:i=n:=by omega
  subst e
  exact .inl ⟨Nat.le_refl _,hd σ H p⟩
abbrev R2:=V->V->Hp->VK->Prop
def bW (X:Cx) (f:Value->Value->Sem Value) (r:R2):Prop :=
 ∀ (pins:List (Addr × Obj)) (s:Shared) (σ : St) (H:Hp) (x y:V) (v u:Value) (Q:VK),Inv X pins σ H s->RelV x v->RelV y u->r x y H Q ->
  wpAny (model X.prog X.w) X.A (f v u) (EP X pins σ Q) X.xe s
def pI (X:Cx) (f:Value->Sem Value) (r:V->Hp->VK->Prop):Prop :=
 ∀ (pins:List (Addr × Obj)) (s:Shared) (σ : St) (H:Hp) (x:V) (v:Value) (Q:VK),Inv X pins σ H s->RelV x v->r x H Q ->
  wpAny (model X.prog X.w) X.A (f v) (EP X pins σ Q) X.xe s
def da (X:Cx) (f:Value) (r:List V->Hp->VK->Prop):Prop :=
 ∀ (pins:List (Addr × Obj)) (s:Shared) (σ : St) (H:Hp) (xs:List V) (us:List Value) (Q:VK),Inv X pins σ H s->Vals xs us->r xs H Q ->
  wpAny (model X.prog X.w) X.A (call f us) (EP X pins σ Q) X.xe s
def j0 (r:R2) (ta tb:TE):TE:=fun σ H Q=>ta σ H fun x H1=>tb σ H1 fun y H2=>r x y H2 Q
def sW (r:V->Hp->VK->Prop) (ta:TE):TE:=fun σ H Q=>ta σ H fun x H1=>r x H1 Q
inductive rI (C:Int->Int->Prop) (g:Int->Int->V) (x:V) (y:V) (H:Hp) (Q:VK):Prop
 | mk (i j:_) (_:x=.int i) (_:y=.int j) (_:C i j) (_:Q (g i j) H)
inductive ji (g:Int->Int->V) (x:V) (y:V) (H:Hp) (Q:VK):Prop
 | mk (i j:_) (_:x=.int i) (_:y=.int j) (_:Q (g i j) H)
inductive rU (g:Int->V) (x:V) (H:Hp) (Q:VK):Prop
 | mk (i:_) (_:x=.int i) (_:Q (g i) H)
section
variable {X:Cx} {a b c:Expr} {ta tb tc:TE} {pos:Pos}
theorem oD (ha:PE X a ta) (hb:PE X b tb) {pins:List (Addr × Obj)} {s:Shared} {σ : St} {H:Hp} {R:V->V->Hp->Prop} (I:Inv X pins σ H s)
  (h:ta σ H fun x H1=>tb σ H1 fun y H2=>R x y H2) {Q:Value->Shared->Prop} {f:Value->Value->Sem Value}
  (hf:∀ v u s2 x y H2,Inv X pins σ H2 s2->RelV x v->RelV y u->R x y H2->wpAny (model X.prog X.w) X.A (f v u) Q X.xe s2) :
  wpAny (model X.prog X.w) X.A (eval a X.env) (fun v s₁=>wpAny (model X.prog X.w) X.A (eval b X.env) (fun u s₂=>wpAny (model X.prog X.w) X.A (f v u) Q X.xe s₂) X.xe s₁) X.xe s:=by
 refine aM (ha pins s σ H _ I h) fun v s1 ⟨x,H1,I1,r1,q1⟩=>?_
 refine aM (hb pins s1 σ H1 _ I1 q1) fun u s2 ⟨y,H2,I2,r2,q2⟩=>?_
 exact hf v u s2 x y H2 I2 r1 r2 q2
theorem aL {op:Operator} {r:R2} (ho:bW X (binaryOp op) r) (ha:PE X a ta) (hb:PE X b tb):PE X (.BinOp a op b pos) (j0 r ta tb):=by
 intro pins s σ H Q I h
 exact wpAny_BinOp (oD ha hb I h fun v u s2 x y H2 I2 rx ry q=>ho pins s2 σ H2 x y v u Q I2 rx ry q)
theorem sy {op:UnaryOp} {r:V->Hp->VK->Prop} (ho:pI X (unaryOp op) r) (ha:PE X a ta):PE X (.UnaryOp op a pos) (sW r ta):=by
 intro pins s σ H Q I h
 exact UnaryOp_ (aM (ha pins s σ H _ I h) fun v s1 ⟨x,H1,I1,r1,q1⟩=>ho pins s1 σ H1 x v Q I1 r1 q1)
theorem lA {f:Value->Value->Sem Value} {C:Int->Int->Prop} {g:Int->Int->Int}
  (rule:∀ (i j:Int) (t u:Tok) (s:Shared) (Q:Value->Shared->Prop) (E:Value->Shared->Prop),C i j->Q (.int (g i j) s.toks) { s with toks:=s.toks+1 }->wpAny (model X.prog X.w) X.A (f (.int i t) (.int j u)) Q E s) :
  bW X f (rI C fun i j=>.int (g i j)):=by
 intro pins s σ H x y v u Q I rx ry h
 obtain⟨i,j,rfl,rfl,hc,q⟩:=h
 obtain⟨t,rfl⟩:=rx
 obtain⟨t',rfl⟩:=ry
 exact rule i j t t' s _ _ hc ⟨.int (g i j),H,I.tok _,⟨_,rfl⟩,q⟩
theorem qZ {f:Value->Value->Sem Value} {g:Int->Int->Int}
  (rule:∀ (i j:Int) (t u:Tok) (s:Shared) (Q:Value->Shared->Prop) (E:Value->Shared->Prop),Q (.int (g i j) s.toks) { s with toks:=s.toks+1 }->wpAny (model X.prog X.w) X.A (f (.int i t) (.int j u)) Q E s) :
  bW X f (ji fun i j=>.int (g i j)):=by
 intro pins s σ H x y v u Q I rx ry h
 obtain⟨i,j,rfl,rfl,q⟩:=h
 obtain⟨t,rfl⟩:=rx
 obtain⟨t',rfl⟩:=ry
 exact rule i j t t' s _ _ ⟨.int (g i j),H,I.tok _,⟨_,rfl⟩,q⟩
theorem mx {f:Value->Value->Sem Value} {g:Int->Int->Bool}
  (rule:∀ (i j:Int) (t u:Tok) (s:Shared) (Q:Value->Shared->Prop) (E:Value->Shared->Prop),Q (.bool (g i j)) s->wpAny (model X.prog X.w) X.A (f (.int i t) (.int j u)) Q E s) :
  bW X f (ji fun i j=>.bl (g i j)):=by
 intro pins s σ H x y v u Q I rx ry h
 obtain⟨i,j,rfl,rfl,q⟩:=h
 obtain⟨t,rfl⟩:=rx
 obtain⟨t',rfl⟩:=ry
 exact rule i j t t' s _ _ ⟨.bl (g i j),H,I,rfl,q⟩
def tO (i j:Int):Prop:=0 < j/\j < 1073741824
def tP (i j:Int):Prop:=0<=j/\j<=1000000/\i.natAbs < 2 ^ 64
def oE (i j:Int):Prop:=(-(2 ^ 64) < i/\i < 2 ^ 64)\/(-(2 ^ 64) < j/\j < 2 ^ 64)
theorem oE.ok {i j:Int} (h:oE i j):IntMulOk i j:=by
 rcases h with ⟨h1,h2⟩ | ⟨h1,h2⟩
 ·exact .of_left (intBits_le_64 h1 h2)
 ·exact .of_right (intBits_le_64 h1 h2)
theorem cb:bW X (binaryOp .Add) (ji fun i j=>.int (i+j)):=qZ fun _ _ _ _ _ _ _ q=>add_int q
theorem gn:bW X (binaryOp .Sub) (ji fun i j=>.int (i - j)):=qZ fun _ _ _ _ _ _ _ q=>sub_int q
theorem fm:bW X (binaryOp .Mult) (rI oE fun i j=>.int (i * j)):=lA fun _ _ _ _ _ _ _ hc q=>mul_int q hc.ok
theorem lB:bW X (binaryOp .FloorDiv) (rI tO fun i j=>.int (i / j)):=lA fun i j _ _ _ _ _ hc q=>by
 have h1:(0:Int) < j:=hc.1
 have h2:j < 1073741824:=hc.2
 exact floordiv_int (by omega) (by rw [Int.fdiv_eq_ediv_of_nonneg i (by omega)];exact q) (.inl (PyProof.noPylong_small (by omega)))
theorem en:bW X (binaryOp .Mod) (rI (fun _ j=>0 < j) fun i j=>.int (i % j)):=lA fun i j _ _ _ _ _ hc q=>by
 have h1:(0:Int) < j:=hc
 exact mod_int' (by omega) (by rw [Int.fmod_eq_emod_of_nonneg i (by omega)];exact q)
theorem er:bW X (binaryOp .Pow) (rI tP fun i j=>.int (i ^ j.toNat)):=lA fun _ _ _ _ _ _ _ hc q=>pow_int_small hc.1 hc.2.1 hc.2.2 q
theorem uf {f:Value->Sem Value} {g:Int->Int}
  (rule:∀ (i:Int) (t:Tok) (s:Shared) (Q:Value->Shared->Prop) (E:Value->Shared->Prop),Q (.int (g i) s.toks) { s with toks:=s.toks+1 }->wpAny (model X.prog X.w) X.A (f (.int i t)) Q E s) :
  pI X f (rU fun i=>.int (g i)):=by
 intro pins s σ H x v Q I rx h
 obtain⟨i,rfl,q⟩:=h
 obtain⟨t,rfl⟩:=rx
 exact rule i t s _ _ ⟨.int (g i),H,I.tok _,⟨_,rfl⟩,q⟩
theorem q8:pI X (unaryOp .USub) (rU fun i=>.int (-i)):=uf fun _ _ _ _ _ q=>neg_int q
end
def q9:V->V->Bool
 | .aO,.aO=>true | .aO,.int _=>true | .int _,.aO=>true | .aO,.bl _=>true | .bl _,.aO=>true | .aO,.str _=>true | .str _,.aO=>true
 | .int _,.int _=>true | .bl _,.bl _=>true | .str _,.str _=>true | .fT _,.fT _=>true
 | .int _,.str _=>true | .str _,.int _=>true | .bl _,.str _=>true | .str _,.bl _=>true
 | _,_=>false
def ug:R2:=fun x y H Q=>q9 x y=true/\Q (.bl (decide (x=y))) H
def uh:R2:=fun x y H Q=>q9 x y=true/\Q (.bl (!decide (x=y))) H
theorem lC {i j:Int}:decide (V.int i=V.int j)=(i == j):=by
 rw [Bool.eq_iff_iff]
 simp
theorem nq {i j:Bool}:decide (V.bl i=V.bl j)=(i == j):=by
 rw [Bool.eq_iff_iff]
 simp
theorem lF {i j:Str}:decide (V.str i=V.str j)=(i == j):=by
 rw [Bool.eq_iff_iff]
 simp
theorem lG {i j:Array UInt8}:decide (V.fT i=V.fT j)=(i.toList == j.toList):=by
 rw [Bool.eq_iff_iff]
 cases i
 cases j
 simp
section
variable {X:Cx} {a b c:Expr} {ta tb tc:TE} {pos:Pos}
theorem aS {pins:List (Addr × Obj)} {σ : St} {H:Hp} {s:Shared} {Q:VK} {k k':Bool} (I:Inv X pins σ H s) (q:Q (.bl k) H) (e:k=k'):EP X pins σ Q (.bool k') s:=by
 subst e
 exact⟨.bl k,H,I,rfl,q⟩
theorem cc:bW X (compareOp .Eq) ug:=by
 intro pins s σ H x y v u Q I rx ry h
 obtain⟨hs,q⟩:=h
 cases x with
 | aO =>
  cases rx
  cases y with
  | aO=>cases ry;exact PySem.EqNone.eq_none_none (aS I q (by simp))
  | bl j=>cases ry;exact PySem.EqNone.eq_none_bool (aS I q (by simp))
  | int j=>obtain⟨t',rfl⟩:=ry;exact PySem.EqNone.eq_none_int (aS I q (by simp))
  | str j=>obtain⟨t',rfl⟩:=ry;exact PySem.EqNone.eq_none_str (aS I q (by simp))
  | _=>exact absurd (show false=true from hs) Bool.false_ne_true
 | bl i =>
  cases rx
  cases y with
  | aO=>cases ry;exact PySem.EqNone.eq_bool_none (aS I q (by simp))
  | bl j=>cases ry;exact eq_bool (aS I q nq)
  | str j=>obtain⟨t',rfl⟩:=ry;exact PySem.EqMixed.eq_bool_str (aS I q (by simp))
  | _=>exact absurd (show false=true from hs) Bool.false_ne_true
 | int i =>
  obtain⟨t,rfl⟩:=rx
  cases y with
  | aO=>cases ry;exact PySem.EqNone.eq_int_none (aS I q (by simp))
  | int j=>obtain⟨t',rfl⟩:=ry;exact eq_int (aS I q lC)
  | str j=>obtain⟨t',rfl⟩:=ry;exact PySem.EqMixed.eq_int_str (aS I q (by simp))
  | _=>exact absurd (show false=true from hs) Bool.false_ne_true
 | str i =>
  obtain⟨t,rfl⟩:=rx
  cases y with
  | aO=>cases ry;exact PySem.EqNone.eq_str_none (aS I q (by simp))
  | bl j=>cases ry;exact PySem.EqMixed.eq_str_bool (aS I q (by simp))
  | int j=>obtain⟨t',rfl⟩:=ry;exact PySem.EqMixed.eq_str_int (aS I q (by simp))
  | str j=>obtain⟨t',rfl⟩:=ry;exact eq_str (aS I q lF)
  | _=>exact absurd (show false=true from hs) Bool.false_ne_true
 | fT i =>
  obtain⟨t,rfl⟩:=rx
  cases y with
  | fT j=>obtain⟨t',rfl⟩:=ry;exact PySem.W.eq_bytes (aS I q lG)
  | _=>exact absurd (show false=true from hs) Bool.false_ne_true
 | _=>cases y <;> exact absurd (show false=true from hs) Bool.false_ne_true
theorem gU:bW X (compareOp .NotEq) uh:=by
 intro pins s σ H x y v u Q I rx ry h
 obtain⟨hs,q⟩:=h
 cases x with
 | aO =>
  cases rx
  cases y with
  | aO=>cases ry;exact PySem.EqNone.ne_none_none (aS I q (by simp))
  | bl j=>cases ry;exact PySem.EqNone.ne_none_bool (aS I q (by simp))
  | int j=>obtain⟨t',rfl⟩:=ry;exact PySem.EqNone.ne_none_int (aS I q (by simp))
  | str j=>obtain⟨t',rfl⟩:=ry;exact PySem.EqNone.ne_none_str (aS I q (by simp))
  | _=>exact absurd (show false=true from hs) Bool.false_ne_true
 | bl i =>
  cases rx
  cases y with
  | aO=>cases ry;exact PySem.EqNone.ne_bool_none (aS I q (by simp))
  | bl j=>cases ry;exact ne_bool (aS I q (congrArg not nq))
  | str j=>obtain⟨t',rfl⟩:=ry;exact PySem.EqMixed.ne_bool_str (aS I q (by simp))
  | _=>exact absurd (show false=true from hs) Bool.false_ne_true
 | int i =>
  obtain⟨t,rfl⟩:=rx
  cases y with
  | aO=>cases ry;exact PySem.EqNone.ne_int_none (aS I q (by simp))
  | int j=>obtain⟨t',rfl⟩:=ry;exact ne_int (aS I q (congrArg not lC))
  | str j=>obtain⟨t',rfl⟩:=ry;exact PySem.EqMixed.ne_int_str (aS I q (by simp))
  | _=>exact absurd (show false=true from hs) Bool.false_ne_true
 | str i =>
  obtain⟨t,rfl⟩:=rx
  cases y with
  | aO=>cases ry;exact PySem.EqNone.ne_str_none (aS I q (by simp))
  | bl j=>cases ry;exact PySem.EqMixed.ne_str_bool (aS I q (by simp))
  | int j=>obtain⟨t',rfl⟩:=ry;exact PySem.EqMixed.ne_str_int (aS I q (by simp))
  | str j=>obtain⟨t',rfl⟩:=ry;exact ne_str (aS I q (congrArg not lF))
  | _=>exact absurd (show false=true from hs) Bool.false_ne_true
 | fT i =>
  obtain⟨t,rfl⟩:=rx
  cases y with
  | fT j=>obtain⟨t',rfl⟩:=ry;exact PySem.W.ne_bytes (aS I q (congrArg not lG))
  | _=>exact absurd (show false=true from hs) Bool.false_ne_true
 | _=>cases y <;> exact absurd (show false=true from hs) Bool.false_ne_true
theorem eT:bW X (compareOp .Lt) (ji fun i j=>.bl (decide (i < j))):=mx fun _ _ _ _ _ _ _ q=>lt_int q
theorem iI:bW X (compareOp .LtE) (ji fun i j=>.bl (decide (i<=j))):=mx fun _ _ _ _ _ _ _ q=>le_int q
theorem fG:bW X (compareOp .Gt) (ji fun i j=>.bl (decide (j < i))):=mx fun _ _ _ _ _ _ _ q=>gt_int q
theorem sA:bW X (compareOp .GtE) (ji fun i j=>.bl (decide (j<=i))):=mx fun _ _ _ _ _ _ _ q=>ge_int q
theorem aJ (b:Expr) {op:CmpOp} (h:op ≠ .In:=by decide) (h2:op ≠ .NotIn:=by decide):behindInMarks op b=false:=by
 have e1:(op == CmpOp.In)=false:=by cases op <;> first | rfl | exact absurd rfl h
 have e2:(op == CmpOp.NotIn)=false:=by cases op <;> first | rfl | exact absurd rfl h2
 cases b <;> simp [behindInMarks,e1,e2]
theorem d6 {op:CmpOp} {r:R2} (ho:bW X (compareOp op) r) (ha:PE X a ta) (hb:PE X b tb) (hm:behindInMarks op b=false):PE X (.Compare a [op] [b] pos) (j0 r ta tb):=by
 intro pins s σ H Q I h
 exact wpAny_Compare1 (oD ha hb I h fun v u s2 x y H2 I2 rx ry q=>ho pins s2 σ H2 x y v u Q I2 rx ry q) hm
inductive oF (Q:(Bool->Hp->Prop)) (x:V) (H':Hp):Prop
 | mk (k:_) (_:x=.bl k) (_:Q k H')
def pJ (t:TE):TT:=fun σ H Q=>t σ H fun x H'=>oF Q x H'
theorem aw {op:CmpOp} {r:R2} (ho:bW X (compareOp op) r) (ha:PE X a ta) (hb:PE X b tb) (hm:behindInMarks op b=false):PT X (.Compare a [op] [b] pos) (pJ (j0 r ta tb)):=by
 intro pins s σ H Q I h
 refine wpAny_isTrue_Compare1 (aM (ha pins s σ H _ I h) fun v s1 ⟨x,H1,I1,r1,q1⟩=>aM (hb pins s1 σ H1 _ I1 q1) fun u s2 ⟨y,H2,I2,r2,q2⟩ =>
  aM (ho pins s2 σ H2 x y v u _ I2 r1 r2 q2) fun c s3 ⟨z,H3,I3,r3,k,e,q3⟩=>?_) hm
 subst e
 cases r3
 exact wpAny_truthy_bool ⟨H3,I3,q3⟩
inductive nr (r':R2) (tc:TE) (σ : St) (Q:VK) (y:V) (z:V) (H3:Hp):Prop
 | mk (k:_) (_:z=.bl k) (_:(if k=true then tc σ H3 fun w' H4=>r' y w' H4 Q else Q (.bl false) H3))
def nu (r r':R2) (ta tb tc:TE):TE:=fun σ H Q=>ta σ H fun x H1=>tb σ H1 fun y H2=>r x y H2 fun z H3=>nr r' tc σ Q y z H3
theorem j1 {op op':CmpOp} {r r':R2} (ho:bW X (compareOp op) r) (ho':bW X (compareOp op') r') (ha:PE X a ta) (hb:PE X b tb) (hc:PE X c tc)
  (hm:lastMarks [op,op'] [b,c] = false:=by with_unfolding_all rfl):PE X (.Compare a [op,op'] [b,c] pos) (nu r r' ta tb tc):=by
 intro pins s σ H Q I h
 refine Compare_chain (aM (ha pins s σ H _ I h) fun v s1 ⟨x,H1,I1,r1,q1⟩=>chain_link (aM (hb pins s1 σ H1 _ I1 q1) fun u s2 ⟨y,H2,I2,r2,q2⟩ =>
  aM (ho pins s2 σ H2 x y v u _ I2 r1 r2 q2) fun d s3 ⟨z,H3,I3,r3,k,e,q3⟩=>?_)) hm
 subst e
 cases r3
 refine wpAny_truthy_bool ?_
 cases k with
 | false=>exact ite_ff ⟨.bl false,H3,I3,rfl,q3⟩
 | true=>exact ite_tt (chain_last (aM (hc pins s3 σ H3 _ I3 q3) fun w' s4 ⟨z',H4,I4,r4,q4⟩=>ho' pins s4 σ H4 y z' u w' Q I4 r2 r4 q4))
theorem j2 {op op':CmpOp} {r r':R2} (ho:bW X (compareOp op) r) (ho':bW X (compareOp op') r') (ha:PE X a ta) (hb:PE X b tb) (hc:PE X c tc)
  (hm:lastMarks [op,op'] [b,c] = false:=by with_unfolding_all rfl):PT X (.Compare a [op,op'] [b,c] pos) (pJ (nu r r' ta tb tc)):=by
 intro pins s σ H Q I h
 refine isTrue_chain (aM (ha pins s σ H _ I h) fun v s1 ⟨x,H1,I1,r1,q1⟩=>test_link (aM (hb pins s1 σ H1 _ I1 q1) fun u s2 ⟨y,H2,I2,r2,q2⟩ =>
  aM (ho pins s2 σ H2 x y v u _ I2 r1 r2 q2) fun d s3 ⟨z,H3,I3,r3,k,e,q3⟩=>?_)) hm
 subst e
 cases r3
 refine wpAny_truthy_bool ?_
 cases k with
 | false =>
  obtain⟨k',e',q'⟩:=q3
  cases e'
  exact ite_ff ⟨H3,I3,q'⟩
 | true =>
  refine ite_tt (test_last (aM (hc pins s3 σ H3 _ I3 q3) fun w' s4 ⟨z',H4,I4,r4,q4⟩=>aM (ho' pins s4 σ H4 y z' u w' _ I4 r2 r4 q4) fun d' s5 ⟨z2,H5,I5,r5,k2,e2,q5⟩=>?_))
  subst e2
  cases r5
  exact wpAny_truthy_bool ⟨H5,I5,q5⟩
theorem fo:(sizeLine:Nat) < 2 ^ 63:=by rw [sizeLine_eq];decide
theorem vals1 {x:V} {us:List Value} (r:Vals [x] us):∃ u,us = [u]/\RelV x u:=by
 cases r with
 | cons r1 r2=>cases r2;exact⟨_,rfl,r1⟩
theorem vals2 {x y:V} {us:List Value} (r:Vals [x,y] us):∃ u w',us = [u,w']/\RelV x u/\RelV y w':=by
 cases r with
 | cons r1 r2 =>
  cases r2 with
  | cons r3 r4=>cases r4;exact⟨_,_,rfl,r1,r3⟩
theorem jj (hc:X.calm=true):da X (.builtin "min") (fun xs H Q=>∃ i j,xs = [.int i,.int j]/\Q (.int (if j < i then j else i)) H):=by
 intro pins s σ H xs us Q I r h
 obtain⟨i,j,rfl,q⟩:=h
 obtain⟨u,w',rfl,⟨t,rfl⟩,⟨t',rfl⟩⟩:=vals2 r
 refine min_two_ints (I.ok.hd hc) fun h' tk k=>⟨_,H,I.kept k,?_,q⟩
 by_cases hj:j < i
 ·rw [if_pos hj,if_pos hj];exact⟨_,rfl⟩
 ·rw [if_neg hj,if_neg hj];exact⟨_,rfl⟩
theorem gr:da X (.type "int") (fun xs H Q=>(∃ i,xs = [.int i]/\Q (.int i) H)\/∃ k,xs = [.bl k]/\Q (.int (if k then 1 else 0)) H):=by
 intro pins s σ H xs us Q I r h
 rcases h with ⟨i,rfl,q⟩ | ⟨k,rfl,q⟩
 ·obtain⟨u,rfl,t,rfl⟩:=vals1 r
  exact call_int_int ⟨.int i,H,I,⟨_,rfl⟩,q⟩
 ·obtain⟨u,rfl,r1⟩:=vals1 r
  cases r1
  exact call_int_bool ⟨.int (if k then 1 else 0),H,I.tok _,⟨_,rfl⟩,q⟩
end
structure oG (h:Heap) (x dx C:Addr) (mA:Str->Option Value):Prop where
 obj:h.get? x=some (PySem.W.instObj C dx)
 ns:h.Ns1 dx mA
 ne:dx ≠ x
theorem nv {h:Heap} {dx:Addr} {mA:Str->Option Value} (n:h.Ns1 dx mA):∃ od,h.get? dx=some od/\∀ name,PySem.W.lookIn name od=some (mA name):=by
 obtain⟨o,es,ep,ho,hd,hk,_,hm⟩:=n
 refine⟨o,ho,fun name=>?_⟩
 have e:=hm name
 unfold nsFind findBy at e
 rw [<-Array.find?_toList] at e
 unfold PySem.W.lookIn
 rw [hd]
 dsimp only
 split
 ·rename_i y q
  rw [q] at e
  exact congrArg some e
 ·rename_i q
  rw [q] at e
  have a:es.toList.any (·.refKey)=false:=by
   rw [List.any_eq_false]
   intro y hy
   obtain⟨z,t,hkey⟩:=hk y (Array.mem_toList_iff.mp hy)
   simp [DictEntry.refKey,hkey]
  have a':¬ es.toList.any (·.refKey)=true:=by rw [a];exact Bool.false_ne_true
  rw [if_neg a']
  exact congrArg some e
theorem oG.look {h:Heap} {x dx C:Addr} {mA:Str->Option Value} (I:oG h x dx C mA):∃ od,PySem.W.InstAt h x (PySem.W.instObj C dx) C (some od)/\∀ name,PySem.W.lookIn name od=some (mA name) :=
 let ⟨od,ho,hl⟩:=nv I.ns
 ⟨od,⟨I.obj,rfl,rfl,ho⟩,hl⟩
section
variable {prog:Program} {w:World} {A:Around} {E:Value->Shared->Prop} {s:Shared} {K:PySem.W.Frag} {x dx C f:Addr} {mA:Str->Option Value} {name:Str} {v:Value}
end
section
variable {P:Program} {w:World} {H H':Hp} {h h':Heap} {a C dx:Addr} {fs fs':List (Str × V)}
theorem p8 (aK:b5 P w H h) (e:H a=some (.ins C dx fs)):∃ mA,oG h a dx C mA/\(∀ f,ik (fs.lookup f) (mA f))/\PySem.Within mA (fs.map (·.1))/\fs.length<=1000/\H dx=some (.own a):=by
 obtain⟨d,z,ne,ob,mA,n,r,q⟩:=(show bh P w H h a (.ins C dx fs) from aK a _ e)
 exact⟨mA,⟨ob,n,ne⟩,r,q,z,d⟩
end
structure rf (K:PySem.W.Frag) (C:Addr):Prop where
 pg:PySem.W.plainGet K C Str.empty=true
 hd:PySem.W.hasDictIn K C=true
 po:PySem.W.plainOver K C=true
 sa:PySem.W.findIn K (.ref C) "__setattr__" = some (some (.builtin "object.__setattr__"))
theorem rf.get {K:PySem.W.Frag} {C:Addr} (c:rf K C) (f:Str):PySem.W.plainGet K C f=true:=c.pg
section
variable {X:Cx} {pins:List (Addr × Obj)} {σ : St} {H:Hp} {s:Shared} {a C dx:Addr} {fs:List (Str × V)} {f:Str} {v:V} {A:Around} {E:Value->Shared->Prop}
end
section
variable {X:Cx} {o e value:Expr} {f:Str} {pos pos' tpos:Pos} {ta tv:TE}
end
section
variable {X:Cx} {pins:List (Addr × Obj)} {σ : St} {H:Hp} {s:Shared} {A:Around} {E:Value->Shared->Prop} {Q:Value->Shared->Prop} {c:Value} {b:Bool}
inductive de (K:PySem.W.Frag) (H:Hp):V->Value->Prop where
 | aO:de K H .aO (.type "NoneType")
 | bl (x:Bool):de K H (.bl x) (.type "bool")
 | int (i:Int):de K H (.int i) (.type "int")
 | str (x:Str):de K H (.str x) (.type "str")
 | jP (x:UInt64):de K H (.jP x) (.type "float")
 | lst {a:Addr} {xs:List V} (e:H a=some (.lst xs)):de K H (.ref a) (.type "list")
 | eS {a:Addr} {o:Obj} {xs:List V} (e:H a=some (.eS o (.lst xs))):de K H (.ref a) (.type "list")
 | tup {a:Addr} {xs:List V} (e:H a=some (.tup xs)):de K H (.ref a) (.type "tuple")
 | dK {a:Addr} {kvs:List (Key × V)} (e:H a=some (.dK kvs)):de K H (.ref a) (.type "dict")
 | dT {a:Addr} {kvs:List (List Key × V)} (e:H a=some (.dT kvs)):de K H (.ref a) (.type "dict")
 | ins {a C dx:Addr} {fs:List (Str × V)} (e:H a=some (.ins C dx fs)) (cl:rf K C) (ha:PySem.W.findIn K (.ref C) "__class__" = some (some (.builtin "object.__class__")))
   (hn:PySem.W.specialIn K (.builtin "object.__class__") "__get__" = some (some (.builtin "getset_descriptor.__get__"))) (htk:PySem.W.takesIn K (.builtin "object.__class__")=some true)
   (hm:PySem.W.mroIn K C (.type "object")=some true):de K H (.ref a) (.ref C)
theorem ny {x:V} {u t:Value} (I:Inv X pins σ H s) (rx:RelV x u) (ty:de X.K H x t) (e:PySem.W.kitOne X.K t c=some b) (h:∀ tk,Q (.bool b) { s with toks:=tk }) :
  wpAny (model X.prog X.w) A (call (.builtin "isinstance") [u,c]) Q E s:=by
 cases ty with
 | aO=>cases (show u=Value.none from rx);exact PySem.W.kia_one PySem.W.kitx_none I.cZ True.intro e (fun z=>nomatch z) h
 | bl y=>cases (show u=Value.bool y from rx);exact PySem.W.kia_one PySem.W.kitx_bool I.cZ True.intro e (fun z=>nomatch z) h
 | int i=>obtain⟨t,q⟩:=(show ∃ t,u=Value.int i t from rx);cases q;exact PySem.W.kia_one PySem.W.kitx_int I.cZ True.intro e (fun z=>nomatch z) h
 | str y=>obtain⟨t,q⟩:=(show ∃ t,u=Value.str y t from rx);cases q;exact PySem.W.kia_one PySem.W.kitx_str I.cZ True.intro e (fun z=>nomatch z) h
 | jP y=>obtain⟨t,q⟩:=(show ∃ t,u=Value.float y t from rx);cases q;exact PySem.W.kia_one PySem.W.kitx_float I.cZ True.intro e (fun z=>nomatch z) h
 | @lst a xs ea =>
  cases (show u=Value.ref a from rx)
  obtain⟨_,_,n,_,h1⟩:=(show bh X.prog X.w H s.heap a (.lst xs) from I.aK a _ ea)
  exact PySem.W.kia_one PySem.W.kitx_list I.cZ ⟨_,h1,rfl⟩ e (fun z=>nomatch z) h
 | @eS a ob xs ea =>
  cases (show u=Value.ref a from rx)
  obtain⟨_,_,_,n,_,h1⟩:=(show bh X.prog X.w H s.heap a (.eS ob (.lst xs)) from I.aK a _ ea)
  exact PySem.W.kia_one PySem.W.kitx_list I.cZ ⟨_,h1,rfl⟩ e (fun z=>nomatch z) h
 | @tup a xs ea =>
  cases (show u=Value.ref a from rx)
  obtain⟨_,_,_,p⟩:=(show bh X.prog X.w H s.heap a (.tup xs) from I.aK a _ ea)
  obtain⟨o,h1,h2,_⟩:=p
  exact PySem.W.kia_one PySem.W.kitx_tuple I.cZ ⟨o,h1,h2⟩ e (fun z=>nomatch z) h
 | @dK a kvs ea =>
  cases (show u=Value.ref a from rx)
  obtain⟨_,_,vs,_,p⟩:=(show bh X.prog X.w H s.heap a (.dK kvs) from I.aK a _ ea)
  obtain⟨o,es,ep,h1,h2,_⟩:=p
  exact PySem.W.kia_one PySem.W.kitx_dict I.cZ ⟨o,h1,h2.1⟩ e (fun z=>nomatch z) h
 | @dT a kvs ea =>
  cases (show u=Value.ref a from rx)
  obtain⟨_,_,xs,_,o,es,ep,h1,h2,_⟩:=(show bh X.prog X.w H s.heap a (.dT kvs) from I.aK a _ ea)
  exact PySem.W.kia_one PySem.W.kitx_dict I.cZ ⟨o,h1,h2.1⟩ e (fun z=>nomatch z) h
 | @ins a C dx fs ea cl ha hn htk hm =>
  cases (show u=Value.ref a from rx)
  obtain⟨mA,O,_⟩:=p8 I.aK ea
  obtain⟨od,J,_⟩:=O.look
  exact PySem.W.kia_one (PySem.W.kitx_own (cl.get _) cl.hd ha hn htk hm) I.cZ J e (fun z=>nomatch z) h
end
structure b7 (k:Nat) (A:Around):Prop where
 hd:A.handled=none
 dp:A.depth+3 * k+5 < recursionLimit
 un:A.units+16 * k+200 < cLine
theorem b7.mono {j k:Nat} {A:Around} (r:b7 k A) (h:j<=k):b7 j A:=⟨r.hd,by have:=r.dp;omega,by have:=r.un;omega⟩
theorem b7.deeper {k:Nat} {A:Around} (r:b7 (k+1) A) (env:Env):b7 k (A.deeper env) :=
 ⟨r.hd,by have:=r.dp;show A.depth+1+3 * k+5 < _;omega,by have:=r.un;show A.units+3+16 * k+200 < _;omega⟩
theorem b7.depth {k:Nat} {A:Around} (r:b7 k A):A.depth < recursionLimit:=by have:=r.dp;omega
theorem b7.units {k:Nat} {A:Around} (r:b7 k A):A.units+64 < cLine:=by have:=r.un;omega
def j3:TA:=fun _ H Q=>Q [] H
def eU (ta:TE) (tr:TA):TA:=fun σ H Q=>ta σ H fun x H1=>tr σ H1 fun xs H2=>Q (x :: xs) H2
section
variable {X:Cx} {e:Expr} {es:List Expr} {te:TE} {t:TA} {pos:Pos}
theorem cA:PA X [] j3:=fun _ _ _ _ H Q I h=>Calls.spliced_nil ⟨[],H,I,.nil,h⟩
theorem bt (ha:PE X e te) (hr:PA X es t) (hs:starEach (e :: es) X.env=(false,eval e X.env) :: starEach es X.env:=by rfl):PA X (e :: es) (eU te t):=by
 intro pos pins s σ H Q I h
 rw [hs]
 show wpAny _ _ (spliced ((false,eval e X.env) :: backTo pos (starEach es X.env))) _ _ s
 refine Calls.spliced_cons (aM (ha pins s σ H _ I h) fun u s1 ⟨x,H1,I1,r1,q1⟩=>?_)
 exact aM (hr pos pins s1 σ H1 _ I1 q1) fun us s2 ⟨xs,H2,I2,r2,q2⟩=>⟨x :: xs,H2,I2,.cons r1 r2,q2⟩
def rg (t:TA):TE:=fun σ H Q=>t σ H fun xs H1=>xs.length<=sizeLine/\∀ p,H1 p=none->Q (.ref p) (upd H1 p (.tup xs))
def rh (t:TA):TE:=fun σ H Q=>t σ H fun xs H1=>xs.length<=sizeLine/\∀ p,H1 p=none->Q (.ref p) (upd H1 p (.lst xs))
theorem cu {x1} (h:PA X es t):PE X (.Tuple es x1 pos) (rg t):=by
 intro pins s σ H Q I hq
 refine wpAny_Tuple_spliced (aM (h pos pins s σ H _ I hq) fun us s1 ⟨xs,H1,I1,r,z,q⟩=>⟨by rw [<-r.length];exact z,?_⟩)
 have hf:H1 s1.heap.objs.size=none:=I1.aK.fresh (Nat.le_refl _)
 refine⟨.ref s1.heap.objs.size,upd H1 s1.heap.objs.size (.tup xs),I1.laid (t':=s1.toks) (fun b u e=>Heap.get?_push_of_some _ e) (Nat.le_refl _) ?_,rfl,q _ hf⟩
 exact⟨z,us,r,⟨_,Heap.get?_push_size _ rfl,rfl,_,rfl,rfl⟩⟩
theorem cf (h:PA X es t):PE X (.List es pos) (rh t):=by
 intro pins s σ H Q I hq
 refine wpAny_List_spliced (aM (h pos pins s σ H _ I hq) fun us s1 ⟨xs,H1,I1,r,z,q⟩=>⟨by rw [<-r.length];exact z,?_⟩)
 have hf:H1 s1.heap.objs.size=none:=I1.aK.fresh (Nat.le_refl _)
 refine⟨.ref s1.heap.objs.size,upd H1 s1.heap.objs.size (.lst xs),I1.laid (t':=s1.toks) (fun b u e=>Heap.get?_push_of_some _ e) (Nat.le_refl _) ?_,rfl,q _ hf⟩
 exact⟨z,us,0,r,Heap.get?_push_size _ rfl⟩
end
abbrev Sp:=List V->Hp->VK->XK->Prop
abbrev gs:=List Env->Hp->Shared->XK->Value->Shared->Prop
structure my (P:Program) (w:World) (K:PySem.W.Frag) (mg:Str->Option Value) (base:Heap) (A:Around) (outer:List Env) (s:Shared) (H:Hp):Prop where
 frames:A.frames=some outer
 mod:Mod K mg base
 bs:∀ b o,base.get? b=some o->s.heap.get? b=some o/\H b=none
 jg:base.objs.size<=s.heap.objs.size
 ef:s.heap.FunFrames base outer
 lh:∀ b ∈ fY outer,H b=none
 aK:b5 P w H s.heap
 bare:AllBare s.gens
def CE (outer:List Env) (P:Program) (w:World) (H:Hp) (s:Shared) (Q:VK) (u:Value) (s':Shared):Prop :=
 ∃ v H',s'.os=s.os/\AllBare s'.gens/\Un (fY outer) [] H H' s.heap s'.heap/\b5 P w H' s'.heap/\RelV v u/\Q v H'
def CR (CX:gs) (outer:List Env) (P:Program) (w:World) (H:Hp) (s:Shared) (Q:VK) (E:XK) (r:Result) (s':Shared):Prop :=
 match r with
 | .ok (.ret u)=>CE outer P w H s Q u s'
 | .ok _=>False
 | .error e=>CX outer H s E e s'
structure bg (P:Program) (w:World) (K:PySem.W.Frag) (mg:Str->Option Value) (base:Heap) (CX:gs) (k:Nat) (f:Addr) (fd:FuncData) (ps:List Str) (sp:Sp):Prop where
 len:∀ vs H Q E,sp vs H Q E->vs.length=ps.length
 run:∀ (A:Around) (outer:List Env) (s:Shared) (H:Hp) (args:Args) (us:List Value) (vs:List V) (Q:VK) (E:XK),b7 k A->my P w K mg base A outer s H->BindsTo s fd args (ps.zip us)->Vals vs us->sp vs H Q E ->
  codeAny (model P w) A (.call (.ref f) args) (CR CX outer P w H s Q E) s
section
variable {X:Cx} {pins:List (Addr × Obj)} {σ : St} {H:Hp} {s s':Shared}
theorem Inv.tQ (I:Inv X pins σ H s):my X.prog X.w X.K X.mg X.base X.A X.stack s H :=
 ⟨I.ok.frames,I.ok.mod,I.bs,Nat.le_trans I.ok.jg I.sz,I.stack,I.lj,I.aK,I.bare⟩
theorem Inv.after {Q:VK} {u:Value} (I:Inv X pins σ H s) (h:CE X.stack X.prog X.w H s Q u s'):EP X pins σ Q u s':=by
 obtain⟨v,H',os,bare,un,aK,r,q⟩:=h
 obtain⟨hh,g,d,t,os'⟩:=s'
 obtain rfl:os' = s.os:=os
 exact⟨v,H',I.call (h':=hh) (g':=g) (d':=d) (t':=t) (ch:=[]) un aK bare (fun b z=>absurd z (by simp)),r,q⟩
end
def jK (sp:Sp) (dvs:List V) (E:XK) (t:TA):TE:=fun σ H Q=>t σ H fun vs H1=>sp (vs++dvs) H1 Q E
def Binds (K:PySem.W.Frag) (fd:FuncData) (ps:List Str) (ds:List Value):Prop :=
 ∀ (s:Shared) (us:List Value),K.In s.heap->(us++ds).length=ps.length->BindsTo s fd ⟨us,[]⟩ (ps.zip (us++ds))
theorem Binds.all {K:PySem.W.Frag} {fd:FuncData} {ps:List Str} (h:∀ us:List Value,us.length=ps.length->bindArgs fd ⟨us,[]⟩=pure (ps.zip us)):Binds K fd ps []:=fun s us _ hl=>by
 rw [List.append_nil] at hl ⊢
 exact .of_eq (h us hl)
def Passes (CX:gs) (X:Cx) (E:XK):Prop:=∀ (pins:List (Addr × Obj)) (σ : St) (H:Hp) (s:Shared) (e:Value) (s':Shared),Inv X pins σ H s->CX X.stack H s E e s'->X.xe e s'
section
variable {X:Cx} {CX:gs} {k:Nat} {f C:Addr} {fd:FuncData} {ps:List Str} {sp:Sp} {dvs:List V} {ds:List Value} {E:XK} {x m:Str} {p pos apos:Pos} {e o:Expr} {es:List Expr} {ta:TE} {t:TA}
theorem rl {pins:List (Addr × Obj)} {σ : St} {H:Hp} {s:Shared} {Q:VK} {us:List Value} {vs:List V} (F:bg X.prog X.w X.K X.mg X.base CX k f fd ps sp) (hr:b7 k X.A) (hb:Binds X.K fd ps ds) (hd:Vals dvs ds) (hx:Passes CX X E)
  (I:Inv X pins σ H s) (r:Vals vs us) (h:sp (vs++dvs) H Q E):wpAny (model X.prog X.w) X.A (call (.ref f) us) (EP X pins σ Q) X.xe s:=by
 have r2:Vals (vs++dvs) (us++ds):=r.append hd
 have hl:(us++ds).length=ps.length:=by rw [<-r2.length];exact F.len _ _ _ _ h
 refine wpAny_call (codeAny_mono (F.run X.A X.stack s H ⟨us,[]⟩ (us++ds) (vs++dvs) Q E hr I.tQ (hb s us I.cZ hl) r2 h) fun r s' hq=>?_)
 cases r with
 | error e=>exact hx pins σ H s e s' I hq
 | ok fl =>
  cases fl with
  | ret u=>exact I.after hq
  | next=>exact False.elim hq
  | brk=>exact False.elim hq
  | cont=>exact False.elim hq
theorem p9 (F:bg X.prog X.w X.K X.mg X.base CX k f fd ps sp) (hr:b7 k X.A) (hg:Gl X x) (hm:X.mg x=some (.ref f)) (hk:PySem.W.keepIn X.K (.ref f)=true) (hb:Binds X.K fd ps ds) (hd:Vals dvs ds) (hx:Passes CX X E)
  (ha:PA X (e :: es) t) (hdb:(x == ("__debug__" : Str))=false:=by decide) (he:starEach (e :: es) X.env=(false,eval e X.env) :: starEach es X.env:=by rfl) (hpl:(backTo pos (starEach es X.env)).any (·.1)=false:=by rfl) :
  PE X (.Call (.Name x p) (e :: es) [] pos) (jK sp dvs E t):=by
 intro pins s σ H Q I h
 refine wpAny_Call_Name_kw (lp I hg hm ?_ hdb)
 refine PySem.W.callWith_K (h₀:=X.base) I.ok.mod.qR hk (aM (ha pos pins s σ H _ I h) fun us s1 ⟨vs,H1,I1,r,q⟩=>⟨I1.cZ,?_⟩) he hpl
 exact rl F hr hb hd hx I1 r q
end
section
variable {X:Cx} {CX:gs} {k:Nat} {f C:Addr} {fd:FuncData} {ps ks:List Str} {sp:Sp} {E:XK} {x m:Str} {p pos apos kpos:Pos} {e o:Expr} {es:List Expr} {kws:List Keyword} {te ta:TE} {t tk:TA} {nm:Option Str}
variable {g:List Value->List Value->List Value} {gV:List V->List V->List V}
end
structure aP (N P:List Str) (sc:Scope):Prop where
 kind:sc.kind=.function
 co:sc.isCoroutine=false
 gen:sc.isGenerator=false
 nd:N.Nodup
 pre:N.take P.length=P
 par:∀ x ∈ P,sc.names.lookup x=some .local\/sc.names.lookup x=some .cell
 rm:∀ y ∈ sc.names,y.2 ≠ .free
theorem jl {kindOf:Str->Option NameKind} {x:Str}:∀ {binds:List (Str × Value)} {m:Str->Option Value},(∀ v,(x,v) ∉ binds)->bindL kindOf binds m x=m x
 | [],_,_=>rfl
 | (n,v) :: r,m,h=>by
  unfold bindL
  rw [jl fun w hw=>h w (List.mem_cons_of_mem _ hw)]
  split
  ·have:x ≠ n:=by rintro rfl;exact h v List.mem_cons_self
   simp [this]
  ·rfl
theorem jm {kindOf:Str->Option NameKind} {x:Str}:∀ {binds:List (Str × Value)} {m:Str->Option Value},(∀ v,(x,v) ∉ binds)->bindC kindOf binds m x=m x
 | [],_,_=>rfl
 | (n,v) :: r,m,h=>by
  unfold bindC
  rw [jm fun w hw=>h w (List.mem_cons_of_mem _ hw)]
  split
  ·rfl
  ·have:x ≠ n:=by rintro rfl;exact h v List.mem_cons_self
   simp [this]
theorem jn {kindOf:Str->Option NameKind} {x:Str} {v:Value}:∀ {P:List Str} {vs:List Value} {i:Nat} {m:Str->Option Value},P.Nodup->P[i]? = some x->vs[i]? = some v->kindOf x=some .local ->
  bindL kindOf (P.zip vs) m x=some v
 | [],_,_,_,_,h,_,_=>by simp at h
 | _ :: _,[],_,_,_,_,h,_=>by simp at h
 | p :: P,w :: vs,0,m,nd,h1,h2,hk=>by
  simp at h1 h2;subst h1;subst h2
  show bindL kindOf ((p,w) :: P.zip vs) m p=_
  unfold bindL
  rw [jl fun v hv=>(List.nodup_cons.mp nd).1 (List.of_mem_zip hv).1,if_pos hk]
  simp
 | p :: P,w :: vs,i+1,m,nd,h1,h2,hk=>by
  show bindL kindOf ((p,w) :: P.zip vs) m x=_
  unfold bindL
  exact jn (i:=i) (List.nodup_cons.mp nd).2 (by simpa using h1) (by simpa using h2) hk
theorem jo {kindOf:Str->Option NameKind} {x:Str} {v:Value}:∀ {P:List Str} {vs:List Value} {i:Nat} {m:Str->Option Value},P.Nodup->P[i]? = some x->vs[i]? = some v->kindOf x ≠ some .local ->
  bindC kindOf (P.zip vs) m x=some v
 | [],_,_,_,_,h,_,_=>by simp at h
 | _ :: _,[],_,_,_,_,h,_=>by simp at h
 | p :: P,w :: vs,0,m,nd,h1,h2,hk=>by
  simp at h1 h2;subst h1;subst h2
  show bindC kindOf ((p,w) :: P.zip vs) m p=_
  unfold bindC
  rw [jm fun v hv=>(List.nodup_cons.mp nd).1 (List.of_mem_zip hv).1,if_neg hk]
  simp
 | p :: P,w :: vs,i+1,m,nd,h1,h2,hk=>by
  show bindC kindOf ((p,w) :: P.zip vs) m x=_
  unfold bindC
  exact jo (i:=i) (List.nodup_cons.mp nd).2 (by simpa using h1) (by simpa using h2) hk
def start (N:List Str) (vs:List V):St:=vs.map some++List.replicate (N.length - vs.length) none
def ip (CX:gs) (P:Program) (w:World) (K:PySem.W.Frag) (mg:Str->Option Value) (base:Heap) (N:List Str) (qual:Str) (scope:Scope) (f:Addr) (cd:Value) (A:Around) (outer:List Env) (s:Shared) (H:Hp) (E:XK):Cx where
 prog:=P
 w:=w
 K:=K
 mg:=mg
 base:=base
 A:=A.deeper (envOfC qual scope s.heap.objs.size f cd)
 N:=N
 b6:=s
 jR:=H
 env:=envOfC qual scope s.heap.objs.size f cd
 outer:=outer
 stack:=envOfC qual scope s.heap.objs.size f cd :: outer
 ex:=[]
 calm:=true
 fn:=fun _=>true
 pn:=[]
 xe:=fun e s'=>wpAny (model P w) (A.deeper (envOfC qual scope s.heap.objs.size f cd)) (leaving (envOfC qual scope s.heap.objs.size f cd) e) (fun _ s''=>CX outer H s E e s'') (fun e' s''=>CX outer H s E e' s'') s'
theorem j4 {sc:Scope} {n:Nat} {x:Str} (h:sc.names.lookup x=some .cell):∃ c,(cellsFrom n sc.names []).lookup x=some c:=by
 have q:=PySem.W.cellsFrom_some sc.names n [] (.inl h)
 exact Option.isSome_iff_exists.mp q
theorem nz {CX:gs} {P:Program} {w:World} {K:PySem.W.Frag} {mg:Str->Option Value} {base:Heap} {N ps:List Str} {qual:Str} {scope:Scope} {f:Addr} {cd:Value} {A:Around} {outer:List Env} {s s1:Shared} {H:Hp} {E:XK} {us:List Value} {vs:List V}
  (S:aP N ps scope) (hd:A.handled=none) (e0:my P w K mg base A outer s H) (hl:vs.length=ps.length) (r:Vals vs us)
  (x:InCallC s s.heap.objs.size (bindL (envOfC qual scope s.heap.objs.size f cd).kindOf (ps.zip us) fun _=>none) (cellsFrom (s.heap.objs.size+1) scope.names []) (bindC (envOfC qual scope s.heap.objs.size f cd).kindOf (ps.zip us) fun _=>none) s1) :
  Inv (ip CX P w K mg base N qual scope f cd A outer s H E) [] (start N vs) H s1:=by
 have hpl:ps.length<=N.length:=by have:=congrArg List.length S.pre;rw [List.length_take] at this;omega
 obtain⟨h1,tk,rfl,hk⟩:=x.done
 have noA:∀ b:Addr,b ∉ (ip CX P w K mg base N qual scope f cd A outer s H E).ex:=fun b z=>absurd (show b ∈ ([]:List Addr) from z) (by simp)
 refine⟨⟨e0.mod,S.kind,rfl,rfl,Nat.le_refl _,fun y z c h1 h2=>?_,fun y hy=>?_,fun y c _ h=>?_,fun _=>hd,Around.frames_deeper e0.frames,.inr ⟨rfl,rfl⟩,fun b z=>absurd z (noA b),e0.bs,e0.jg,fun b _ _=>noA b,fun b z=>absurd z (noA b),e0.ef,e0.lh⟩,
  rfl,e0.bare,Un.kept hk,⟨_,x.toInCall.ns,fun i y v h1 h2 h3=>?_⟩,fun y c h=>⟨_,x.cell y c h⟩,e0.aK.fresh (Nat.le_refl _),fun y c h=>?_,fun p hp=>absurd (show p ∈ ([]:List (Addr × Obj)) from hp) (by simp),e0.aK.kept hk,?_⟩
 ·exact name_of_addr x.apart (PySem.mem_of_lookup h1) (PySem.mem_of_lookup h2)
 ·have hy:scope.names.lookup y=some .cell\/scope.names.lookup y=some .free:=hy
  rcases hy with hy | hy
  ·exact j4 hy
  ·exact absurd rfl (S.rm _ (PySem.mem_of_lookup hy))
 ·exact Nat.le_of_lt (x.above y c (PySem.mem_of_lookup h))
 ·have hi:i < vs.length:=by
   unfold start at h2
   by_cases hi:i < vs.length
   ·exact hi
   ·rw [List.getElem?_append_right (by simpa using hi)] at h2
    rw [List.getElem?_replicate] at h2
    split at h2 <;> cases h2
  have ha:vs[i]? = some v:=by
   unfold start at h2
   rw [List.getElem?_append_left (by simpa using hi),List.getElem?_map] at h2
   cases e:vs[i]? with
   | none=>rw [e] at h2;cases h2
   | some a=>rw [e] at h2;cases h2;rfl
  obtain⟨u,hu,rv⟩:=r.get ha
  have hp:ps[i]? = some y:=by
   rw [<-S.pre,List.getElem?_take_of_lt (by omega)];exact h1
  have ndP:ps.Nodup:=by rw [<-S.pre];exact S.nd.sublist (List.take_sublist _ _)
  refine⟨u,rv,?_⟩
  rcases S.par y (List.mem_of_getElem? hp) with k | k
  ·exact .inl ⟨k,jn ndP hp hu k⟩
  ·obtain⟨c,e⟩:=j4 (n:=s.heap.objs.size+1) k
   refine .inr ⟨.inl k,c,e,?_⟩
   have q:=x.cell y c e
   rw [jo ndP hp hu (by show scope.names.lookup y ≠ _;rw [k];decide)] at q
   exact q
 ·exact e0.aK.fresh (Nat.le_of_lt (x.above y c (PySem.mem_of_lookup h)))
 ·unfold start
  show _=N.length
  rw [List.length_append,List.length_map,List.length_replicate]
  omega
theorem sC {CX:gs} {P:Program} {w:World} {K:PySem.W.Frag} {mg:Str->Option Value} {base:Heap} {k:Nat} {f:Addr} {name qual:Str} {params:Arguments} {body:List Stmt} {scope:Scope} {dV kV doc pm cdv ct oc:Value} {an od:Option Addr}
  {osl:Array (Option Value)} {N ps:List Str} {sp:Sp} (lk:K.lookup f=some ⟨oc,od,.func (PySem.W.fnOf name qual params body scope dV kV doc pm an cdv ct),osl⟩) (hcd:PySem.W.codeIn K cdv qual=true) (S:aP N ps scope)
  (len:∀ vs H Q E,sp vs H Q E->vs.length=ps.length)
  (hbody:∀ (A:Around) (outer:List Env) (s:Shared) (H:Hp) (vs:List V) (Q:VK) (E:XK),b7 k (A.deeper (envOfC qual scope s.heap.objs.size f cdv))->sp vs H Q E ->
   ∃ t,eg (ip CX P w K mg base N qual scope f cdv A outer s H E) body t/\t { nx:=fun _ H'=>Q .aO H',rt:=Q } (start N vs) H) :
  bg P w K mg base CX (k+1) f (PySem.W.fnOf name qual params body scope dV kV doc pm an cdv ct) ps sp:=by
 refine⟨len,fun A outer s H args us vs Q E hr e0 hb r hsp=>?_⟩
 have hl:=len _ _ _ _ hsp
 have KX:K.In s.heap:=e0.mod.qR.keeps fun b o e=>(e0.bs b o e).1
 have lim:s.heap.NoLimit:=e0.mod.nolimit.keeps fun b o e=>(e0.bs b o e).1
 have hkind:∀ y ∈ ps.zip us,scope.names.lookup y.1=some .local\/(scope.names.lookup y.1=some .cell/\((cellsFrom (s.heap.objs.size+1) scope.names []).lookup y.1).isSome=true):=fun ⟨n,v⟩ hy=>by
  rcases S.par n (List.of_mem_zip hy).1 with q | q
  ·exact .inl q
  ·exact .inr ⟨q,PySem.W.cellsFrom_some _ _ _ (.inl q)⟩
 refine codeAny_call_function hr.depth (KX _ _ lk) rfl S.co S.gen rfl (PySem.W.codeRec_of KX hcd) (hb _ _ _ _ ?_)
 refine wpAny_newFunctionEnv_cells S.kind hkind fun env he s1 x=>?_
 subst he
 refine⟨lim.keeps x.toInCall.keep,codeAny_func ?_⟩
 obtain⟨t,ht,hq⟩:=hbody A outer s H vs Q E (hr.deeper _) hsp
 have I:Inv (ip CX P w K mg base N qual scope f cdv A outer s H E) [] (start N vs) H s1:=nz S hr.hd e0 hl r x
 refine wpAny_mono (ht [] s1 (start N vs) H _ I hq) (fun fl s' hs=>?_) fun e s' hs=>hs
 have fin:∀ {σ':St} {H':Hp} {v:V} {u:Value},Inv (ip CX P w K mg base N qual scope f cdv A outer s H E) [] σ' H' s'->RelV v u->Q v H'->CE outer P w H s Q u s' :=
  fun {σ' H' v u} J rv q=>⟨v,H',J.os,J.bare,J.base,J.aK,rv,q⟩
 cases fl with
 | ret u =>
  obtain⟨v,σ',H',J,rv,q⟩:=hs
  exact fin J rv q
 | next =>
  obtain⟨σ',H',J,q⟩:=hs
  exact fin (v:=V.aO) (u:=Value.none) J rfl q
 | brk =>
  obtain⟨_,_,_,q⟩:=hs
  exact False.elim q
 | cont =>
  obtain⟨_,_,_,q⟩:=hs
  exact False.elim q
section
variable {X:Cx} {x:Str} {p pos:Pos} {e:Expr} {es:List Expr} {t:TA} {id T:String} {r:List V->Hp->VK->Prop}
def sX (r:List V->Hp->VK->Prop) (t:TA):TE:=fun σ H Q=>t σ H fun vs H1=>r vs H1 Q
theorem ai (hc:da X (.builtin id) r) (hg:Gl X x) (hm:X.mg x=none) (hv:bootBuiltins x=some (.builtin id)) (ha:PA X (e :: es) t) (hn:x ≠ "__name__" := by decide) (hdb:(x == ("__debug__" : Str))=false:=by decide)
  (he:starEach (e :: es) X.env=(false,eval e X.env) :: starEach es X.env:=by rfl) (hpl:(backTo pos (starEach es X.env)).any (·.1)=false:=by rfl):PE X (.Call (.Name x p) (e :: es) [] pos) (sX r t):=by
 intro pins s σ H Q I h
 refine wpAny_Call_Name_kw (fZ I hg hm hv ?_ hn hdb)
 exact PyProof.Rows.callWith_builtin1 (aM (ha pos pins s σ H _ I h) fun us s1 ⟨vs,H1,I1,r1,q1⟩=>hc pins s1 σ H1 vs us Q I1 r1 q1) he hpl
theorem cK (hc:da X (.type T) r) (hg:Gl X x) (hm:X.mg x=none) (hv:bootBuiltins x=some (.type T)) (ha:PA X (e :: es) t) (hn:x ≠ "__name__" := by decide) (hdb:(x == ("__debug__" : Str))=false:=by decide)
  (he:starEach (e :: es) X.env=(false,eval e X.env) :: starEach es X.env:=by rfl) (hpl:(backTo pos (starEach es X.env)).any (·.1)=false:=by rfl):PE X (.Call (.Name x p) (e :: es) [] pos) (sX r t):=by
 intro pins s σ H Q I h
 refine wpAny_Call_Name_kw (fZ I hg hm hv ?_ hn hdb)
 exact PyProof.Rows.callWith_type1 (aM (ha pos pins s σ H _ I h) fun us s1 ⟨vs,H1,I1,r1,q1⟩=>hc pins s1 σ H1 vs us Q I1 r1 q1) he hpl
end
end L2
namespace HT
open PySem PyProof.Rows
section
open PySem.SeqAt
open PySem.AutoSeq1 (wpAny_loadPart')
open PySem.MeetsSeq PySem.MeetsSeq2 PySem.MeetsSeq3
end
section
variable {prog:Program} {w:World} {A:Around} {E:Value->Shared->Prop} {s:Shared}
theorem qc {t b:Addr} {vs ws:List Value} {Q:Value->Shared->Prop} (ht:IsTup s.heap t vs.toArray) (hb:IsTup s.heap b ws.toArray) (hv:vs ≠ [])
  (h1:ws = []->Q (.ref t) s) (h2:ws ≠ []->Q (.ref s.heap.objs.size) { s with heap:=s.heap.push { cls:=.type "tuple",data:=.seq (vs++ws).toArray } })
  (hsz:vs.length+ws.length<=sizeLine):wpAny (model prog w) A (binaryOp .Add (.ref t) (.ref b)) Q E s:=by
 obtain⟨⟨cls,dd,data,sl⟩,ho,hc,n,hd⟩:=id ht
 obtain⟨⟨cls2,dd2,data2,sl2⟩,ho2,hc2,n2,hd2⟩:=id hb
 simp only at hc hd hc2 hd2
 subst hc hd hc2 hd2
 have e:vs.toArray++ws.toArray=(vs++ws).toArray:=by simp
 by_cases hw:ws = []
 ·exact concat_meets ⟨_,ho,rfl⟩ ⟨_,ho2,rfl⟩ noFill_tuple_add seq_tuple_add PySem.F.slot_tuple_add PySem.F.entry_tuple_add (PySem.F.args_tuple_add_2 _ _)
   (tuple_addW1 t b vs.toArray ws.toArray n n2 dd dd2 sl sl2 (by simpa using hv) (by simp [hw])) ⟨ho,ho2,h1 hw⟩
 ·refine concat_meets ⟨_,ho,rfl⟩ ⟨_,ho2,rfl⟩ noFill_tuple_add seq_tuple_add PySem.F.slot_tuple_add PySem.F.entry_tuple_add (PySem.F.args_tuple_add_2 _ _)
   (tuple_addW2 t b vs.toArray ws.toArray n n2 dd dd2 sl sl2 (by simpa using hv) (by simpa using hw) (by rw [List.size_toArray,List.size_toArray];exact hsz)) ⟨ho,ho2,?_⟩
  rw [e]
  exact h2 hw
def aX (n d:Nat):Option Int->Nat
 | none=>d
 | some v=>if v < 0 then (v+(n:Int)).toNat else min v.toNat n
theorem j5 (n d:Nat):aX n d none=d:=rfl
theorem gW (n d k:Nat):aX n d (some (k:Int))=min k n:=by
 show (if (k:Int) < 0 then ((k:Int)+(n:Int)).toNat else min (k:Int).toNat n)=min k n
 rw [if_neg (by omega),Int.toNat_natCast]
theorem rp (n d:Nat) (hd:d<=n) (o:Option Int):aX n d o<=n:=by
 cases o with
 | none=>exact hd
 | some v =>
  show (if v < 0 then (v+(n:Int)).toNat else min v.toNat n)<=n
  by_cases hv:v < 0
  ·rw [if_pos hv];omega
  ·rw [if_neg hv];exact Nat.min_le_right _ _
theorem lH (v:Int) (n d:Nat):(if v < 0 then max (v+(n:Int)) 0 else min v (n:Int))=((aX n d (some v):Nat):Int):=by
 show (if v < 0 then max (v+(n:Int)) 0 else min v (n:Int))=(((if v < 0 then (v+(n:Int)).toNat else min v.toNat n):Nat):Int)
 by_cases hv:v < 0
 ·simp only [if_pos hv];omega
 ·simp only [if_neg hv];omega
theorem mz (lo hi:Option Int) (n:Nat):Builtin.Slice.sliceAdjust lo hi 1 (n:Int)=(((aX n 0 lo:Nat):Int),((aX n n hi:Nat):Int)):=by
 have h1:¬ ((1:Int) < 0):=by omega
 unfold Builtin.Slice.sliceAdjust
 simp only [h1,if_false]
 refine Prod.ext ?_ ?_
 ·cases lo with
  | none=>rfl
  | some v=>exact lH v n 0
 ·cases hi with
  | none=>rfl
  | some v=>exact lH v n n
theorem mB (i j:Nat):Builtin.Slice.slicePlaces (i:Int) (j:Int) 1=j - i:=by
 unfold Builtin.Slice.slicePlaces
 have h1:(1:Int) > 0:=by omega
 simp only [h1,if_true,Int.ediv_one]
 split <;> omega
theorem iJ {v:Value} {o:Option Int} {Q:Option Int->Shared->Prop} (p:IsPart v o) (h:Q o s):wpAny (model prog w) A (Builtin.Slice.slicePartIndex v) Q E s:=by
 cases p with
 | none=>exact slicePart_none h
 | int i t=>exact slicePart_int h
theorem eu {sl:Addr} {vl vu:Value} {lo hi:Option Int} {n:Nat} {Q:Int × Int × Nat->Shared->Prop} (hs:s.heap.IsSliceOf sl vl vu .none) (pl:IsPart vl lo) (pu:IsPart vu hi)
  (h:Q (((aX n 0 lo:Nat):Int),1,aX n n hi - aX n 0 lo) s):wpAny (model prog w) A (Builtin.Slice.sliceApplied (.ref sl) (pure (n:Int))) Q E s:=by
 obtain⟨os,hos,hcs,hds⟩:=id hs
 unfold Builtin.Slice.sliceApplied Builtin.Slice.sliceFields
 refine wpAny_bind (wpAny_bind (wpAny_field hos hds (x:=vl) rfl (wpAny_bind (wpAny_field hos hds (x:=vu) rfl (wpAny_bind (wpAny_field hos hds (x:=.none) rfl (wpAny_pure ?_)))))))
 refine wpAny_bind (slicePart_none ?_)
 show wpAny _ _ (if ((1:Int) == 0)=true then _ else _) _ _ s
 rw [if_neg (by decide)]
 refine wpAny_bind (iJ pl (wpAny_bind (iJ pu (wpAny_bind (wpAny_pure ?_)))))
 show wpAny _ _ (match Builtin.Slice.sliceAdjust lo hi 1 (n:Int) with | (lo,hi)=>pure (lo,(1:Int),Builtin.Slice.slicePlaces lo hi 1)) _ _ s
 rw [mz lo hi n]
 show wpAny _ _ (pure (((aX n 0 lo:Nat):Int),(1:Int),Builtin.Slice.slicePlaces ((aX n 0 lo:Nat):Int) ((aX n n hi:Nat):Int) 1)) _ _ s
 rw [mB]
 exact wpAny_pure h
theorem oH (xs:Array Value) (i k:Nat):((List.range k).filterMap fun (m:Nat)=>xs[((i:Int)+(m:Int) * 1).toNat]?).toArray=((xs.toList.drop i).take k).toArray:=by
 have e:(fun (m:Nat)=>xs[((i:Int)+(m:Int) * 1).toNat]?)=fun m=>xs[i+m]?:=by
  funext m
  have:((i:Int)+(m:Int) * 1).toNat=i+m:=by omega
  rw [this]
 rw [e]
 have:=pick_run xs i k
 rw [List.filterMap_map] at this
 have e2:((fun x=>xs[x]?) ∘ fun x=>i+x)=fun m=>xs[i+m]?:=rfl
 rw [e2] at this
 rw [this]
theorem hV {t sl:Addr} {items:Array Value} {vl vu:Value} {lo hi:Option Int} {Q:Value->Shared->Prop} (ht:IsTup s.heap t items) (hs:s.heap.IsSliceOf sl vl vu .none) (pl:IsPart vl lo) (pu:IsPart vu hi)
  (hw:¬ (aX items.size 0 lo=0/\aX items.size items.size hi=items.size))
  (h:Q (.ref s.heap.objs.size) { s with heap:=s.heap.push { cls:=.type "tuple",data:=.seq ((items.toList.drop (aX items.size 0 lo)).take (aX items.size items.size hi - aX items.size 0 lo)).toArray } })
  (hsz:items.size<=sizeLine):wpAny (model prog w) A (getItem (.ref t) (.ref sl)) Q E s:=by
 have htake:sizeOk (.seq ((items.toList.drop (aX items.size 0 lo)).take (aX items.size items.size hi - aX items.size 0 lo)).toArray):=by
  show ((items.toList.drop (aX items.size 0 lo)).take (aX items.size items.size hi - aX items.size 0 lo)).toArray.size<=sizeLine
  rw [List.size_toArray,List.length_take,List.length_drop,Array.length_toList]
  omega
 have hj:aX items.size items.size hi<=items.size:=rp _ _ (Nat.le_refl _) hi
 obtain⟨os,hos,hcs,hds⟩:=id hs
 have hTs:s.TypeIs (.ref sl) "slice" := ⟨os,hos,hcs⟩
 unfold getItem
 try with_reducible refine wpAny_holding ?_
 first | refine wpAny_bind (wpAny_pure ?_) | skip
 refine wpAny_bind (wpAny_sequenceKey ht.typeIs (by decide) ?_)
 refine wpAny_bind (wpAny_callSpecial?_slot (name:=Str.ofString "__getitem__") ht.typeIs PyProof.Rows.slot_tuple_getitem
  (wpAny_call_entry PyProof.Rows.slot_tuple_getitem ht.typeIs entry_tuple_getitem ?_ (args_tuple_getitem _ _)))
 show wpAny _ _ (Builtin.Tuple.tupleItemsOf (.ref t) >>= _) _ _ s
 refine wpAny_bind (tupleItemsOf_ ht ?_)
 refine wpAny_bind (wpAny_typeOf hTs ?_)
 rw [if_pos (by decide)]
 refine wpAny_bind (eu hs pl pu ?_)
 have hno:¬ ((((aX items.size 0 lo:Nat):Int) == 0 && (1:Int) == 1 && (aX items.size items.size hi - aX items.size 0 lo) == items.size)=true):=by
  intro q
  rw [Bool.and_eq_true,Bool.and_eq_true] at q
  have q1:((aX items.size 0 lo:Nat):Int)=0:=eq_of_beq q.1.1
  have q2:aX items.size items.size hi - aX items.size 0 lo=items.size:=eq_of_beq q.2
  exact hw ⟨by omega,by omega⟩
 show wpAny _ _ (if (((aX items.size 0 lo:Nat):Int) == 0 && (1:Int) == 1 && (aX items.size items.size hi - aX items.size 0 lo) == items.size)=true then _ else _) _ _ s
 rw [if_neg hno,oH]
 first
  | exact wpAny_bind (m:=Builtin.Tuple.tupleExact _) (wpAny_newObj_type (wpAny_pure ⟨_,rfl,wpAny_pure h⟩) htake)
  | exact wpAny_bind (m:=Builtin.Tuple.tupleExact _) (wpAny_newObj_type (wpAny_bind (wpAny_pure (wpAny_pure ⟨_,rfl,wpAny_pure h⟩))) htake)
  | exact wpAny_bind (wpAny_bind (m:=Builtin.Tuple.tupleExact _) (wpAny_newObj_type (wpAny_pure (wpAny_pure ⟨_,rfl,wpAny_pure h⟩)) htake))
  | exact wpAny_bind (wpAny_bind (m:=Builtin.Tuple.tupleExact _) (wpAny_newObj_type (wpAny_pure ⟨_,rfl,wpAny_pure h⟩) htake))
end
end HT
namespace L2
open PySem PySem.Spec PyProof.Rows
abbrev TO:=St->Hp->(Option Int->Hp->Prop)->Prop
def PO (X:Cx) (e:Option Expr) (t:TO):Prop :=
 ∀ (pins:List (Addr × Obj)) (s:Shared) (σ : St) (H:Hp) (Q:Option Int->Hp->Prop),Inv X pins σ H s->t σ H Q ->
  wpAny (model X.prog X.w) X.A (evalPart e X.env) (fun u s'=>∃ o H',Inv X pins σ H' s'/\IsPart u o/\Q o H') X.xe s
def qd:TO:=fun _ H Q=>Q none H
inductive oI (Q:(Option Int->Hp->Prop)) (x:V) (H1:Hp):Prop
 | mk (i:_) (_:x=.int i) (_:Q (some i) H1)
def sD (t:TE):TO:=fun σ H Q=>t σ H fun x H1=>oI Q x H1
section
variable {X:Cx} {e:Expr} {te:TE} {lo hi:Option Expr} {tl th:TO} {pos p2:Pos}
theorem b8:PO X none qd:=by
 intro pins s σ H Q I h
 rw [evalPart_none]
 exact wpAny_pure ⟨none,H,I,.none,h⟩
theorem bY (h:PE X e te):PO X (some e) (sD te):=by
 intro pins s σ H Q I hw
 rw [evalPart_some]
 refine aM (h pins s σ H _ I hw) fun u s1 ⟨x,H1,I1,r1,q1⟩=>?_
 obtain⟨i,rfl,q⟩:=q1
 obtain⟨t,rfl⟩:=r1
 exact⟨some i,H1,I1,.int i t,q⟩
def pK (X:Cx) (r:V->Option Int->Option Int->Hp->VK->Prop):Prop :=
 ∀ (pins:List (Addr × Obj)) (s:Shared) (σ : St) (H:Hp) (x:V) (v vl vu:Value) (lo hi:Option Int) (sl:Addr) (Q:VK),Inv X pins σ H s->RelV x v->s.heap.IsSliceOf sl vl vu .none->IsPart vl lo->IsPart vu hi->r x lo hi H Q ->
  ∃ T id,typeLookup (.type T) "__getitem__" = pure (some (.builtin id))/\s.TypeIs v T/\wpAny (model X.prog X.w) X.A (getItem v (.ref sl)) (EP X pins σ Q) X.xe s
def ui (r:V->Option Int->Option Int->Hp->VK->Prop) (te:TE) (tl th:TO):TE:=fun σ H Q=>te σ H fun x H1=>tl σ H1 fun l H2=>th σ H2 fun u H3=>r x l u H3 Q
theorem bP {r:V->Option Int->Option Int->Hp->VK->Prop} (hr:pK X r) (he:PE X e te) (hl:PO X lo tl) (hu:PO X hi th):PE X (.Subscript e (.Slice lo hi none p2) pos) (ui r te tl th):=by
 intro pins s σ H Q I h
 refine Subscript_ (aM (he pins s σ H _ I h) fun v s1 ⟨x,H1,I1,r1,q1⟩=>?_)
 refine wpAny_Slice (aM (hl pins s1 σ H1 _ I1 q1) fun vl s2 ⟨l,H2,I2,pl,q2⟩=>aM (hu pins s2 σ H2 _ I2 q2) fun vu s3 ⟨u,H3,I3,pu,q3⟩=>?_)
 rw [evalPart_none]
 refine wpAny_pure ?_
 have I4:Inv X pins σ H3 { s3 with heap:=s3.heap.push { cls:=.type "slice",data:=.fields #[vl,vu,.none] } }:=I3.kept (t':=s3.toks) fun b ob q=>Heap.get?_push_of_some _ q
 obtain⟨T,id,hT,ht,hg⟩:=hr pins { s3 with heap:=s3.heap.push { cls:=.type "slice",data:=.fields #[vl,vu,.none] } } σ H3 x v vl vu l u s3.heap.objs.size Q I4 r1 (Heap.IsSliceOf.new ..) pl pu q3
 show wpAny (model X.prog X.w) X.A (subscriptTail e (.Slice lo hi none p2) v (.ref s3.heap.objs.size)) (EP X pins σ Q) X.xe { s3 with heap:=s3.heap.push { cls:=.type "slice",data:=.fields #[vl,vu,.none] } }
 exact tail_any (ops:=[.ref s3.heap.objs.size,v]) ht hT hg (by with_unfolding_all rfl)
def cH (xs:List V) (lo hi:Option Int):List V:=(xs.drop (HT.aX xs.length 0 lo)).take (HT.aX xs.length xs.length hi - HT.aX xs.length 0 lo)
theorem kO (xs:List V) (lo hi:Option Int):(cH xs lo hi).length<=xs.length:=by
 unfold cH
 rw [List.length_take,List.length_drop]
 omega
inductive tR (K:PySem.W.Frag) (x:V) (lo:Option Int) (hi:Option Int) (H:Hp) (Q:VK):Prop
 | mk (a xs:_) (_:x=.ref a) (_:aG K H a xs) (_:¬ (HT.aX xs.length 0 lo=0/\HT.aX xs.length xs.length hi=xs.length)) (_:∀ p,H p=none->Q (.ref p) (upd H p (.tup (cH xs lo hi))))
theorem rq:pK X (tR X.K):=by
 intro pins s σ H x v vl vu lo hi sl Q I rx hs pl pu h
 obtain⟨a,xs,rfl,hx,hw,q⟩:=h
 cases rx
 obtain⟨its,r,ht,hz⟩:=I.tuple hx
 have hlen:its.toArray.size=xs.length:=by rw [List.size_toArray];exact r.length.symm
 refine⟨"tuple",_,PyProof.Rows.slot_tuple_getitem.lookup,ht.typeIs,?_⟩
 refine HT.hV ht hs pl pu (by rw [hlen];exact hw) ?_ (by rw [hlen];exact hz)
 rw [hlen]
 refine⟨.ref s.heap.objs.size,_,I.laid (t':=s.toks) (o:=.tup (cH xs lo hi)) (fun b ob q=>Heap.get?_push_of_some _ q) (Nat.le_refl _) ?_,rfl,q _ (I.aK.fresh (Nat.le_refl _))⟩
 exact⟨Nat.le_trans (kO xs lo hi) hz,_,(r.drop (HT.aX xs.length 0 lo)).take (HT.aX xs.length xs.length hi - HT.aX xs.length 0 lo),⟨_,Heap.get?_push_size _ rfl,rfl,_,rfl,rfl⟩⟩
theorem Vals.gX {xs:List V} {us:List Value} (r:Vals xs us):us = [] ↔ xs = []:=by
 cases r with
 | nil=>simp
 | cons _ _=>simp
end
def iK (n:Nat) (i:Int):Option Nat:=if 0<=i then (if i < n then some i.toNat else none) else if -(n:Int)<=i then some (i+n).toNat else none
def dh {α : Type} (xs:List α) (i:Int):Option α:=(iK xs.length i).bind fun j=>xs[j]?
theorem lI {n:Nat} {i:Int} {j:Nat} (h:iK n i=some j):seqIndex? i n=some j/\j < n/\-(n:Int)<=i/\i < n:=by
 unfold iK at h
 by_cases h0:0<=i
 ·rw [if_pos h0] at h
  by_cases h1:i < n
  ·rw [if_pos h1] at h
   have e:i.toNat=j:=Option.some.inj h
   exact⟨by rw [seqIndex_of h0 h1,e],by omega,by omega,h1⟩
  ·rw [if_neg h1] at h;cases h
 ·rw [if_neg h0] at h
  by_cases h1:-(n:Int)<=i
  ·rw [if_pos h1] at h
   have e:(i+n).toNat=j:=Option.some.inj h
   exact⟨by rw [seqIndex_neg (by omega) h1,e],by omega,h1,by omega⟩
  ·rw [if_neg h1] at h;cases h
theorem iZ {α : Type} {xs:List α} {i:Int} {v:α} (h:dh xs i=some v):∃ j,seqIndex? i xs.length=some j/\xs[j]? = some v/\j < xs.length/\-(xs.length:Int)<=i/\i < xs.length:=by
 unfold dh at h
 cases e:iK xs.length i with
 | none=>rw [e] at h;cases h
 | some j =>
  rw [e] at h
  obtain⟨h1,h2,h3,h4⟩:=lI e
  exact⟨j,h1,h,h2,h3,h4⟩
theorem b3 {α : Type} {xs:List α} {j:Nat} {v:α} (h:xs[j]? = some v):dh xs (j:Int)=some v:=by
 have hj:j < xs.length:=(List.getElem?_eq_some_iff.mp h).1
 have e:iK xs.length (j:Int)=some j:=by
  unfold iK
  rw [if_pos (by omega),if_pos (by omega)];simp
 unfold dh;rw [e];exact h
def i0 (b:Expr):Prop:=∀ o i,subscripted b false o i=operate [o,i] (getItem o i)
def lJ (X:Cx) (r:R2):Prop :=
 ∀ (value slice:Expr) (pins:List (Addr × Obj)) (s:Shared) (σ : St) (H:Hp) (x y:V) (v u:Value) (Q:VK),Inv X pins σ H s->RelV x v->RelV y u->r x y H Q ->
  subscripted slice false v u=operate [v,u] (getItem v u)->wpAny (model X.prog X.w) X.A (subscriptTail value slice v u) (EP X pins σ Q) X.xe s
def rA (X:Cx) (id:String) (r:V->List V->Hp->VK->Prop):Prop :=
 ∀ (pins:List (Addr × Obj)) (s:Shared) (σ : St) (H:Hp) (x:V) (xs:List V) (v:Value) (us:List Value) (Q:VK),Inv X pins σ H s->RelV x v->Vals xs us->r x xs H Q ->
  wpAny (model X.prog X.w) X.A (call (.builtin id) (v :: us)) (EP X pins σ Q) X.xe s
section
variable {X:Cx} {a b:Expr} {ta tb:TE} {pos:Pos}
theorem sE {r:R2} (hr:lJ X r) (ha:PE X a ta) (hb:PE X b tb) (hs:i0 b):PE X (.Subscript a b pos) (j0 r ta tb):=by
 intro pins s σ H Q I h
 exact Subscript_ (oD ha hb I h fun v u s2 x y H2 I2 rx ry q=>hr a b pins s2 σ H2 x y v u Q I2 rx ry q (hs _ _))
inductive tS (K:PySem.W.Frag) (x:V) (y:V) (H:Hp) (Q:VK):Prop
 | mk (p xs i v:_) (_:x=.ref p) (_:y=.int i) (_:aW K H p xs) (_:dh xs i=some v) (_:Q v H)
inductive tT (K:PySem.W.Frag) (x:V) (y:V) (H:Hp) (Q:VK):Prop
 | mk (p xs i v:_) (_:x=.ref p) (_:y=.int i) (_:aG K H p xs) (_:dh xs i=some v) (_:Q v H)
inductive tU  (x:V) (y:V) (H:Hp) (Q:VK):Prop
 | mk (z i c:_) (_:x=.str z) (_:y=.int i) (_:z.length<=sizeLine) (_:dh z.cps.toList i=some c) (_:Q (.str ⟨#[c]⟩) H)
theorem bF:lJ X (tS X.K):=by
 intro value slice pins s σ H x y v u Q I rx ry h hs
 obtain⟨p,xs,i,z,rfl,rfl,hq,he,q⟩:=h
 cases rx
 obtain⟨t,rfl⟩:=ry
 obtain⟨its,r,pl,hz⟩:=I.list hq
 obtain⟨j,h1,h2,h3,h4,h5⟩:=iZ he
 obtain⟨w,ew,rw'⟩:=r.get h2
 have hl:=r.length
 have hn:=fo
 have fin:EP X pins σ Q w s:=⟨z,H,I,rw',q⟩
 by_cases h0:0<=i
 ·have hj:i.toNat=j:=by
   rw [seqIndex_of h0 h5] at h1
   exact Option.some.inj h1
  exact item_listR pl.isList h0 (by omega) (by rw [hj];simpa using ew) fin hs
 ·have hj:(i+(its.toArray.size:Int)).toNat=j:=by
   rw [seqIndex_neg (by omega) h4] at h1
   rw [List.size_toArray,<-hl]
   exact Option.some.inj h1
  exact subscriptTail_builtinR (x:=w) pl.isList.typeIs slot_list_getitem.lookup
   (wpAny_getItem_list_neg (Q:=fun r s'=>r=w/\EP X pins σ Q r s') pl.isList (by omega) (by rw [List.size_toArray] <;> omega) (by omega) (by rw [hj];simpa using ew) ⟨rfl,fin⟩) hs
theorem bO:lJ X (tT X.K):=by
 intro value slice pins s σ H x y v u Q I rx ry h hs
 obtain⟨p,xs,i,z,rfl,rfl,hq,he,q⟩:=h
 cases rx
 obtain⟨t,rfl⟩:=ry
 obtain⟨its,r,pl,hz⟩:=I.tuple hq
 obtain⟨j,h1,h2,h3,h4,h5⟩:=iZ he
 obtain⟨w,ew,rw'⟩:=r.get h2
 have hl:=r.length
 have hn:=fo
 have fin:EP X pins σ Q w s:=⟨z,H,I,rw',q⟩
 exact subscriptTail_builtinR (x:=w) pl.typeIs slot_tuple_getitem.lookup
  (getItem_tuple (j:=j) (Q:=fun r s'=>r=w/\EP X pins σ Q r s') pl (by omega) (by omega) (by rw [List.size_toArray,<-hl];exact h1) (by simpa using ew) ⟨rfl,fin⟩) hs
theorem nA:lJ X tU:=by
  intro value slice pins s σ H x y v u Q I rx ry h hs
  obtain⟨z,i,c,rfl,rfl,hz,he,q⟩:=h
  obtain⟨t,rfl⟩:=rx
  obtain⟨t',rfl⟩:=ry
  obtain⟨j,h1,h2,h3,h4,h5⟩:=iZ he
  have hl:z.cps.toList.length=z.length:=by simp [Str.length]
  rw [hl] at h1 h4 h5
  have hn:=fo
  exact tail_any (typeIs_str s z t) slot_str_getitem.lookup (getItem_str (c:=c) (by
    have e1:decide (i < -(2 ^ 63:Int))=false:=decide_eq_false (by omega)
    have e2:decide (i >= 2 ^ 63)=false:=decide_eq_false (by omega)
    rw [e1,e2,Bool.or_false]) (by rw [h1];simpa using h2) ⟨.str ⟨#[c]⟩,H,I.tok _,⟨_,rfl⟩,q⟩) hs
theorem mC (its:List Value) (n j:Nat) (u:Value):Obj.mapSeq (·.setIfInBounds j u) { cls:=.type "list",data:=.seq its.toArray n } = { cls:=.type "list",data:=.seq (its.set j u).toArray n }:=by
 simp [Obj.mapSeq]
theorem Inv.lst {pins:List (Addr × Obj)} {σ : St} {H:Hp} {s:Shared} {p:Addr} {xs:List V} (I:Inv X pins σ H s) (h:H p=some (.lst xs)) :
  ∃ (its:List Value) (n:Nat),Vals xs its/\s.heap.get? p=some { cls:=.type "list",data:=.seq its.toArray n }/\xs.length<=sizeLine:=by
 obtain⟨z,its,n,r,e⟩:=I.aK p _ h
 exact⟨its,n,r,e,z⟩
theorem Inv.rB {pins:List (Addr × Obj)} {σ : St} {H:Hp} {s:Shared} {p:Addr} {xs ys:List V} {its its':List Value} {n n':Nat} {f:Obj->Obj} (I:Inv X pins σ H s) (h:H p=some (.lst xs))
  (ho:s.heap.get? p=some { cls:=.type "list",data:=.seq its.toArray n }) (hf:f { cls:=.type "list",data:=.seq its.toArray n } = { cls:=.type "list",data:=.seq its'.toArray n' }) (r:Vals ys its') (hz:ys.length<=sizeLine) (t:Nat) :
  Inv X pins σ (upd H p (.lst ys)) { s with heap:=s.heap.update p f,toks:=t }:=by
 have e:(s.heap.update p f).get? p=some { cls:=.type "list",data:=.seq its'.toArray n' }:=by
  rw [Heap.get?_update_self f ho (by rw [hf] <;> rfl),hf]
 refine I.write (x:=p) (e:=p) (by rw [h];trivial) (.inl rfl) (fun b u hb q=>(Heap.get?_update_other _ _ (Ne.symm hb)).trans q) ⟨_,e⟩ ?_
 exact⟨hz,its',n',r,e⟩
inductive sF  (o:V) (i:V) (v:V) (H:Hp) (Q:(Hp->Prop)):Prop
 | mk (p xs k j:_) (_:o=.ref p) (_:i=.int k) (_:H p=some (.lst xs)) (_:iK xs.length k=some j) (_:Q (upd H p (.lst (xs.set j v))))
theorem set_list:qX X sF:=by
 intro pins s σ H o i v ov iv u Q I ro ri rv h
 obtain⟨p,xs,k,j,rfl,rfl,hp,hj,q⟩:=h
 cases ro
 obtain⟨t,rfl⟩:=ri
 obtain⟨its,n,r,ho,hz⟩:=I.lst hp
 obtain⟨h1,h2,h3,h4⟩:=lI hj
 have hl:=r.length
 have hn:=fo
 have I':Inv X pins σ (upd H p (.lst (xs.set j v))) { s with heap:=s.heap.update p (Obj.mapSeq (·.setIfInBounds j u)) } :=
  I.rB hp ho (mC its n j u) (r.set rv j) (by rw [List.length_set];exact hz) s.toks
 by_cases h0:0<=k
 ·have hk:k.toNat=j:=by
   rw [seqIndex_of h0 h4] at h1
   exact Option.some.inj h1
  exact PySem.W.ki_setAt ho h0 (by omega) (by rw [List.size_toArray,<-hl];exact h4) (by rw [hk];exact⟨_,I',q⟩)
 ·have hk:(k+(its.toArray.size:Int)).toNat=j:=by
   rw [seqIndex_neg (by omega) h3] at h1
   rw [List.size_toArray,<-hl]
   exact Option.some.inj h1
  exact PySem.W.ki_setBack ho (by omega) (by rw [List.size_toArray,<-hl];exact h3) (by omega) (by rw [hk];exact⟨_,I',q⟩)
def dQ:V->Bool
 | .aO=>true
 | .bl _=>true
 | .int _=>true
 | .str _=>true
 | _=>false
def iL:V->V->Bool
 | .aO,.aO=>true
 | .bl a,.bl b=>a == b
 | .bl a,.int b=>(if a then 1 else 0) == b
 | .int a,.bl b=>a == (if b then 1 else 0)
 | .int a,.int b=>a == b
 | .str a,.str b=>a == b
 | _,_=>false
theorem rC {A:Around} {s:Shared} {y x:V} {u v:Value} (ry:RelV y u) (rx:RelV x v) (fy:dQ y=true) (fx:dQ x=true):SeqAt.EqAt A s u v (iL y x):=by
 cases y with
 | aO =>
  cases ry
  cases x with
  | aO=>cases rx;exact SeqAt.EqAt.same _
  | bl b=>cases rx;exact SeqAt.EqAt.none_bool b
  | int b=>obtain⟨t,rfl⟩:=rx;exact SeqAt.EqAt.none_int b t
  | str b=>obtain⟨t,rfl⟩:=rx;exact SeqAt.EqAt.none_str b t
  | _=>exact absurd (show false=true from fx) Bool.false_ne_true
 | bl a =>
  cases ry
  cases x with
  | aO=>cases rx;exact SeqAt.EqAt.bool_none a
  | bl b=>cases rx;exact SeqAt.EqAt.bool_bool a b
  | int b=>obtain⟨t,rfl⟩:=rx;exact SeqAt.EqAt.bool_int a b t
  | str b=>obtain⟨t,rfl⟩:=rx;exact SeqAt.EqAt.bool_str a b t
  | _=>exact absurd (show false=true from fx) Bool.false_ne_true
 | int a =>
  obtain⟨t',rfl⟩:=ry
  cases x with
  | aO=>cases rx;exact SeqAt.EqAt.int_none a t'
  | bl b=>cases rx;exact SeqAt.EqAt.int_bool a t' b
  | int b=>obtain⟨t,rfl⟩:=rx;exact SeqAt.EqAt.int_int a t' b t
  | str b=>obtain⟨t,rfl⟩:=rx;exact SeqAt.EqAt.int_str a t' b t
  | _=>exact absurd (show false=true from fx) Bool.false_ne_true
 | str a =>
  obtain⟨t',rfl⟩:=ry
  cases x with
  | aO=>cases rx;exact SeqAt.EqAt.str_none a t'
  | bl b=>cases rx;exact SeqAt.EqAt.str_bool a t' b
  | int b=>obtain⟨t,rfl⟩:=rx;exact SeqAt.EqAt.str_int a t' b t
  | str b=>obtain⟨t,rfl⟩:=rx;exact SeqAt.EqAt.str_str a t' b t
  | _=>exact absurd (show false=true from fx) Bool.false_ne_true
 | _=>exact absurd (show false=true from fy) Bool.false_ne_true
def eB (x:V) (u:Value):Bool:=match u with
 | .none=>iL .aO x
 | .bool b=>iL (.bl b) x
 | .int i _=>iL (.int i) x
 | .str z _=>iL (.str z) x
 | _=>false
theorem nB {x y:V} {u:Value} (r:RelV y u) (f:dQ y=true):eB x u=iL y x:=by
 cases y with
 | aO=>cases r;rfl
 | bl b=>cases r;rfl
 | int i=>obtain⟨t,rfl⟩:=r;rfl
 | str z=>obtain⟨t,rfl⟩:=r;rfl
 | _=>exact absurd (show false=true from f) Bool.false_ne_true
theorem fq {x:V}:∀ {xs:List V} {us:List Value},Vals xs us->xs.all dQ=true->us.any (eB x)=xs.any fun y=>iL y x
 | _,_,.nil,_=>rfl
 | y :: xs,u :: us,.cons r t,f=>by
  rw [List.all_cons,Bool.and_eq_true] at f
  rw [List.any_cons,List.any_cons,nB r f.1,fq t f.2]
theorem eC {A:Around} {s:Shared} {x:V} {v:Value} (rx:RelV x v) (fx:dQ x=true):∀ {xs:List V} {us:List Value},Vals xs us->xs.all dQ=true->∀ u ∈ us,SeqAt.EqAt A s u v (eB x u)
 | _,_,.nil,_=>fun u hu=>by cases hu
 | y :: xs,u :: us,.cons r t,f=>fun u' hu=>by
  rw [List.all_cons,Bool.and_eq_true] at f
  rcases List.mem_cons.mp hu with rfl | hu
  ·rw [nB r f.1];exact rC r rx f.1 fx
  ·exact eC rx fx t f.2 u' hu
def j6 (x:V) (xs:List V):Bool:=xs.any fun y=>iL y x
inductive sY (K:PySem.W.Frag) (neg:Bool) (x:V) (y:V) (H:Hp) (Q:VK):Prop
 | mk (p xs:_) (_:y=.ref p) (_:(aW K H p xs\/aG K H p xs)) (_:dQ x=true) (_:xs.all dQ=true) (_:Q (.bl (if neg then !j6 x xs else j6 x xs)) H)
theorem gu:bW X (compareOp .In) (sY X.K false):=by
 intro pins s σ H x y v u Q I rx ry h
 obtain⟨p,xs,rfl,hq,fx,fs,q⟩:=h
 cases ry
 rcases hq with hq | hq
 ·obtain⟨its,r,pl,hz⟩:=I.list hq
  refine SeqAt.in_listAt (eB x) pl.isList (fun w hw=>eC rx fx r fs w (by simpa using hw)) ⟨.bl _,H,I,rfl,?_⟩
  rw [show its.toArray.any (eB x)=its.any (eB x) by simp,fq r fs]
  exact q
 ·obtain⟨its,r,pl,hz⟩:=I.tuple hq
  refine SeqAt.in_tupleAt (eB x) pl (fun w hw=>eC rx fx r fs w (by simpa using hw)) ⟨.bl _,H,I,rfl,?_⟩
  rw [show its.toArray.any (eB x)=its.any (eB x) by simp,fq r fs]
  exact q
theorem j7:bW X (compareOp .NotIn) (sY X.K true):=by
 intro pins s σ H x y v u Q I rx ry h
 obtain⟨p,xs,rfl,hq,fx,fs,q⟩:=h
 cases ry
 rcases hq with hq | hq
 ·obtain⟨its,r,pl,hz⟩:=I.list hq
  refine SeqAt.notIn_listAt (eB x) pl.isList (fun w hw=>eC rx fx r fs w (by simpa using hw)) ⟨.bl _,H,I,rfl,?_⟩
  rw [show its.toArray.any (eB x)=its.any (eB x) by simp,fq r fs]
  exact q
 ·obtain⟨its,r,pl,hz⟩:=I.tuple hq
  refine SeqAt.notIn_tupleAt (eB x) pl (fun w hw=>eC rx fx r fs w (by simpa using hw)) ⟨.bl _,H,I,rfl,?_⟩
  rw [show its.toArray.any (eB x)=its.any (eB x) by simp,fq r fs]
  exact q
theorem j8:bW X (compareOp .NotIn) (fun x y H Q=>∃ i j,x=.str i/\y=.str j/\Q (.bl (!(!(Builtin.Str.occurrences j i 0 j.length 1).isEmpty))) H):=by
 intro pins s σ H x y v u Q I rx ry h
 obtain⟨i,j,rfl,rfl,q⟩:=h
 obtain⟨t,rfl⟩:=rx
 obtain⟨t',rfl⟩:=ry
 exact notIn_str ⟨.bl _,H,I,rfl,q⟩
theorem ax:da X (.builtin "len") (fun xs H Q=>∃ p ys,xs = [.ref p]/\(aW X.K H p ys\/aG X.K H p ys)/\Q (.int ys.length) H):=by
 intro pins s σ H xs us Q I r h
 obtain⟨p,ys,rfl,hq,q⟩:=h
 obtain⟨u,rfl,rx⟩:=vals1 r
 cases rx
 have hn:=fo
 rcases hq with hq | hq
 ·obtain⟨its,r',pl,hz⟩:=I.list hq
  have hlen:=r'.length
  exact Calls.call_len_list pl.isList (by simp only [List.size_toArray] <;> omega) ⟨.int ys.length,H,I.tok _,⟨s.toks+1,by rw [List.size_toArray,hlen]⟩,q⟩
 ·obtain⟨its,r',pl,hz⟩:=I.tuple hq
  have hlen:=r'.length
  exact len_tuple pl (by simp only [List.size_toArray] <;> omega) ⟨.int ys.length,H,I.tok _,⟨s.toks+1,by rw [List.size_toArray,hlen]⟩,q⟩
theorem eD:da X (.builtin "len") (fun xs H Q=>∃ z,xs = [.str z]/\z.length<=sizeLine/\Q (.int z.length) H):=by
 intro pins s σ H xs us Q I r h
 obtain⟨z,rfl,hz,q⟩:=h
 obtain⟨u,rfl,t,rfl⟩:=vals1 r
 have hn:=fo
 exact len_str (by omega) ⟨.int z.length,H,I.tok _,⟨_,rfl⟩,q⟩
theorem gv:da X (.type "list") (fun xs H Q=>∃ p ys,xs = [.ref p]/\(aW X.K H p ys\/aG X.K H p ys)/\∀ l,H l=none->Q (.ref l) (upd H l (.lst ys))):=by
 intro pins s σ H xs us Q I r h
 obtain⟨p,ys,rfl,hq,q⟩:=h
 obtain⟨u,rfl,rx⟩:=vals1 r
 cases rx
 have fin:∀ (its:List Value),Vals ys its->ys.length<=sizeLine->∀ (h':Heap) (c':Nat),(∀ b o',s.heap.get? b=some o'->h'.get? b=some o') ->
   h'.get? s.heap.objs.size=some { cls:=.type "list",dict:=none,data:=.seq its.toArray c',slots:=#[] }->EP X pins σ Q (.ref s.heap.objs.size) { s with heap:=h' }:=fun its r' hz h' c' kp e =>
  ⟨.ref s.heap.objs.size,_,I.laid (t':=s.toks) kp (Nat.le_refl _) (show bh X.prog X.w _ h' _ (.lst ys) from ⟨hz,its,c',r',e⟩),rfl,q _ (I.aK.fresh (Nat.le_refl _))⟩
 rcases hq with hq | hq
 ·obtain⟨its,r',pl,hz⟩:=I.list hq
  have hlen:=r'.length
  obtain⟨o,ho,hc,n,hd⟩:=pl.isList
  exact call_list_seq p (.inl rfl) ho hc hd (fun h' c' kp e=>fin its r' hz h' c' kp e) (by simp only [List.size_toArray] <;> omega)
 ·obtain⟨its,r',pl,hz⟩:=I.tuple hq
  have hlen:=r'.length
  obtain⟨o,ho,hc,n,hd⟩:=pl
  exact call_list_seq p (.inr rfl) ho hc hd (fun h' c' kp e=>fin its r' hz h' c' kp e) (by simp only [List.size_toArray] <;> omega)
theorem fU:da X (.type "tuple") (fun xs H Q=>∃ p ys,xs = [.ref p]/\((aW X.K H p ys/\∀ l,H l=none->Q (.ref l) (upd H l (.tup ys)))\/(aG X.K H p ys/\Q (.ref p) H))):=by
 intro pins s σ H xs us Q I r h
 obtain⟨p,ys,rfl,h⟩:=h
 obtain⟨u,rfl,rx⟩:=vals1 r
 cases rx
 rcases h with ⟨hq,q⟩ | ⟨hq,q⟩
 ·obtain⟨its,r',pl,hz⟩:=I.list hq
  have hlen:=r'.length
  refine call_tuple_list pl.isList (fun h' kp=>?_) (by simp only [List.size_toArray] <;> omega)
  have I1:Inv X pins σ H { s with heap:=h' }:=I.kept (t':=s.toks) kp
  have I2:Inv X pins σ (upd H h'.objs.size (.tup ys)) { s with heap:=h'.push { cls:=.type "tuple",data:=.seq its.toArray } } :=
   I1.laid (t':=s.toks) (fun b o e=>Heap.get?_push_of_some _ e) (Nat.le_refl _) (show bh X.prog X.w _ _ _ (.tup ys) from ⟨hz,its,r',⟨_,Heap.get?_push_size _ rfl,rfl,_,rfl,rfl⟩⟩)
  exact⟨.ref h'.objs.size,_,I2,rfl,q _ (I1.aK.fresh (Nat.le_refl _))⟩
 ·obtain⟨its,r',pl,hz⟩:=I.tuple hq
  exact call_tuple_same pl ⟨.ref p,H,I,rfl,q⟩
def sZ (K:PySem.W.Frag) (T:String) (x:V) (H:Hp):Prop:=match x with
 | .str _=>T = "str"
 | .int _=>T = "int"
 | .ref p=>(T = "list" /\ ∃ xs,aW K H p xs)\/(T = "tuple" /\ ∃ o,K.lookup p=some o/\o.cls=.type "tuple" /\ o.dict=none) \/
   (T = "dict" /\ ((∃ kvs,H p=some (.dK kvs))\/∃ kvs,H p=some (.dT kvs)))\/(T = "set" /\ ∃ S n,H p=some (.set S n))
 | _=>False
theorem rD {pins:List (Addr × Obj)} {σ : St} {H:Hp} {s:Shared} {T:String} {x:V} {v:Value} (I:Inv X pins σ H s) (r:RelV x v) (ty:sZ X.K T x H) :
  s.TypeIs v T/\∀ a,v=.ref a->∃ ob,s.heap.get? a=some ob/\ob.dict=none:=by
 cases x with
 | str z =>
  obtain⟨t,rfl⟩:=r
  cases (show T = "str" from ty)
  exact⟨typeIs_str s z t,fun _ e=>nomatch e⟩
 | int i =>
  obtain⟨t,rfl⟩:=r
  cases (show T = "int" from ty)
  exact⟨typeIs_int s i t,fun _ e=>nomatch e⟩
 | ref p =>
  cases r
  rcases ty with ⟨rfl,xs,hq⟩ | ⟨rfl,o,hk,hc,hd⟩ | ⟨rfl,hk⟩ | ⟨rfl,S,n,hk⟩
  ·obtain⟨its,_,pl,_⟩:=I.list hq
   refine⟨pl.isList.typeIs,fun a e=>?_⟩
   cases e
   obtain⟨o,n,e,c,hd,_⟩:=pl
   exact⟨o,e,hd⟩
  ·refine⟨⟨o,I.cZ p o hk,hc⟩,fun a e=>?_⟩
   cases e
   exact⟨o,I.cZ _ o hk,hd⟩
  ·have z:∃ o,s.heap.get? p=some o/\o.ExactDict:=by
    rcases hk with ⟨kvs,hk⟩ | ⟨kvs,hk⟩
    ·obtain⟨_,_,_,_,o,_,_,e,ex,_⟩:=I.aK p _ hk
     exact⟨o,e,ex⟩
    ·obtain⟨_,_,_,_,o,_,_,e,ex,_⟩:=I.aK p _ hk
     exact⟨o,e,ex⟩
   obtain⟨o,e,ex⟩:=z
   refine⟨⟨o,e,ex.1⟩,fun a e2=>?_⟩
   cases e2
   exact⟨o,e,ex.2.1⟩
  ·obtain⟨o,_,_,_,e,ex,_⟩:=I.aK p _ hk
   refine⟨⟨o,e,ex.1⟩,fun a e2=>?_⟩
   cases e2
   exact⟨o,e,ex.2.1⟩
 | _=>exact False.elim ty
def tf (K:PySem.W.Frag) (T:String) (r:V->List V->Hp->VK->Prop) (to:TE) (t:TA):TE:=fun σ H Q=>to σ H fun x H1=>sZ K T x H1/\t σ H1 fun xs H2=>r x xs H2 Q
variable {o e:Expr} {es:List Expr} {to:TE} {t:TA} {name:Str} {apos cpos:Pos} {T id:String} {r:V->List V->Hp->VK->Prop}
theorem iM (pa:PlainAttrs T) (slot:Slot T name id) (hty:typeOf (.builtin id)=pure (.type "method_descriptor")) (hm:rA X id r) (ho:PE X o to) (ha:PA X (e :: es) t)
  (hbase:attributeBase o name X.env (eval o X.env)=eval o X.env:=by rfl)
  (hfew:((backTo cpos (starEach (e :: es) X.env)).all (fun x=>!x.1) && (backToKw cpos (keywordEach [] X.env)).all (fun x=>x.1.isSome)
   && decide ((e :: es).length+([]:List Keyword).length+(if ([]:List Keyword).isEmpty then 0 else 1) < 30))=true:=by rfl)
  (hline:(apos.endLine == cpos.line)=true:=by rfl) (hs:starEach (e :: es) X.env=(false,eval e X.env) :: starEach es X.env:=by rfl) (hplain:(backTo cpos (starEach es X.env)).any (·.1)=false:=by rfl) :
  PE X (.Call (.Attribute o name apos) (e :: es) [] cpos) (tf X.K T r to t):=by
 intro pins s σ H Q I h
 refine wpAny_Call_method_late hbase hfew hline rfl (aM (ho pins s σ H _ I h) fun v s1 ⟨x,H1,I1,r1,ty,q1⟩=>?_)
 obtain⟨h1,h2⟩:=rD I1 r1 ty
 refine⟨T,id,pa,slot,hty,h1,h2,?_⟩
 have hA:=ha cpos pins s1 σ H1 _ I1 q1
 rw [hs] at hA ⊢
 refine Calls.callWith_builtin (by show (false || (backTo cpos (starEach es X.env)).any (·.1))=false;rw [hplain] <;> rfl) (Calls.evalArgs_plain ?_)
 exact aM hA fun us s2 ⟨vs,H2,I2,r2,q2⟩=>hm pins s2 σ H2 x vs v us Q I2 r1 r2 q2
end
def uj (X:Cx) (id:String) (r:V->List V->Hp->VK->Prop):Prop :=
 ∀ (pins:List (Addr × Obj)) (s:Shared) (σ : St) (H:Hp) (x:V) (xs:List V) (v:Value) (us:List Value) (Q:VK),Inv X pins σ H s->RelV x v->Vals xs us->r x xs H Q ->
  wpAny (model X.prog X.w) X.A (call (.builtin id) (v :: us)) (EP X pins σ Q) X.xe s
theorem Vals.one:∀ {x:V} {us:List Value},Vals [x] us->∃ u,us = [u]/\RelV x u
 | _,_,.cons r .nil=>⟨_,rfl,r⟩
theorem Vals.rep {xs:List V} {us:List Value} (h:Vals xs us):∀ k:Nat,Vals (List.replicate k xs).flatten (List.replicate k us).flatten
 | 0=>.nil
 | k+1=>by
  rw [List.replicate_succ,List.replicate_succ,List.flatten_cons,List.flatten_cons]
  exact Vals.append h (Vals.rep h k)
theorem foldl_rep (its:List Value):∀ (k:Nat) (acc:List Value),
  List.foldl (fun x1 x2=>x1++x2) acc.toArray (List.replicate k its.toArray)=(acc++(List.replicate k its).flatten).toArray
 | 0,acc=>by simp
 | k+1,acc=>by
  have e:acc.toArray++its.toArray=(acc++its).toArray:=by simp
  have e2:(acc++its)++(List.replicate k its).flatten=acc++(List.replicate (k+1) its).flatten:=by
   rw [List.replicate_succ,List.flatten_cons,List.append_assoc]
  rw [<-e2,<-foldl_rep its k (acc++its),<-e,List.replicate_succ,List.foldl_cons]
section
variable {X:Cx} {pins:List (Addr × Obj)} {σ : St} {H:Hp} {s:Shared} {l b:Addr} {xs ys zs:List V}
theorem Inv.tV {its its':List Value} {n:Nat} {f:Array Value->Array Value} {t':Nat} (I:Inv X pins σ H s) (hH:H l=some (.lst xs))
  (e:s.heap.get? l=some { cls:=.type "list",data:=.seq its.toArray n }) (hf:f its.toArray=its'.toArray) (hv:Vals ys its') (hz:ys.length<=sizeLine) :
  Inv X pins σ (upd H l (.lst ys)) { s with heap:=s.heap.update l (Obj.mapSeq f),toks:=t' }:=by
 have q:=PySem.IsL.update e f
 rw [hf] at q
 refine I.write (x:=l) (e:=l) (by rw [hH];exact trivial) (.inl rfl) (fun b' u hb hu=>(Heap.get?_update_other s.heap (Obj.mapSeq f) (Ne.symm hb)).trans hu) ⟨_,q⟩ ?_
 exact⟨hz,its',_,hv,q⟩
theorem Inv.tW {its:List Value} {t':Nat} (I:Inv X pins σ H s) (hv:Vals ys its) (hz:ys.length<=sizeLine) :
  Inv X pins σ (upd H s.heap.objs.size (.lst ys)) { s with heap:=s.heap.push { cls:=.type "list",data:=.seq its.toArray },toks:=t' } :=
 I.laid (fun _ _ q=>Heap.get?_push_of_some _ q) (Nat.le_refl _) ⟨hz,its,0,hv,Heap.get?_push_size _ rfl⟩
theorem Inv.fresh (I:Inv X pins σ H s):H s.heap.objs.size=none:=I.aK.fresh (Nat.le_refl _)
theorem Inv.oJ (I:Inv X pins σ H s) (hH:H l=some (.lst xs)):xs.length<=sizeLine/\∃ (its:List Value) (n:Nat),Vals xs its/\xs.length=its.length/\s.heap.get? l=some { cls:=.type "list",data:=.seq its.toArray n }:=by
 obtain⟨z,its,n,r,e⟩:=I.aK l _ hH
 exact⟨z,its,n,r,r.length,e⟩
end
section
variable {X:Cx}
inductive qe  (x:V) (vs:List V) (H:Hp) (Q:VK):Prop
 | mk (l xs y:_) (_:x=.ref l) (_:vs = [y]) (_:H l=some (.lst xs)) (_:xs.length < sizeLine) (_:Q .aO (upd H l (.lst (xs ++ [y]))))
theorem eV:uj X "list.append" qe:=by
 intro pins s σ H x vs v us Q I rx rv h
 obtain⟨l,xs,y,rfl,rfl,hH,hz,q⟩:=h
 cases rx
 obtain⟨u,rfl,ru⟩:=rv.one
 obtain⟨z,its,n,r,hl,e⟩:=I.oJ hH
 refine call_meets F.slot_list_append ⟨_,e,rfl⟩ F.entry_list_append (F.args_list_append_2 _ _) (PySem.list_append l its.toArray n u (by rw [List.size_toArray];omega)) ⟨e,?_⟩
 refine⟨.aO,_,I.tV (its':=its ++ [u]) hH e (by simp) (r.append (.cons ru .nil)) ?_,rfl,q⟩
 rw [List.length_append,List.length_singleton]
 omega
inductive tX  (x:V) (y:V) (H:Hp) (Q:VK):Prop
 | mk (l b xs zs:_) (_:x=.ref l) (_:y=.ref b) (_:H l=some (.lst xs)) (_:H b=some (.lst zs)) (_:xs.length+zs.length<=sizeLine) (_:∀ p,H p=none->Q (.ref p) (upd H p (.lst (xs++zs))))
theorem rE:bW X (binaryOp .Add) tX:=by
 intro pins s σ H x y v u Q I rx ry h
 obtain⟨l,b,xs,zs,rfl,rfl,hH,hB,hz,q⟩:=h
 cases rx
 cases ry
 obtain⟨z,its,n,r,hl,e⟩:=I.oJ hH
 obtain⟨z2,its2,n2,r2,hl2,e2⟩:=I.oJ hB
 refine PySem.P.add_list e e2 ?_ (by rw [List.size_toArray,List.size_toArray];omega)
 have ea:its.toArray++its2.toArray=(its++its2).toArray:=by simp
 rw [ea]
 exact⟨.ref _,_,I.tW (t':=s.toks) (r.append r2) (by rw [List.length_append];omega),rfl,q _ I.fresh⟩
theorem len_rep {α : Type} (xs:List α) (k:Nat):(List.replicate k xs).flatten.length=k * xs.length:=by
 induction k with
 | zero=>simp
 | succ k ih=>rw [List.replicate_succ,List.flatten_cons,List.length_append,ih,Nat.succ_mul,Nat.add_comm]
end
section
variable {prog:Program} {w:World} {A:Around} {E:Value->Shared->Prop} {s:Shared}
end
section
variable {X:Cx}
end
end L2
namespace tj
open PySem PySem.W PySem.Calls PyProof.Rows
theorem iN {P:Params} {h:Heap}:∀ (ns:List Int) (vs:List Value),WellAll P h vs (ns.map WData.int)->IntsAre vs ns:=by
 intro ns
 induction ns with
 | nil =>
  intro vs w
  rw [List.map_nil] at w
  cases w
  exact .nil
 | cons n ns ih =>
  intro vs w
  rw [List.map_cons] at w
  cases w with
  | cons a b =>
   cases a
   exact .cons _ _ (ih _ b)
theorem nE {l:OpenLaw} {n:Nat} (hn:l.most=some n) {P:Params} {h:Heap} {args:List WData} {vals:List Value}
  (hpre:l.row.toRowW.claim.pre args=true) (hwl:WellAll P h vals args) :
  ∃ a vs ns,vals = [Value.ref a]/\args = [WData.list (ns.map WData.int)]/\h.get? a=some { cls:=.type "list",data:=.seq vs.toArray }/\IntsAre vs ns/\ns.length<=n:=by
 have hsh:WShape.hasAll [] args [.list .int] = true:=(pre_splitW hpre).1
 have hc:l.pre.holds [] { args:=args }=true:=(pre_splitW hpre).2
 obtain⟨d,r,rfl,h1,h2⟩:=hasAllW_cons hsh
 obtain rfl:=hasAllW_nil h2
 obtain⟨xs,rfl,h3⟩:=hasW_list h1
 obtain⟨ns,rfl⟩:=items_int h3
 have hlen:ns.length<=n:=by
  unfold OpenLaw.pre at hc
  have h4:(WTm.not (.lt (.lit (.int (n:Int))) (.len (.arg 0)))).holds [] { args:=[.list (ns.map .int)] }=true:=by
   have h4:=(holds_andW hc).1
   rw [hn] at h4
   exact h4
  have h5:=condW_of h4 (w_not (w_lt w_lit (w_len_list (w_arg rfl))))
  rw [List.length_map] at h5
  refine Nat.le_of_not_lt fun q=>?_
  have q':(n:Int) < ((ns.length:Nat):Int):=by omega
  first
   | (rw [decide_eq_true q'] at h5;exact absurd h5 (by decide))
   | (simp at h5;omega)
 cases hwl with
 | cons w1 w2 =>
  cases w2
  cases w1 with
  | list ho hall=>exact⟨_,_,ns,rfl,rfl,ho,iN ns _ hall,hlen⟩
theorem nF (l:OpenLaw) (args:List WData):l.row.toRowW.claim.post args (.bool true) args=true :=
 postW_of (r:=l.row.toRowW) (X:=(true == true))
  (show WShape.has [] (.bool true) .bool=true by first | rfl | decide | simp [WShape.has,WShape.arms,WShape.armsAll])
  (show (WTm.eq .res (.lit (.bool true))).value [] { args:=args,res:=some (.bool true),after:=args }=some (.bool (true == true)) from w_eq_bool (w_res rfl) w_lit) rfl
theorem kP {l:OpenLaw} {n:Nat} {q:Program} {loose:List Str} {XP:(Str->Option Value)->Heap->Prop} {YP:World->Heap->Prop} {d:DefRec}
  (hn:l.most=some n) (hdf:d.params.defaults = [])
  (call:∀ (w:World) (b6 s₁ : Shared) (mg mb:Str->Option Value) (fa:Addr) (o:Obj) (pm cd doc:Value) (a:Addr) (vs:List Value) (ns:List Int),
   Ground q loose [] XP w b6 mg mb s₁.heap->YP w s₁.heap ->
   s₁.heap.get? fa=some o->o.data=.func (docDef d.name d.params d.body d.scope pm cd doc)->s₁.heap.CodeRec cd d.name->mg d.name=some (.ref fa) ->
   s₁.heap.get? a=some { cls:=.type "list",data:=.seq vs.toArray }->IntsAre vs ns->ns.length<=n->s₁.gens = #[] ->
   codeAny (model l.prog w) callerA (.call (.ref fa) ⟨[.ref a],[]⟩) (fun r s'=>r=.ok (.ret (.bool true))/\OldK s₁.heap s'.heap/\s'.os=s₁.os/\AllBare s'.gens) s₁) :
  WalkO q loose XP YP l.row.toRowW d [] (fun f vs=>PySem.call f vs):=by
 intro w b6 s₁ mg mb G Y fa o pm cd doc dV kV ho hd hcd hD hmg hg args vals as hpre hlay hrd hwl hlo
 obtain rfl:dV=.none:=Dflts.none hD hdf
 obtain rfl:kV=.none:=Dflts.noKw hD
 obtain⟨a,vs,ns,rfl,rfl,hobj,hints,hlen⟩:=nE hn hpre hwl
 refine enter_call (codeAny_mono (call w b6 s₁ mg mb fa o pm cd doc a vs ns G Y ho (fd_plain hd) hcd hmg hobj hints hlen hg) fun r s' hq=>?_)
 obtain⟨rfl,h2,h3,h4⟩:=hq
 exact⟨.inl ⟨.bool true,.bool true,[],rfl,fun _=>rfl,.bool true,nF l _,fun _=>⟨List.Pairwise.nil,fun _ hm=>(nomatch hm)⟩⟩,h2,h3,h4⟩
section
variable {prog:Program} {w:World} {A:Around} {E:Value->Shared->Prop} {s:Shared} {K:Frag}
def ledger (h:Heap) (L d:Addr):List (Addr × Obj):=(List.range h.objs.size).filterMap fun a=>if a=L\/a=d then none else (h.get? a).map fun o=>(a,o)
end
end tj
namespace L2
open PySem PySem.Spec PyProof.Rows
theorem jq:∀ {vs:List Value} {ns:List Int},IntsAre vs ns->Vals (ns.map V.int) vs
 | _,_,.nil=>.nil
 | _,_,.cons n t h=>.cons ⟨t,rfl⟩ (jq h)
def oK (H:Hp):Prop:=∀ b,H b=none\/∃ o xs,H b=some (.eS o (.lst xs))
theorem oM {P:Program} {w:World} {K:PySem.W.Frag} {mg mb:Str->Option Value} {CX:gs} {k:Nat} {fa a:Addr} {fd:FuncData} {x:Str} {sp:Sp} {s₁ : Shared} {vs:List Value} {ns:List Int}
    (KX:K.In s₁.heap) (hns:s₁.heap.Ns mainGlobals mg) (hb:s₁.heap.Ns builtinsNs mb) (hbb:∀ x:Str,x ≠ "__name__" -> mb x=bootBuiltins x) (hlim:s₁.heap.NoLimit) (hg:s₁.gens = #[])
    (ha:s₁.heap.get? a=some { cls:=.type "list",data:=.seq vs.toArray }) (hi:IntsAre vs ns) (hl:ns.length<=sizeLine) (hr:b7 k callerA)
    (F:∀ base:Heap,K.In base->base.Ns mainGlobals mg->bg P w K mg base CX k fa fd [x] sp) (hbind:∀ (s:Shared) (u:Value),BindsTo s fd ⟨[u],[]⟩ [(x,u)])
    (hsp:∀ H:Hp,oK H->aW K H a (ns.map V.int)->sp [.ref a] H (fun v _=>v=.bl true) fun _ _ _=>False)
    (hCX:∀ H e s',CX [] H s₁ (fun _ _ _=>False) e s'->False) :
    codeAny (model P w) callerA (.call (.ref fa) ⟨[.ref a],[]⟩) (fun r s'=>r=.ok (.ret (.bool true))/\OldK s₁.heap s'.heap/\s'.os=s₁.os/\AllBare s'.gens) s₁:=by
  have rv:=jq hi
  have lenV:=hi.length
  have core:∀ H:Hp,oK H->aW K H a (ns.map V.int)->b5 P w H s₁.heap->(∀ b,H b ≠ none->b=a)->(H a ≠ none->K.lookup a=none) ->
      codeAny (model P w) callerA (.call (.ref fa) ⟨[.ref a],[]⟩) (fun r s'=>r=.ok (.ret (.bool true))/\OldK s₁.heap s'.heap/\s'.os=s₁.os/\AllBare s'.gens) s₁:=by
    intro H hO hS aK hA hK
    have base_of:∀ {b:Addr} {o:Obj},s₁.heap.get? b=some o->H b=none->(fD s₁.heap H).get? b=some o:=fun e n=>oo e n
    have noA:∀ {b:Addr} {o:Obj} {es:Array DictEntry} {ep:Nat},s₁.heap.get? b=some o->o.data=.dict es ep->H b=none:=fun {b o es ep} e d=>by
      cases q:H b with
      | none=>rfl
      | some u =>
        have e':b=a:=hA b (by rw [q];simp)
        subst e'
        rw [ha] at e;cases e
        have d':Data.seq vs.toArray _=Data.dict es ep:=d
        cases d'
    have nsK:∀ {b:Addr} {m:Str->Option Value},s₁.heap.Ns b m->(fD s₁.heap H).Ns b m:=fun {b m} ⟨o,es,ep,e,d,r⟩=>⟨o,es,ep,base_of e (noA e d),d,r⟩
    have hKb:K.In (fD s₁.heap H):=fun b o e=>base_of (KX b o e) (by
      cases q:H b with
      | none=>rfl
      | some u =>
        have e':b=a:=hA b (by rw [q];simp)
        subst e'
        rw [hK (by rw [q];simp)] at e;cases e)
    have hM:Mod K mg (fD s₁.heap H):=⟨hKb,nsK hns,⟨mb,nsK hb,hbb⟩,let ⟨mc,h1,h2⟩:=hlim;⟨mc,nsK h1,h2⟩⟩
    have e0:my P w K mg (fD s₁.heap H) callerA [] s₁ H:=⟨rfl,hM,fun b o e=>pX e,Nat.le_of_eq (m7 _ _),trivial,fun b hb=>absurd (show b ∈ ([]:List Addr) from hb) (by simp),aK,.of_eq hg⟩
    refine codeAny_mono ((F _ hKb (nsK hns)).run callerA [] s₁ H ⟨[.ref a],[]⟩ [.ref a] [.ref a] _ _ hr e0 (hbind s₁ (.ref a)) (.cons rfl .nil) (hsp H hO hS)) fun r s' h=>?_
    cases r with
    | error e=>exact (hCX H e s' h).elim
    | ok fl =>
      cases fl with
      | next=>exact False.elim h
      | brk=>exact False.elim h
      | cont=>exact False.elim h
      | ret u =>
        obtain⟨v,H',os,bare,un,hok',r',q⟩:=h
        have q':v=.bl true:=q
        subst q'
        obtain rfl:u=Value.bool true:=r'
        refine⟨rfl,OldK.of_keep fun b o e=>?_,os,bare⟩
        cases q:H b with
        | none=>exact un.keep b o e q (by intro z;exact absurd (show b ∈ ([]:List Addr) from z) (by simp)) (by simp)
        | some u =>
          rcases hO b with z | ⟨ob,xs,z⟩
          · rw [q] at z;cases z
          · have z2:=un.fC b ob _ z
            obtain⟨e1,_⟩:=aK b _ z
            obtain⟨e2,_⟩:=hok' b _ z2
            rw [e] at e1;cases e1
            exact e2
  cases hk:K.lookup a with
  | some o =>
    have e:=KX a o hk
    rw [ha] at e
    cases e
    refine core (fun _=>none) (fun _=>.inl rfl) (.inr ⟨_,vs.toArray,_,hk,rfl,rfl,rfl,by rw [List.size_toArray,lenV];exact hl,by simpa using rv⟩) (fun b u z=>by have z':(none:Option HO)=some u:=z;cases z') (fun b z=>absurd rfl z) fun z=>absurd rfl z
  | none =>
    refine core (fun b=>if b=a then some (.eS { cls:=.type "list",data:=.seq vs.toArray } (.lst (ns.map V.int))) else none) (fun b=>?_) (.inl (.inr ⟨{ cls:=.type "list",data:=.seq vs.toArray },if_pos rfl⟩)) (fun b u z=>?_) (fun b z=>?_) fun _=>hk
    · by_cases hb:b=a
      · exact .inr ⟨_,_,if_pos hb⟩
      · exact .inl (if_neg hb)
    · by_cases hb:b=a
      · have z':=(if_pos hb).symm.trans z
        cases z'
        subst hb
        exact⟨ha,by rw [List.length_map];exact hl,vs,_,rv,ha⟩
      · have z':=(if_neg hb).symm.trans z
        cases z'
    · by_cases hb:b=a
      · exact hb
      · exact absurd (if_neg hb) z
abbrev KOf {K:PySem.W.Frag} {h:Heap} (_:K.In h):PySem.W.Frag:=K
theorem qf {l:PySem.W.OpenLaw} {n k:Nat} {q:Program} {loose:List Str} {XP:(Str->Option Value)->Heap->Prop} {YP:World->Heap->Prop} {d:DefRec} {K:Params->PySem.W.Frag} {CX:World->gs} {sp:World->Sp} {x:Str}
  (hn:l.most=some n) (hn2:n<=sizeLine) (hdf:d.params.defaults = []) (hr:b7 k callerA)
  (hY:∀ (w:World) (h:Heap),YP w h->(K w.params).In h)
  (F:∀ (w:World) (mg:Str->Option Value) (fa:Addr) (h:Heap),(K w.params).In h->h.Ns mainGlobals mg->mg d.name=some (.ref fa) ->
   ∃ fd:FuncData,(∀ (s:Shared) (u:Value),BindsTo s fd ⟨[u],[]⟩ [(x,u)]) /\
    ∀ base:Heap,(K w.params).In base->base.Ns mainGlobals mg->bg l.prog w (K w.params) mg base (CX w) k fa fd [x] (sp w))
  (hsp:∀ (w:World) (H:Hp) (a:Addr) (ns:List Int),ns.length<=n->oK H->aW (K w.params) H a (ns.map V.int)->sp w [.ref a] H (fun v _=>v=.bl true) fun _ _ _=>False)
  (hCX:∀ (w:World) (H:Hp) (s:Shared) (e:Value) (s':Shared),CX w [] H s (fun _ _ _=>False) e s'->False) :
  PySem.W.WalkO q loose XP YP l.row.toRowW d [] (fun f vs=>PySem.call f vs):=by
 refine tj.kP hn hdf fun w b6 s₁ mg mb fa o pm cd doc a vs ns G Y ho hd hcd hmg hobj hints hlen hg=>?_
 have KX:=hY w _ Y
 obtain⟨fd,hb,hF⟩:=F w mg fa _ KX G.T.g hmg
 exact oM KX G.T.g G.T.b G.T.builtins G.T.nolimit hg hobj hints (Nat.le_trans hlen hn2) hr hF hb (fun H hO hS=>hsp w H a ns hlen hO hS) fun H e s'=>hCX w H s₁ e s'
def cv (s:Stmt):Arguments:=match s with
 | .FunctionDef _ a _ _ _ _ _ _ _ _=>a
 | _=>{ posonlyargs:=[],args:=[],vararg:=none,kwonlyargs:=[],kw_defaults:=[],kwarg:=none,defaults:=[] }
def b4 (s:Stmt):List Stmt:=match s with
 | .FunctionDef _ _ b _ _ _ _ _ _ _=>b
 | _=>[]
def ar (s:Stmt):Scope:=match s with
 | .FunctionDef _ _ _ _ _ _ sc _ _ _=>sc
 | _=>{ kind:=.function,names:=[],isGenerator:=false,isCoroutine:=false }
abbrev bS:gs:=fun _ _ _ _ _ _=>False
abbrev E0:XK:=fun _ _ _=>False
theorem sG {X:Cx}:Passes bS X E0:=fun _ _ _ _ _ _ _ h=>h.elim
structure bZ (K:PySem.W.Frag) (x qual:Str) (st:Stmt) (f:Addr) (fd:FuncData):Prop where
 ex:∃ (oc:Value) (od:Option Addr) (kV doc pm:Value) (an:Option Addr) (cdv ct:Value) (osl:Array (Option Value)),
  fd=PySem.W.fnOf x qual (cv st) (b4 st) (ar st) .none kV doc pm an cdv ct/\K.lookup f=some ⟨oc,od,.func fd,osl⟩/\PySem.W.codeIn K cdv qual=true
 kp:PySem.W.keepIn K (.ref f)=true
section
variable {P:Program} {w:World} {K:PySem.W.Frag} {mg:Str->Option Value} {base:Heap}
theorem bZ.ok {x qual:Str} {st:Stmt} {f:Addr} {fd:FuncData} {N ps:List Str} {k:Nat} {sp:Sp} (F:bZ K x qual st f fd) (S:aP N ps (ar st)) (len:∀ vs H Q E,sp vs H Q E->vs.length=ps.length)
  (hbody:∀ (cdv:Value) (A:Around) (outer:List Env) (s:Shared) (H:Hp) (vs:List V) (Q:VK) (E:XK),b7 k (A.deeper (envOfC qual (ar st) s.heap.objs.size f cdv))->sp vs H Q E ->
   ∃ t,eg (ip bS P w K mg base N qual (ar st) f cdv A outer s H E).ng (b4 st) t/\t { nx:=fun _ H'=>Q .aO H',rt:=Q } (start N vs) H):bg P w K mg base bS (k+1) f fd ps sp:=by
 obtain⟨oc,od,kV,doc,pm,an,cdv,ct,osl,rfl,lk,hcd⟩:=F.ex
 refine sC lk hcd S len fun A outer s H vs Q E hr hsp=>?_
 obtain⟨t,h,q⟩:=hbody cdv A outer s H vs Q E hr hsp
 exact⟨t,h.ng,q⟩
theorem bZ.binds {x qual:Str} {st:Stmt} {f:Addr} {fd:FuncData} {ps:List Str} (F:bZ K x qual st f fd)
  (h:∀ (kV doc pm:Value) (an:Option Addr) (cdv ct:Value) (us:List Value),us.length=ps.length->bindArgs (PySem.W.fnOf x qual (cv st) (b4 st) (ar st) .none kV doc pm an cdv ct) ⟨us,[]⟩=pure (ps.zip us)):Binds K fd ps []:=by
 obtain⟨oc,od,kV,doc,pm,an,cdv,ct,osl,rfl,lk,hcd⟩:=F.ex
 exact .all (h kV doc pm an cdv ct)
theorem rF {x qual:Str} {st:Stmt} {f:Addr} {oc:Value} {od an:Option Addr} {osl:Array (Option Value)} {kV doc pm cdv ct:Value} (l:K.lookup f=some ⟨oc,od,.func (PySem.W.fnOf x qual (cv st) (b4 st) (ar st) .none kV doc pm an cdv ct),osl⟩)
  (c:PySem.W.codeIn K cdv qual=true) (k:PySem.W.keepIn K (.ref f)=true):bZ K x qual st f (PySem.W.fnOf x qual (cv st) (b4 st) (ar st) .none kV doc pm an cdv ct):=⟨⟨oc,od,kV,doc,pm,an,cdv,ct,osl,rfl,l,c⟩,k⟩
end
theorem sH {A:Around} {k:Nat} (hr:b7 k A):A.units+1 < cLine:=Nat.lt_of_le_of_lt (Nat.add_le_add_left (by decide:1<=64) _) hr.units
theorem bc {n:Nat} (h:n<=1000):n < sizeLine:=Nat.lt_of_le_of_lt h (by decide)
section
variable {X:Cx}
theorem pv (i:Nat) {x:Str} {pos:Pos} (hN:X.N[i]? = some x:=by rfl) (hv:pE X.env.scope x:=by first | exact Or.inl rfl | exact Or.inr (Or.inl rfl) | exact Or.inr (Or.inr rfl)) (hd:(x == ("__debug__" : Str))=false:=by decide)
  (hcd:(x == ("__classdict__" : Str))=false:=by decide):PE X (.Name x pos) (oq i):=qS hN hv hd hcd
end
theorem aT {A B:Prop} (h:B):if false=true then A else B:=by
 rw [if_neg Bool.false_ne_true]
 exact h
theorem aI {A B:Prop} (h:A):if true=true then A else B:=by
 rw [if_pos rfl]
 exact h
theorem cy {c A B:Prop} [Decidable c] (h1:c->A) (h2:¬ c->B):if c then A else B:=by
 by_cases h:c
 ·rw [if_pos h]
  exact h1 h
 ·rw [if_neg h]
  exact h2 h
def ae (H H':Hp):Prop:=∀ b o,H b=some o->H' b=some o
theorem ae.refl (H:Hp):ae H H:=fun _ _ h=>h
theorem ae.trans {H H1 H2:Hp} (a:ae H H1) (b:ae H1 H2):ae H H2:=fun c o h=>b c o (a c o h)
theorem ae.free {H H':Hp} (e:ae H H') {l:Addr} (h:H' l=Option.none):H l=Option.none:=by
 cases q:H l with
 | none=>rfl
 | some o =>
  rw [e l o q] at h
  cases h
theorem ae.seq {K:PySem.W.Frag} {H H':Hp} {a:Addr} {xs:List V} (e:ae H H') (h:aW K H a xs):aW K H' a xs:=by
 rcases h with (h | ⟨o,h⟩) | h
 ·exact .inl (.inl (e _ _ h))
 ·exact .inl (.inr ⟨o,e _ _ h⟩)
 ·exact .inr h
section
variable {X:Cx}
theorem i1:bW X (binaryOp .Mult) (rI IntMulOk fun i j=>.int (i * j)):=lA fun _ _ _ _ _ _ _ hc q=>mul_int q hc
def sI (_i j:Int):Prop:=0 < j/\j.natAbs.log2 < 9000
theorem oN:bW X (binaryOp .FloorDiv) (rI sI fun i j=>.int (i / j)):=lA fun i j _ _ _ _ _ hc q=>by
 have h1:(0:Int) < j:=hc.1
 exact floordiv_int (by omega) (by rw [Int.fdiv_eq_ediv_of_nonneg i (by omega)];exact q) (.inl (PyProof.noPylong_of_log2 hc.2))
inductive tY (K:PySem.W.Frag) (xs:List V) (H:Hp) (Q:VK):Prop
 | mk (x T t b:_) (_:xs = [x,.ty T]) (_:de K H x t) (_:PySem.W.kitOne K t (.type T)=some b) (_:Q (.bl b) H)
theorem aV:da X (.builtin "isinstance") (tY X.K):=by
 intro pins s σ H vs us Q I rv h
 obtain⟨x,T,t,b,rfl,ty,e,q⟩:=h
 obtain⟨u,w',rfl,ru,rw'⟩:=vals2 rv
 cases (show w' = Value.type T from rw')
 exact ny I ru ty e fun tk=>⟨.bl b,H,I.tok tk,rfl,q⟩
structure Own (P:Program) (w:World) (K:PySem.W.Frag) (mg:Str->Option Value) (base:Heap) (x:Str) (k:Nat) (ps:List Str) (sp:Sp):Prop where
 ex:∃ f fd,bg P w K mg base bS k f fd ps sp/\mg x=some (.ref f)/\PySem.W.keepIn K (.ref f)=true/\Binds K fd ps []
variable {x:Str} {k:Nat} {ps:List Str} {sp:Sp} {e:Expr} {es:List Expr} {t:TA} {p pos:Pos}
theorem rG (o:Own X.prog X.w X.K X.mg X.base x k ps sp) (hr:b7 k X.A) (hg:Gl X x) (ha:PA X (e :: es) t)
  (hdb:(x == ("__debug__" : Str))=false:=by decide) (he:starEach (e :: es) X.env=(false,eval e X.env) :: starEach es X.env:=by rfl)
  (hpl:(backTo pos (starEach es X.env)).any (·.1)=false:=by rfl):PE X (.Call (.Name x p) (e :: es) [] pos) (jK sp [] E0 t):=by
 obtain⟨f,fd,F,hm,hk,hb⟩:=o.ex
 exact p9 F hr hg hm hk hb .nil sG ha hdb he hpl
end
theorem di {α : Type} {x:α} {xs:List α}:dh (x :: xs) 0=some x:=b3 (j:=0) rfl
theorem hZ {α : Type} {x y:α} {xs:List α}:dh (x :: y :: xs) 1=some y:=b3 (j:=1) rfl
theorem at2 {α : Type} {x y z:α} {xs:List α}:dh (x :: y :: z :: xs) 2=some z:=b3 (j:=2) rfl
theorem mD {α : Type} {xs:List α} {i:Int} (h0:0<=i) (h1:i < xs.length):∃ v,dh xs i=some v/\v ∈ xs:=by
 obtain⟨j,rfl⟩:∃ j:Nat,i=j:=⟨i.toNat,by omega⟩
 have hj:j < xs.length:=by omega
 exact⟨xs[j],b3 (by simp [hj]),List.getElem_mem hj⟩
theorem aY:bootBuiltins "len" = some (.builtin "len"):=by decide +kernel
theorem nG:bootBuiltins "min" = some (.builtin "min"):=by decide +kernel
theorem aC:bootBuiltins "isinstance" = some (.builtin "isinstance"):=by decide +kernel
theorem gw:bootBuiltins "int" = some (.type "int"):=by decide +kernel
theorem i2:bootBuiltins "bool" = some (.type "bool"):=by decide +kernel
theorem bQ:bootBuiltins "tuple" = some (.type "tuple"):=by decide +kernel
theorem gx:bootBuiltins "str" = some (.type "str"):=by decide +kernel
theorem lK:bootBuiltins "list" = some (.type "list"):=by decide +kernel
def bL (H:Hp) (b:Addr):Prop:=∃ x y:Int,H b=some (.lst [.int x,.int y])/\0<=y/\y < 2147483648
def Fix (b:Addr) (H H':Hp):Prop:=∀ c o,H c=some o->c ≠ b->H' c=some o
theorem Fix.trans {b:Addr} {H H1 H2:Hp} (u:Fix b H H1) (v:Fix b H1 H2):Fix b H H2:=fun c o h n=>v c o (u c o h n) n
theorem Fix.pL {b:Addr} {H:Hp} {o:HO}:Fix b H (upd H b o):=fun c u h n=>by rw [aF n];exact h
theorem Fix.new {b p:Addr} {H:Hp} {o:HO} (hp:H p=none):Fix b H (upd H p o):=fun c u h _=>by rw [aF (bp h hp)];exact h
theorem Fix.of_same {b:Addr} {H H':Hp} (h:ae H H'):Fix b H H':=fun c o e _=>h c o e
theorem ae.new {p:Addr} {H:Hp} {o:HO} (hp:H p=none):ae H (upd H p o):=fun c u h=>by rw [aF (bp h hp)];exact h
theorem bL.new {b p:Addr} {H:Hp} {o:HO} (h:bL H b) (hp:H p=none):bL (upd H p o) b:=by
 obtain⟨x,y,e,q⟩:=h
 exact⟨x,y,by rw [aF (bp e hp)];exact e,q⟩
theorem bL.same {b:Addr} {H H':Hp} (h:bL H b) (s:ae H H'):bL H' b:=by
 obtain⟨x,y,e,q⟩:=h
 exact⟨x,y,s _ _ e,q⟩
theorem pM {α : Type} {x0:α}:[x0].length<=sizeLine:=by show 1<=sizeLine;decide
theorem ln2 {α : Type} {x0 x1:α}:[x0,x1].length<=sizeLine:=by show 2<=sizeLine;decide
theorem pN {α : Type} {x0 x1 x2:α}:[x0,x1,x2].length<=sizeLine:=by show 3<=sizeLine;decide
theorem uk {α : Type} {x0 x1 x2 x3 x4:α}:[x0,x1,x2,x3,x4].length<=sizeLine:=by show 5<=sizeLine;decide
theorem um {α : Type} {x0 x1 x2 x3 x4 x5 x6:α}:[x0,x1,x2,x3,x4,x5,x6].length<=sizeLine:=by show 7<=sizeLine;decide
theorem ae.nH {b:Addr} {H H1 H2:Hp} (s:ae H H1) (n:H b=none) (f:Fix b H1 H2):ae H H2:=fun c o e=>f c o (s c o e) (bp e n)
theorem bL.cQ {b p:Addr} {H:Hp} {xs:List V} (h:bL H b) (e:H p=some (.tup xs)):p ≠ b:=by
 obtain⟨x,y,e1,_⟩:=h
 exact iE e e1 (by intro z;cases z)
theorem bL.cw {b p:Addr} {H:Hp} (h:bL H b) (e:H p=none):p ≠ b:=by
 obtain⟨x,y,e1,_⟩:=h
 exact fun z=>bp e1 e z.symm
inductive pO (K:PySem.W.Frag) (vs:List V) (H:Hp) (Q:VK) (_:XK):Prop
 | mk (a:Addr) (ns:List Int) (k:Int) (_:vs = [.ref a,.int k]) (_:aW K H a (ns.map V.int)) (_:0<=k) (_:∀ b H',H b=none->bL H' b->ae H H'->Q (.ref b) H')
inductive cR  (vs:List V) (H:Hp) (Q:VK) (_:XK):Prop
 | mk (b:Addr) (m:Int) (_:vs = [.ref b,.int m]) (_:bL H b) (_:(0 < m/\m.natAbs.log2 < 9000)) (_:∀ r H',0<=r->r < m->bL H' b->Fix b H H'->Q (.int r) H')
inductive jL (K:PySem.W.Frag) (vs:List V) (H:Hp) (Q:VK) (_:XK):Prop
 | mk (a:Addr) (ns:List Int) (_:vs = [.ref a]) (_:aW K H a (ns.map V.int)) (_:ns.length<=63) (_:∀ H',Q (.bl true) H')
def ft (cells:List (Str × Addr)):List (Str × NameKind)->List (Str × Addr)->List (Str × Addr)
 | [],cs=>cs
 | (n,k) :: r,cs=>ft cells r (if k == .free then (n,(cells.lookup n).getD 0) :: cs else cs)
theorem iO {scope:Scope} {env:Env} (hf:∀ y ∈ scope.names,y.2=.free->∃ c,env.cells.lookup y.1=some c):closureFor scope env=pure (ft env.cells scope.names []):=by
 have key:∀ (names:List (Str × NameKind)) (cs:List (Str × Addr)),(∀ y ∈ names,y.2=.free->∃ c,env.cells.lookup y.1=some c) ->
   (forIn names cs fun x r=>match x with
    | (name,kind)=>if (kind == NameKind.free)=true then (do let a <-cellOf env name;pure (ForInStep.yield ((name,a) :: r))) else pure (ForInStep.yield r):Sem (List (Str × Addr)))=pure (ft env.cells names cs):=by
  intro names
  induction names with
  | nil=>intro cs _;rfl
  | cons y r ih =>
   intro cs hy
   obtain⟨n,k⟩:=y
   have ih':=fun cs=>ih cs fun z hz=>hy z (List.mem_cons_of_mem _ hz)
   rw [List.forIn_cons]
   by_cases hk:(k == NameKind.free)=true
   ·have e:k=.free:=by simpa using hk
    obtain⟨c,hc⟩:=hy (n,k) List.mem_cons_self e
    have hc':env.cells.lookup n=some c:=hc
    simp only [hk,if_true,cellOf,hc',pure_bind,ft,Option.getD_some]
    exact ih' _
   ·have hk':(k == NameKind.free)=false:=by simpa using hk
    simp only [hk',Bool.false_eq_true,if_false,pure_bind,ft]
    exact ih' _
 unfold closureFor
 have e:=key scope.names [] hf
 show ((forIn scope.names ([]:List (Str × Addr)) fun x r=>match x with
    | (name,kind)=>if (kind == NameKind.free)=true then (do let a <-cellOf env name;pure (ForInStep.yield ((name,a) :: r))) else pure (ForInStep.yield r):Sem (List (Str × Addr))) >>= fun r=>pure r)=_
 rw [e,pure_bind]
theorem gy {cells:List (Str × Addr)}:∀ (names:List (Str × NameKind)) (cs:List (Str × Addr)),(∀ y ∈ names,y.2=.free->∃ c,cells.lookup y.1=some c) ->
  (∀ x c,cs.lookup x=some c->cells.lookup x=some c)->∀ x c,(ft cells names cs).lookup x=some c->cells.lookup x=some c
 | [],_,_,h,x,c,e=>h x c e
 | (n,k) :: r,cs,hf,h,x,c,e=>by
  refine gy r _ (fun y hy=>hf y (List.mem_cons_of_mem _ hy)) (fun z d hz=>?_) x c e
  by_cases hk:(k == NameKind.free)=true
  ·rw [if_pos hk] at hz
   obtain⟨c',hc⟩:=hf (n,k) List.mem_cons_self (by simpa using hk)
   have hc':cells.lookup n=some c':=hc
   rw [List.lookup_cons] at hz
   cases hzn:z == n with
   | true =>
    rw [hzn] at hz
    have:z=n:=by simpa using hzn
    subst this
    rw [hc'] at hz ⊢
    simpa using hz
   | false=>rw [hzn] at hz;exact h z d hz
  ·rw [if_neg hk] at hz;exact h z d hz
theorem i3 {cells:List (Str × Addr)} {x:Str}:∀ (names:List (Str × NameKind)) (cs:List (Str × Addr)),((x,NameKind.free) ∈ names\/∃ c,cs.lookup x=some c)->∃ c,(ft cells names cs).lookup x=some c
 | [],_,h=>by
  rcases h with h | h
  ·cases h
  ·exact h
 | (n,k) :: r,cs,h=>by
  refine i3 r _ ?_
  by_cases hk:(k == NameKind.free)=true
  ·rw [if_pos hk]
   cases hxn:x == n with
   | true=>exact .inr ⟨_,by rw [List.lookup_cons,hxn]⟩
   | false =>
    rcases h with h | ⟨c,h⟩
    ·rcases List.mem_cons.mp h with h | h
     ·have:x=n:=(Prod.mk.inj h).1
      subst this
      simp at hxn
     ·exact .inl h
    ·exact .inr ⟨c,by rw [List.lookup_cons,hxn];exact h⟩
  ·rw [if_neg hk]
   rcases h with h | h
   ·rcases List.mem_cons.mp h with h | h
    ·have:NameKind.free=k:=(Prod.mk.inj h).2
     subst this
     simp at hk
    ·exact .inl h
   ·exact .inr h
theorem eE {env:Env} {x:Str} {k:NameKind} (hk:k=.cell\/k=.free):∀ {names:List (Str × NameKind)},(∀ y ∈ names,y.2 ≠ .cell) ->
  (names.map fun (n,k)=>if (k == NameKind.free && env.scope.kind == .function && env.kindOf n == some .cell) then (n,NameKind.cell) else (n,k)).lookup x=some k->(x,NameKind.free) ∈ names
 | [],_,h=>by simp at h
 | (n,q) :: r,hc,h=>by
  have ih:=eE (env:=env) (x:=x) hk (names:=r) (fun y hy=>hc y (List.mem_cons_of_mem _ hy))
  have h':List.lookup x ((if (q == NameKind.free && env.scope.kind == .function && env.kindOf n == some .cell)=true then (n,NameKind.cell) else (n,q)) :: _)=some k:=h
  by_cases hq:(q == NameKind.free && env.scope.kind == .function && env.kindOf n == some .cell)=true
  ·rw [if_pos hq,List.lookup_cons] at h'
   have eq:q=.free:=by
    rw [Bool.and_eq_true,Bool.and_eq_true] at hq
    simpa using hq.1.1
   cases hxn:x == n with
   | true =>
    have:x=n:=by simpa using hxn
    subst this;subst eq
    exact List.mem_cons_self
   | false=>rw [hxn] at h';exact List.mem_cons_of_mem _ (ih h')
  ·rw [if_neg hq,List.lookup_cons] at h'
   cases hxn:x == n with
   | true =>
    rw [hxn] at h'
    have:x=n:=by simpa using hxn
    subst this
    have e:q=k:=Option.some.inj h'
    subst e
    rcases hk with hk | hk
    ·exact absurd hk (hc (x,q) List.mem_cons_self)
    ·subst hk;exact List.mem_cons_self
   | false=>rw [hxn] at h';exact List.mem_cons_of_mem _ (ih h')
theorem gA {env:Env} {x:Str}:∀ {names:List (Str × NameKind)},names.lookup x=some .free ->
  (names.map fun (n,k)=>if (k == NameKind.free && env.scope.kind == .function && env.kindOf n == some .cell) then (n,NameKind.cell) else (n,k)).lookup x=some .cell \/
  (names.map fun (n,k)=>if (k == NameKind.free && env.scope.kind == .function && env.kindOf n == some .cell) then (n,NameKind.cell) else (n,k)).lookup x=some .free
 | [],h=>by simp at h
 | (n,q) :: r,h=>by
  have ih:=gA (env:=env) (x:=x) (names:=r)
  show List.lookup x ((if (q == NameKind.free && env.scope.kind == .function && env.kindOf n == some .cell)=true then (n,NameKind.cell) else (n,q)) :: _)=some .cell \/
   List.lookup x ((if (q == NameKind.free && env.scope.kind == .function && env.kindOf n == some .cell)=true then (n,NameKind.cell) else (n,q)) :: _)=some .free
  rw [List.lookup_cons] at h
  by_cases hq:(q == NameKind.free && env.scope.kind == .function && env.kindOf n == some .cell)=true
  ·rw [if_pos hq,List.lookup_cons]
   cases hxn:x == n with
   | true=>exact .inl rfl
   | false=>rw [hxn] at h;exact ih h
  ·rw [if_neg hq,List.lookup_cons]
   cases hxn:x == n with
   | true=>rw [hxn] at h;exact .inr h
   | false=>rw [hxn] at h;exact ih h
def df (X:Cx) (scope:Scope) (C:Addr) (N':List Str) (fp:List Addr) (s₁ : Shared) (H₁ : Hp):Cx where
 prog:=X.prog
 w:=X.w
 K:=X.K
 mg:=X.mg
 base:=X.base
 A:=X.A
 N:=N'
 b6:=s₁
 jR:=H₁
 env:=compEnvC scope (ft X.env.cells scope.names []) C X.env
 outer:=X.stack
 stack:=X.stack
 ex:=fp
 fn:=fun _=>false
 calm:=X.calm
 pn:=[]
 xe:=fun _ _=>False
def dm (X:Cx) (scope:Scope):List Str->List Nat->Prop
 | [],[]=>True
 | x :: fr,j :: js=>(X.N[j]? = some x/\(X.env.kindOf x=some .cell\/X.env.kindOf x=some .free)/\scope.names.lookup x=some .free)/\dm X scope fr js
 | _,_=>False
theorem dm.len {X:Cx} {scope:Scope}:∀ {fr:List Str} {js:List Nat},dm X scope fr js->fr.length=js.length
 | [],[],_=>rfl
 | _ :: _,_ :: _,h=>by simp [dm.len h.2]
 | [],_ :: _,h=>h.elim
 | _ :: _,[],h=>h.elim
theorem dm.mem {X:Cx} {scope:Scope} {x:Str}:∀ {fr:List Str} {js:List Nat},dm X scope fr js->x ∈ fr->X.env.kindOf x=some .cell\/X.env.kindOf x=some .free
 | [],[],_,h=>by cases h
 | a :: fr,b :: js,h,hm=>by
  rcases List.mem_cons.mp hm with rfl | hm
  ·exact h.1.2.1
  ·exact dm.mem h.2 hm
 | [],_ :: _,h,_=>h.elim
 | _ :: _,[],h,_=>h.elim
theorem dm.get {X:Cx} {scope:Scope}:∀ {fr:List Str} {js:List Nat} {i:Nat} {x:Str} {j:Nat},dm X scope fr js->fr[i]? = some x->js[i]? = some j ->
  X.N[j]? = some x/\(X.env.kindOf x=some .cell\/X.env.kindOf x=some .free)/\scope.names.lookup x=some .free
 | [],[],_,_,_,_,h,_=>by simp at h
 | a :: fr,b :: js,0,x,j,h,h1,h2=>by
  simp at h1 h2
  subst h1;subst h2
  exact h.1
 | a :: fr,b :: js,i+1,x,j,h,h1,h2=>dm.get h.2 (by simpa using h1) (by simpa using h2)
 | [],_ :: _,_,_,_,h,_,_=>h.elim
 | _ :: _,[],_,_,_,h,_,_=>h.elim
def ia (n:Nat) (js:List Nat) (σ : St):St:=List.replicate n none++js.map fun j=>σ.getD j none
theorem rH {X:Cx} {pins:List (Addr × Obj)} {σ : St} {H:Hp} {s:Shared} {scope:Scope} {fp:List Addr} {C:Addr} {N':List Str} (I:Inv X pins σ H s) (hk:scope.kind=.function) (hcell:∀ y ∈ scope.names,y.2 ≠ .cell)
  (hf:∀ y ∈ scope.names,y.2=.free->∃ c,X.env.cells.lookup y.1=some c) (hC:s.heap.objs.size<=C) (hfp:∀ b ∈ fp,eh X pins H b) (hlt:∀ b ∈ fp,b < s.heap.objs.size):(df X scope C N' fp s H).Ok:=by
 have ag:∀ x c,(ft X.env.cells scope.names []).lookup x=some c->X.env.cells.lookup x=some c:=gy scope.names [] hf fun x c e=>by simp at e
 refine⟨I.ok.mod,hk,I.ok.glob,I.ok.blt,hC,fun x y c h1 h2=>I.ok.inj x y c (ag x c h1) (ag y c h2),fun x hx=>?_,(fun x c h=>(by cases h)),I.ok.hd,I.ok.frames,.inl rfl,fun b hb=>?_,I.bs,?_,fun b o e hb=>?_,fun b hb=>?_,I.stack,I.lj⟩
 ·refine i3 scope.names [] (.inl ?_)
  rcases hx with hx | hx
  ·exact eE (.inl rfl) hcell hx
  ·exact eE (.inr rfl) hcell hx
 ·obtain⟨h1,h2,h3,h4,h5,h6⟩:=hfp b hb
  exact⟨Nat.ne_of_lt (Nat.lt_of_lt_of_le (hlt b hb) hC),fun x c e=>h5 x c (ag x c e)⟩
 ·exact Nat.le_trans I.ok.jg I.sz
 ·obtain⟨h1,h2,h3,h4,h5,h6⟩:=hfp b hb
  rcases h4 with h4 | h4
  ·exact I.ok.jS b o e h4
  ·exact absurd (Nat.lt_of_lt_of_le (Heap.lt_size e) (Nat.le_trans I.ok.jg h4)) (Nat.lt_irrefl _)
 ·obtain⟨h1,h2,h3,h4,h5,h6⟩:=hfp b hb
  intro z
  rcases List.mem_cons.mp (I.iF b z) with z | z
  ·exact h2 z
  ·exact h3 z
def lL (J:It) (n:Nat) (js:List Nat) (g:TG) (ct:TT) (te:TE) (acc:Addr) (σ : St) (H1:Hp) (Q:VK):Prop :=
 ∃ W:Nat->Nat->List V->St->Hp->Prop,(∃ m,W 0 m [] (ia n js σ) (upd H1 acc (.lst [])))/\∀ i m ys τ H2,W i m ys τ H2->H2 acc=some (.lst ys)/\ys.length < sizeLine /\
  ((J.stop i H2/\Q (.ref acc) H2)\/(J.go i H2/\∃ N:List V->St->Hp->Prop,(∀ ys' τ' H',N ys' τ' H'->∃ m',m' < m/\W (i+1) m' ys' τ' H')/\∀ x H3,J.ni i H2 x H3->g x τ H3 fun τ1 H4=>ct τ1 H4 fun b H5 =>
   if b=true then te τ1 H5 fun y H6=>H6 acc=some (.lst ys)/\N (ys ++ [y]) τ1 (upd H6 acc (.lst (ys ++ [y]))) else N ys τ1 H5))
def tm (n:Nat) (js:List Nat) (wi:TI) (g:TG) (ct:TT) (te:TE):TE:=fun σ H Q=>wi σ H fun J H1=>∀ acc,H1 acc=none->lL J n js g ct te acc σ H1 Q
def nI (X:Cx) (ifs:List Expr) (t:TT):Prop :=
 ∀ (pins:List (Addr × Obj)) (s:Shared) (σ : St) (H:Hp) (Q:Bool->Hp->Prop),Inv X pins σ H s->t σ H Q ->
  wpAny (model X.prog X.w) X.A (forIn ifs true fun c r=>if r=true then do let ok <-isTrue c X.env (eval c X.env);pure (ForInStep.yield ok) else pure (ForInStep.yield r)) (TP X pins σ Q) X.xe s
def rJ:TT:=fun _ H Q=>Q true H
theorem dn {X:Cx}:nI X [] rJ:=fun _ _ σ H Q I h=>wpAny_pure ⟨H,I,h⟩
theorem qg {X:Cx} {c:Expr} {t:TT} (h:PT X c t):nI X [c] t:=by
 intro pins s σ H Q I q
 rw [List.forIn_cons]
 simp only [if_true,bind_assoc,pure_bind]
 refine wpAny_bind (aM (h pins s σ H Q I q) fun b s1 h1=>?_)
 exact wpAny_pure h1
section
variable {X:Cx} {pos:Pos}
theorem fW {prog:Program} {w:World} {A:Around} {R:Result->Shared->Prop} {s:Shared} {elt target iter:Expr} {ifs:List Expr} {scope:Scope} {pos:Pos} {it acc:Value} {env:Env} (I:Nat->Shared->Prop)
  (turn:∀ n s,I n s->wpAny (model prog w) A (pyNext it) (fun r s₁=>match r with
   | none=>R (.ok .next) s₁
   | some v=>wpAny (model prog w) A (letOwnedTupleGo target it v) (fun _ s₁'=>wpAny (model prog w) A (assign target env v) (fun _ s₂ =>
     wpAny (model prog w) A (forIn ifs true fun c r=>if r=true then do let ok <-isTrue c env (eval c env);pure (ForInStep.yield ok) else pure (ForInStep.yield r)) (fun ok s₃ =>
      if ok=true then wpAny (model prog w) A (eval elt env) (fun x s₄ =>
       wpAny (model prog w) A (call (.builtin "list.append") [acc,x]) (fun _ s₅=>∃ m,m < n/\I m s₅) (fun _ _=>False) s₄) (fun _ _=>False) s₃
      else ∃ m,m < n/\I m s₃) (fun _ _=>False) s₂) (fun _ _=>False) s₁') (fun _ _=>False) s₁) (fun _ _=>False) s)
  (n:Nat) (h:I n s) :
  codeAny (model prog w) A (.compLoop (.ListComp elt [⟨target,iter,ifs,0⟩] scope pos) 0 it acc env) R s:=by
 refine codeAny_loop rfl I (fun n s hI=>?_) n h
 show wpAny _ A ((compTurn (.ListComp elt [⟨target,iter,ifs,0⟩] scope pos) 0 it acc env).onRaise (fun x=>do noteFrame x env;theTreesLotGoes x)) _ _ s
 refine wpAny_noted ?_
 rw [compTurn_list]
 refine wpAny_bind (wpAny_standAt (wpAny_bind (wpAny_mono (turn n s hI) (fun r s₁ h₁=>?_) fun _ _ h'=>h'.elim)))
 cases r with
 | none=>exact wpAny_pure h₁
 | some v =>
  refine wpAny_bind (wpAny_mono h₁ (fun _ s₁' h₁'=>?_) fun _ _ h'=>h'.elim)
  refine wpAny_bind (wpAny_mono h₁' (fun _ s₂ h₂=>wpAny_bind (wpAny_mono h₂ (fun ok s₃ h₃=>?_) fun _ _ h'=>h'.elim)) fun _ _ h'=>h'.elim)
  cases ok with
  | false=>exact wpAny_pure ⟨rfl,h₃⟩
  | true =>
   exact wpAny_bind (wpAny_bind (wpAny_mono h₃ (fun x s₄ h₄=>wpAny_bind (wpAny_mono h₄ (fun _ s₅ h₅=>wpAny_pure (wpAny_pure ⟨rfl,h₅⟩)) fun _ _ h'=>h'.elim)) fun _ _ h'=>h'.elim))
theorem lM {pins:List (Addr × Obj)} {σ : St} {H:Hp} {s:Shared} {E:Value->Shared->Prop} {tg elt iter:Expr} {ifs:List Expr} {scope:Scope} {g:TG} {ct:TT} {te:TE} {ts fr:List Str} {js:List Nat}
    {it:Addr} {fp:List Addr} {tn:Nat->Heap->Prop} {J:It} {Q:VK} {RR:Value->Addr->Result->Shared->Prop}
    (hc:X.calm=true) (hkind:scope.kind=.function) (hcell:∀ y ∈ scope.names,y.2 ≠ .cell) (hfree:∀ y ∈ scope.names,y.2=.free->X.env.kindOf y.1=some .cell\/X.env.kindOf y.1=some .free)
    (hfr:dm X scope fr js) (htg:∀ C fp s₁ H₁,PG (df X scope C (ts++fr) fp s₁ H₁) tg g) (hct:∀ C fp s₁ H₁,nI (df X scope C (ts++fr) fp s₁ H₁) ifs ct) (hte:∀ C fp s₁ H₁,PE (df X scope C (ts++fr) fp s₁ H₁) elt te)
    (I:Inv X pins σ H s) (T:Turn X.prog X.w X.K tg J fp it tn) (st:tn 0 s.heap) (hfp:∀ b ∈ fp,eh X pins H b)
    (h:∀ acc,H acc=none->lL J ts.length js g ct te acc σ H Q)
    (hRR:∀ acc C H' s' m,Inv X pins σ H' s'->s'.heap.Ns C m->H' C=none->s.heap.objs.size<=C->Q (.ref acc) H'->RR (.ref acc) C (.ok .next) s') :
    wpAny (model X.prog X.w) X.A (newList []) (fun acc s₃=>wpAny (model X.prog X.w) X.A (newFunctionEnv scope X.env.globals (ft X.env.cells scope.names []) [] X.env.qual none .none (some X.env)) (fun cenv s₄ =>
      codeAny (model X.prog X.w) X.A (.compStart (.ListComp elt [⟨tg,iter,ifs,0⟩] scope pos) 0 (.ref it) acc { cenv with scope:=relabel scope X.env }) (RR acc cenv.locals) s₄) E s₃) E s:=by
  have hf:∀ y ∈ scope.names,y.2=.free->∃ c,X.env.cells.lookup y.1=some c:=fun y hy e=>I.ok.has y.1 (hfree y hy e)
  have ag:∀ x c,(ft X.env.cells scope.names []).lookup x=some c->X.env.cells.lookup x=some c:=gy scope.names [] hf fun x c e=>by simp at e
  have hlt:∀ b ∈ fp,b < s.heap.objs.size:=fun b hb=>by
    obtain⟨o,e,_⟩:=T.obj _ _ st b hb
    exact Heap.lt_size e
  refine wpAny_newObj_type (wpAny_newFunctionEnv hcell (by intro y hy;simp at hy) (fun h₁ hns₁ hsb₁=>?_) hkind)
  dsimp only at hns₁ hsb₁ ⊢
  generalize hH2:s.heap.push { cls:=.type "list",dict:=none,data:=.seq ([]:List Value).toArray }=G2 at hns₁ hsb₁ ⊢
  have hC:G2.objs.size=s.heap.objs.size+1:=by rw [<-hH2,Heap.size_push]
  have hDC:s.heap.objs.size ≠ G2.objs.size:=by rw [hC];exact Nat.ne_of_lt (Nat.lt_succ_self _)
  have hCle:s.heap.objs.size<=G2.objs.size:=by rw [hC];exact Nat.le_succ _
  have below:∀ b,b < s.heap.objs.size->b ≠ G2.objs.size/\b ≠ s.heap.objs.size:=fun b hb=>⟨by rw [hC];exact Nat.ne_of_lt (Nat.lt_succ_of_lt hb),Nat.ne_of_lt hb⟩
  have old:∀ b o,s.heap.get? b=some o->h₁.get? b=some o:=fun b o e=>hsb₁.extBut b o (below b (Heap.lt_size e)).1 (Heap.get?_push_of_some _ (hH2 ▸ Heap.get?_push_of_some _ e))
  have hacc:h₁.get? s.heap.objs.size=some { cls:=.type "list",data:=.seq ([]:List Value).toArray }:=hsb₁.extBut _ _ hDC (Heap.get?_push_of_some _ (hH2 ▸ Heap.get?_push_size _ rfl))
  have nD:H s.heap.objs.size=none:=I.aK.fresh (Nat.le_refl _)
  have nC:H G2.objs.size=none:=I.aK.fresh hCle
  obtain⟨W,⟨m0,w0⟩,turn⟩:=h s.heap.objs.size nD
  generalize hXb:df X scope G2.objs.size (ts++fr) fp s H=Xb
  have Ib:∀ tk,Inv Xb [] (ia ts.length js σ) (upd H s.heap.objs.size (.lst [])) { s with heap:=h₁,toks:=tk }:=by
    intro tk
    subst hXb
    refine⟨rH I hkind hcell hf hCle hfp hlt,rfl,I.bare,Un.laid old (Nat.le_refl _) nD,⟨_,hns₁,fun i x v e1 e2 e3=>?_⟩,fun x c e=>?_,?_,fun x c e=>?_,fun p hp=>absurd (show p ∈ ([]:List (Addr × Obj)) from hp) (by simp),I.aK.laid old (Nat.le_refl _) ⟨by show 0<=sizeLine;decide,[],_,.nil,hacc⟩,?_⟩
    · have hi:ts.length<=i:=by
        refine Nat.le_of_not_lt fun hi=>?_
        unfold ia at e2
        rw [List.getElem?_append_left (by simpa using hi),List.getElem?_replicate] at e2
        split at e2 <;> cases e2
      have e1':fr[i - ts.length]? = some x:=by
        have e1'':(ts++fr)[i]? = some x:=e1
        rw [List.getElem?_append_right hi] at e1''
        exact e1''
      unfold ia at e2
      rw [List.getElem?_append_right (by simpa using hi),List.length_replicate,List.getElem?_map] at e2
      cases ej:js[i - ts.length]? with
      | none=>rw [ej] at e2;cases e2
      | some j =>
        rw [ej] at e2
        have e2':σ.getD j none=some v:=by simpa using e2
        obtain⟨q1,q2,q3⟩:=hfr.get e1' ej
        have e2'':σ[j]? = some (some v):=by
          rw [List.getD_eq_getElem?_getD] at e2'
          cases ez:σ[j]? with
          | none=>rw [ez] at e2';cases e2'
          | some z=>rw [ez] at e2';rw [show z=some v from e2']
        obtain⟨m,hn,hl⟩:=I.loc
        obtain⟨u,r,l⟩:=hl j x v q1 e2'' (by
          rcases q2 with q2 | q2
          · exact .inr (.inl q2)
          · exact .inr (.inr q2))
        refine⟨u,r,.inr ⟨gA q3,?_⟩⟩
        rcases l with ⟨l,_⟩ | ⟨_,c,lc,lv⟩
        · rcases q2 with q2 | q2 <;> (rw [l] at q2;cases q2)
        · obtain⟨c',hc'⟩:=i3 (cells:=X.env.cells) scope.names [] (.inl (PySem.mem_of_lookup q3))
          have:=ag x c' hc'
          rw [lc] at this
          cases this
          obtain⟨o,ho,hd⟩:=lv
          exact⟨c,hc',o,old _ _ ho,hd⟩
    · obtain⟨v,o,ho,hd⟩:=I.cell x c (ag x c e)
      exact⟨v,o,old _ _ ho,hd⟩
    · show upd H s.heap.objs.size (.lst []) G2.objs.size=none
      rw [aF hDC.symm];exact nC
    · obtain⟨v,o,ho,hd⟩:=I.cell x c (ag x c e)
      rw [aF (Nat.ne_of_lt (Heap.lt_size ho))]
      exact I.dz x c (ag x c e)
    · show (ia ts.length js σ).length=(ts++fr).length
      unfold ia
      rw [List.length_append,List.length_replicate,List.length_map,List.length_append,hfr.len]
  have fpB:∀ {H':Hp},(∀ b ∈ fp,H' b=none)->∀ b ∈ fp,eh Xb [] H' b:=fun {H'} hn b hb=>by
    subst hXb
    obtain⟨h1,h2,h3,h4,h5,h6⟩:=hfp b hb
    refine⟨hn b hb,(below b (hlt b hb)).1,fun z=>?_,.inl hb,fun x c e=>h5 x c (ag x c e),fun p hp=>absurd (show p ∈ ([]:List (Addr × Obj)) from hp) (by simp)⟩
    rcases List.mem_cons.mp (I.iF b z) with z | z
    · exact h2 z
    · exact h3 z
  have fin:∀ {τ : St} {H':Hp} {s':Shared},Inv Xb [] τ H' s'->Q (.ref s.heap.objs.size) H'->RR (.ref s.heap.objs.size) G2.objs.size (.ok .next) s':=fun {τ H' s'} Jb q=>by
    subst hXb
    obtain⟨m,hn,_⟩:=Jb.loc
    refine hRR _ _ H' s' m (I.sj (ch:=fp) Jb.os Jb.base Jb.aK Jb.bare fun b hb=>?_) hn Jb.free hCle q
    obtain⟨h1,h2,h3,h4,h5,h6⟩:=hfp b hb
    exact⟨h4,h2,h5,h6⟩
  have loop:∀ tk,codeAny (model X.prog X.w) X.A (.compLoop (.ListComp elt [⟨tg,iter,ifs,0⟩] scope pos) 0 (.ref it) (.ref s.heap.objs.size) (compEnvC scope (ft X.env.cells scope.names []) G2.objs.size X.env))
        (RR (.ref s.heap.objs.size) G2.objs.size) { s with heap:=h₁,toks:=tk }:=by
    intro tk
    refine fW (fun n s'=>∃ i ys τ H',Inv Xb [] τ H' s'/\tn i s'.heap/\(∀ b ∈ fp,H' b=none)/\W i n ys τ H') ?_ m0 ⟨0,[],_,_,Ib tk,T.keep _ _ _ st fun b hb o e=>old b o e,fun b hb=>?_,w0⟩
    · rintro n s3 ⟨i,ys,τ,H3,I3,st3,fr3,w3⟩
      have htg':=htg G2.objs.size fp s H
      have hct':=hct G2.objs.size fp s H
      have hte':=hte G2.objs.size fp s H
      rw [hXb] at htg' hct' hte'
      have eP:Xb.prog=X.prog:=by subst hXb;rfl
      have ew:Xb.w=X.w:=by subst hXb;rfl
      have eK:Xb.K=X.K:=by subst hXb;rfl
      have eA:Xb.A=X.A:=by subst hXb;rfl
      have ec:Xb.calm=true:=by subst hXb;exact hc
      have ee:Xb.env=compEnvC scope (ft X.env.cells scope.names []) G2.objs.size X.env:=by subst hXb;rfl
      have ex:Xb.xe=fun _ _=>False:=by subst hXb;rfl
      rw [<-eP,<-ew,<-eA,<-ee]
      obtain⟨ha,hl,turn'⟩:=turn i n ys τ H3 w3
      rcases turn' with ⟨stop,q⟩ | ⟨go,N,hN,step⟩
      · have hd:=T.done Xb eP ew eK ec i [] s3 τ H3 (fun _ _=>False) I3 (fpB fr3) st3 stop
        rw [<-eP,<-ew] at hd
        refine wpAny_mono hd (fun r s4 hr4=>?_) fun _ _ z=>z
        obtain⟨hr,I4⟩:=hr4
        subst hr
        exact fin I4 q
      · have hd:=T.item Xb eP ew eK ec i [] s3 τ H3 (fun _ _=>False) I3 (fpB fr3) st3 go
        rw [<-eP,<-ew] at hd
        refine wpAny_mono hd (fun r s4 hr4=>?_) fun _ _ z=>z
        obtain⟨u,hr,h4⟩:=hr4
        subst hr
        refine wpAny_mono h4 (fun _ s5 ⟨x,H5,I5,r5,y5,st5,fr5⟩=>?_) fun _ _ z=>z
        have I5':=I5.pinned (fpB fr5) (T.obj _ _ st5)
        have keepT:∀ {σ7:St} {H7:Hp} {s7:Shared},Inv Xb ([] ++ gh fp s5.heap) σ7 H7 s7->tn (i+1) s7.heap/\∀ b ∈ fp,H7 b=none:=fun {σ7 H7 s7} I7=>by
          refine⟨T.keep _ _ _ st5 fun b hb o e=>(I7.pin (b,o) (List.mem_append_right _ (List.mem_append_right _ (dP hb e)))).1,fun b hb=>?_⟩
          obtain⟨o,e,d⟩:=T.obj _ _ st5 b hb
          exact (I7.pin (b,o) (List.mem_append_right _ (List.mem_append_right _ (dP hb e)))).2.1
        refine wpAny_mono (htg' _ s5 τ H5 x u _ I5' r5 (step x H5 y5)) (fun _ s6 ⟨τ6,H6,I6,q6⟩=>?_) (fun _ _ z=>by rw [ex] at z;exact z)
        refine wpAny_mono (hct' _ s6 τ6 H6 _ I6 q6) (fun ok s7 ⟨H7,I7,q7⟩=>?_) (fun _ _ z=>by rw [ex] at z;exact z)
        cases ok with
        | false =>
          have q7':N ys τ6 H7:=by rw [if_neg (by simp)] at q7;exact q7
          rw [if_neg (by simp)]
          obtain⟨m',hm,w7⟩:=hN _ _ _ q7'
          exact⟨m',hm,i+1,ys,τ6,H7,I7.ei,(keepT I7).1,(keepT I7).2,w7⟩
        | true =>
          rw [if_pos rfl] at q7 ⊢
          refine wpAny_mono (hte' _ s7 τ6 H7 _ I7 q7) (fun v s8 ⟨y,H8,I8,r8,ha8,n8⟩=>?_) (fun _ _ z=>by rw [ex] at z;exact z)
          refine wpAny_mono (eV (X:=Xb) _ s8 τ6 H8 (.ref s.heap.objs.size) [y] (.ref s.heap.objs.size) [v] (fun _ H9=>H9=upd H8 s.heap.objs.size (.lst (ys ++ [y]))) I8 rfl (.cons r8 .nil) ⟨_,ys,y,rfl,rfl,ha8,hl,rfl⟩) (fun _ s9 ⟨_,H9,I9,_,e9⟩=>?_) (fun _ _ z=>by rw [ex] at z;exact z)
          subst e9
          obtain⟨m',hm,w8⟩:=hN _ _ _ n8
          exact⟨m',hm,i+1,_,τ6,_,I9.ei,(keepT I9).1,(keepT I9).2,w8⟩
    · rw [aF (Nat.ne_of_lt (hlt b hb))]
      exact (hfp b hb).1
  exact codeAny_compStart_list (loop _) (T.self _ 0 _ _ _ (T.keep _ _ _ st fun b hb o e=>old b o e) (loop _))
theorem Inv.nJ {pins:List (Addr × Obj)} {σ : St} {H H':Hp} {s s':Shared} {C:Addr} {h':Heap} (I:Inv X pins σ H s) {σ':St} (I':Inv X pins σ' H' s') (hC:H' C=none) (hle:s.heap.objs.size<=C) (hsb:Heap.SameBut C s'.heap h') :
  Inv X pins σ' H' { s' with heap:=h' }:=by
 obtain⟨h1,h2,h3,h4,h5,h6⟩:=I.il (H':=H') hle hC
 exact I'.turned (t':=s'.toks) (fun b o hb e=>hsb.extBut b o hb e) hC h2 h4 h5 h6
theorem cW {tg elt iter:Expr} {ifs:List Expr} {scope:Scope} {wi:TI} {g:TG} {ct:TT} {te:TE} (ts fr:List Str) (js:List Nat)
  (hc:X.calm=true) (hi:PI X tg iter wi) (hkind:scope.kind=.function) (hcell:∀ y ∈ scope.names,y.2 ≠ .cell) (hnames:∀ y ∈ scope.names,y.2=.local->scope.names.lookup y.1=some .local)
  (hfree0:∀ y ∈ scope.names,y.2=.free->y.1 ∈ fr) (hfr:dm X scope fr js)
  (htg:∀ C fp s₁ H₁,PG (df X scope C (ts++fr) fp s₁ H₁) tg g) (hct:∀ C fp s₁ H₁,nI (df X scope C (ts++fr) fp s₁ H₁) ifs ct) (hte:∀ C fp s₁ H₁,PE (df X scope C (ts++fr) fp s₁ H₁) elt te)
  (hs:∀ x,foldedSetIterable iter X.env x=pure x:=by intro _;rfl):PE X (.ListComp elt [⟨tg,iter,ifs,0⟩] scope pos) (tm ts.length js wi g ct te):=by
 have hfree:∀ y ∈ scope.names,y.2=.free->X.env.kindOf y.1=some .cell\/X.env.kindOf y.1=some .free:=fun y hy e=>hfr.mem (hfree0 y hy e)
 intro pins s σ H Q I h
 rw [eval_ListComp]
 refine wpAny_comprehension_free (use:=none) rfl hs (iO fun y hy e=>I.ok.has y.1 (hfree y hy e)) hkind hnames (aM (hi pins s σ H _ I h) fun xv s1 h1=>aM h1 fun itv s2 h2=>?_)
 obtain⟨it,fp,tn,J,H2,e,I2,T,st2,f2,hW⟩:=h2
 subst e
 refine lM (RR:=fun acc C=>compPost (model X.prog X.w) X.A X.xe none (EP X pins σ Q) acc C) hc hkind hcell hfree hfr htg hct hte I2 T st2 f2 hW ?_
 intro acc C H' s' m I' hn hC hle q
 exact⟨m,hn,fun h' hsb=>⟨.ref acc,H',I2.nJ I' hC hle hsb,rfl,q⟩⟩
theorem oO {tg elt iter:Expr} {ifs:List Expr} {scope:Scope} {wi:TI} {g:TG} {ct:TT} {te:TE} {i:Nat} {y:Str} {py spos:Pos} (ts fr:List Str) (js:List Nat)
  (hsw:swapsWith (.ListComp elt [⟨tg,iter,ifs,0⟩] scope pos) (some (.Name y py)) spos.line X.env=pure true) (hN:X.N.Nodup) (hi0:X.N[i]? = some y) (hx:X.env.scope.names.lookup y=some .local)
  (hc:X.calm=true) (hi:PI X tg iter wi) (hkind:scope.kind=.function) (hcell:∀ y ∈ scope.names,y.2 ≠ .cell) (hnames:∀ y ∈ scope.names,y.2=.local->scope.names.lookup y.1=some .local)
  (hfree0:∀ y ∈ scope.names,y.2=.free->y.1 ∈ fr) (hfr:dm X scope fr js)
  (htg:∀ C fp s₁ H₁,PG (df X scope C (ts++fr) fp s₁ H₁) tg g) (hct:∀ C fp s₁ H₁,nI (df X scope C (ts++fr) fp s₁ H₁) ifs ct) (hte:∀ C fp s₁ H₁,PE (df X scope C (ts++fr) fp s₁ H₁) elt te)
  (hs:∀ x,foldedSetIterable iter X.env x=pure x:=by intro _;rfl):PS X (.Assign [.Name y py] (.ListComp elt [⟨tg,iter,ifs,0⟩] scope pos) spos) (jY (tm ts.length js wi g ct te) (fE i)):=by
 have hfree:∀ y ∈ scope.names,y.2=.free->X.env.kindOf y.1=some .cell\/X.env.kindOf y.1=some .free:=fun y hy e=>hfr.mem (hfree0 y hy e)
 intro pins s σ H D I h
 rw [exec_Assign_Name_used _ _ _ _ hsw]
 refine wpAny_bind (wpAny_standAt (wpAny_bind ?_))
 show wpAny _ X.A (do let _ <-comprehension (.ListComp elt [⟨tg,iter,ifs,0⟩] scope pos) scope X.env _ (newList []) false (eval iter X.env) (some (assign (.Name y py) X.env))) _ _ s
 refine wpAny_bind (wpAny_mono (wpAny_comprehension_free (use:=some (assign (.Name y py) X.env)) (Q:=fun _ s'=>SP X pins D .next s') rfl hs (iO fun y hy e=>I.ok.has y.1 (hfree y hy e)) hkind hnames
  (aM (hi pins s σ H _ I h) fun xv s1 h1=>aM h1 fun itv s2 h2=>?_)) (fun _ s' hq=>wpAny_pure (wpAny_pure hq)) fun _ _ e=>e)
 obtain⟨it,fp,tn,J,H2,e,I2,T,st2,f2,hW⟩:=h2
 subst e
 refine lM (Q:=fun v H'=>D.nx (σ.set i (some v)) H') (RR:=fun acc C=>compPost (model X.prog X.w) X.A X.xe (some (assign (.Name y py) X.env)) (fun _ s'=>SP X pins D .next s') acc C) hc hkind hcell hfree hfr htg hct hte I2 T st2 f2 hW ?_
 intro acc C H' s' m I' hn hC hle q
 show wpAny _ X.A (assign (.Name y py) X.env (.ref acc)) _ _ _
 refine wpAny_assign_Name (jh I' hN hi0 (.inl hx) (v:=.ref acc) rfl (fun s'' I'' hch=>?_) (.inr hx))
 obtain⟨h1,h2,h3,h4,h5,h6⟩:=I2.il (H':=H') hle hC
 obtain⟨a,hsb,ha⟩:=hch
 refine⟨m,hn.sameBut hsb ?_,fun h' hsb'=>⟨_,H',I2.nJ I'' hC hle hsb',q⟩⟩
 rcases ha with ha | ha
 ·rw [ha];exact h2
 ·exact fun z=>h5 y a ha z.symm
end
theorem j9 {K:PySem.W.Frag} {a acc:Addr} {xs:List V} {n:Nat} {js:List Nat} {g:TG} {ct:TT} {te:TE} {σ : St} {H1:Hp} {Q:VK} (Pv:Nat->List V->St->Hp->Prop) (h0:Pv 0 [] (ia n js σ) (upd H1 acc (.lst [])))
  (hl:∀ i ys τ H,i<=xs.length->Pv i ys τ H->aG K H a xs/\H acc=some (.lst ys)/\ys.length < sizeLine)
  (hs:∀ i x ys τ H,xs[i]? = some x->Pv i ys τ H->g x τ H fun τ1 H4=>ct τ1 H4 fun b H5=>if b=true then te τ1 H5 fun y H6=>H6 acc=some (.lst ys)/\Pv (i+1) (ys ++ [y]) τ1 (upd H6 acc (.lst (ys ++ [y]))) else Pv (i+1) ys τ1 H5)
  (hd:∀ ys τ H,Pv xs.length ys τ H->Q (.ref acc) H) :
  lL (lr K a) n js g ct te acc σ H1 Q:=by
 refine⟨fun i m ys τ H=>m=xs.length - i/\i<=xs.length/\Pv i ys τ H,⟨xs.length,by simp,Nat.zero_le _,h0⟩,?_⟩
 rintro i m ys τ H ⟨rfl,hi,p⟩
 obtain⟨q,q2,q3⟩:=hl i ys τ H hi p
 refine⟨q2,q3,?_⟩
 by_cases hlt:i < xs.length
 ·refine .inr ⟨⟨xs,xs[i],q,by simp [hlt]⟩,Pv (i+1),fun ys' τ' H' p'=>⟨xs.length - (i+1),by omega,rfl,hlt,p'⟩,fun x H' y=>?_⟩
  obtain⟨e,y⟩:=y
  subst e
  exact hs i x ys τ _ (y xs q) p
 ·have e:i=xs.length:=by omega
  subst e
  exact .inl ⟨⟨xs,q,Nat.le_refl _⟩,hd ys τ H p⟩
theorem ka {lo:Int} {k:Nat} {acc:Addr} {n:Nat} {js:List Nat} {g:TG} {ct:TT} {te:TE} {σ : St} {H1:Hp} {Q:VK} (Pv:Nat->List V->St->Hp->Prop) (h0:Pv 0 [] (ia n js σ) (upd H1 acc (.lst [])))
  (hl:∀ i ys τ H,i<=k->Pv i ys τ H->H acc=some (.lst ys)/\ys.length < sizeLine)
  (hs:∀ i ys τ H,i < k->Pv i ys τ H->g (.int (lo+i)) τ H fun τ1 H4=>ct τ1 H4 fun b H5=>if b=true then te τ1 H5 fun y H6=>H6 acc=some (.lst ys)/\Pv (i+1) (ys ++ [y]) τ1 (upd H6 acc (.lst (ys ++ [y]))) else Pv (i+1) ys τ1 H5)
  (hd:∀ ys τ H,Pv k ys τ H->Q (.ref acc) H) :
  lL (jZ lo k) n js g ct te acc σ H1 Q:=by
 refine⟨fun i m ys τ H=>m=k - i/\i<=k/\Pv i ys τ H,⟨k,by simp,Nat.zero_le _,h0⟩,?_⟩
 rintro i m ys τ H ⟨rfl,hi,p⟩
 obtain⟨q2,q3⟩:=hl i ys τ H hi p
 refine⟨q2,q3,?_⟩
 by_cases hlt:i < k
 ·refine .inr ⟨hlt,Pv (i+1),fun ys' τ' H' p'=>⟨k - (i+1),by omega,rfl,hlt,p'⟩,fun x H' y=>?_⟩
  obtain⟨e,y⟩:=y
  subst e y
  exact hs i ys τ _ hlt p
 ·have e:i=k:=by omega
  subst e
  exact .inl ⟨Nat.le_refl _,hd ys τ H p⟩
section
variable {X:Cx}
theorem gB:bW X (compareOp .IsNot) (fun x y H Q=>∃ c d,x=.bl c/\y=.bl d/\Q (.bl (!(c == d))) H):=by
 intro pins s σ H x y v u Q I rx ry h
 obtain⟨c,d,rfl,rfl,q⟩:=h
 cases (show v=Value.bool c from rx)
 cases (show u=Value.bool d from ry)
 refine wpAny_isNot_plain rfl ⟨.bl (!(c == d)),H,I,?_,q⟩
 cases c <;> cases d <;> rfl
end
def tZ (t:TS):TS:=fun D σ H=>∃ M:St->Hp->Prop,t { D with nx:=M } σ H/\∀ σ' H',M σ' H'->D.nx σ' H'
theorem nK {X:Cx} {st:Stmt} {t:TS} (h:PS X st t):PS X st (tZ t):=by
 intro pins s σ H D I q
 obtain⟨M,q,hM⟩:=q
 refine aM (h pins s σ H _ I q) fun f s' hs=>?_
 cases f with
 | next =>
  obtain⟨σ',H',I',m⟩:=hs
  exact⟨σ',H',I',hM _ _ m⟩
 | brk=>exact hs
 | cont=>exact hs
 | ret u=>exact hs
theorem dg {m:Int} (h0:0 < m) (h1:m < 1073741824):m.natAbs.log2 < 9000:=by
 have h:m.natAbs.log2 < 30:=(Nat.log2_lt (by omega)).mpr (by omega)
 omega
theorem qh {X:Cx} {K:PySem.W.Frag} {es:List Expr} {k:Nat} {t:jW} {n:Nat} {pos:Pos} (hK:X.K=K) (h:PG X (.Tuple es k pos) (oA X.K n t)):PG X (.Tuple es k pos) (oA K n t):=by
 subst hK
 exact h
section
variable {prog:Program} {w:World} {A:Around} {E:Value->Shared->Prop} {s:Shared}
theorem kb {j t:Addr} {n:Nat} {its:Array Value} {x:Value} {Q:Value->Shared->Prop} (hj:s.heap.IsTupleIter j t n) (ht:s.heap.IsTuple t its) (hx:its[n]? = some x)
  (hQ:∀ g,g.IsTupleIter j t (n+1)->Heap.SameBut j s.heap g->Q x { s with heap:=g }):wpAny (model prog w) A (Builtin.SmallTypes.nextOf (.ref j)) Q E s:=by
 obtain⟨ob,eo,ec,ed⟩:=id hj
 obtain⟨ot,et,_,k,ek⟩:=ht
 unfold Builtin.SmallTypes.nextOf
 refine wpAny_bind (wpAny_callSpecial?_slot (name:=Str.ofString "__next__") hj.typeIs F.slot_tuple_iterator_next (wpAny_call_entry F.slot_tuple_iterator_next hj.typeIs F.entry_tuple_iterator_next ?_ (F.args_tuple_iterator_next_1 _)))
 show wpAny _ _ (field (.ref j) 0 >>= _) _ _ s
 refine wpAny_bind (wpAny_field eo ed (x:=.ref t) rfl ?_)
 show wpAny _ _ (if (Value.ref t == Value.none)=true then _ else _) _ _ s
 refine (if_neg (c:=(Value.ref t == Value.none)=true) Bool.false_ne_true) ▸ ?_
 show wpAny _ _ (field (.ref j) 1 >>= _) _ _ s
 refine wpAny_bind (wpAny_field eo ed (x:=.int n 0) rfl (wpAny_bind (wpAny_seqItems et ek ?_)))
 simp only [hx,Int.toNat_natCast]
 refine wpAny_bind (wpAny_setField eo ed (by simp) (wpAny_pure ⟨x,rfl,wpAny_pure (hQ _ ⟨_,Heap.get?_update_self _ eo (Obj.isFreed_of_fields (Obj.data_mapFields ed _)),(Obj.cls_mapFields ..).trans ec,?_⟩ (Heap.SameBut.update ..))⟩))
 rw [Obj.data_mapFields ed];simp [rawInt]
theorem lN {j t:Addr} {n:Nat} {its:Array Value} {Q:Value->Shared->Prop} (ha:A.handled=none) (hj:s.heap.IsTupleIter j t n) (ht:s.heap.IsTuple t its) (hx:its[n]? = none)
    (hE:∀ g e,Heap.ExtBut j s.heap g->(∃ o,g.get? e=some o/\o.cls=.type "StopIteration")->E (.ref e) { s with heap:=g }):wpAny (model prog w) A (Builtin.SmallTypes.nextOf (.ref j)) Q E s:=by
  obtain⟨ob,eo,ec,ed⟩:=id hj
  obtain⟨ot,et,_,k,ek⟩:=ht
  unfold Builtin.SmallTypes.nextOf
  refine wpAny_bind (wpAny_callSpecial?_slot (name:=Str.ofString "__next__") hj.typeIs F.slot_tuple_iterator_next (wpAny_call_entry F.slot_tuple_iterator_next hj.typeIs F.entry_tuple_iterator_next ?_ (F.args_tuple_iterator_next_1 _)))
  show wpAny _ _ (field (.ref j) 0 >>= _) _ _ s
  refine wpAny_bind (wpAny_field eo ed (x:=.ref t) rfl ?_)
  show wpAny _ _ (if (Value.ref t == Value.none)=true then _ else _) _ _ s
  refine (if_neg (c:=(Value.ref t == Value.none)=true) Bool.false_ne_true) ▸ ?_
  show wpAny _ _ (field (.ref j) 1 >>= _) _ _ s
  refine wpAny_bind (wpAny_field eo ed (x:=.int n 0) rfl (wpAny_bind (wpAny_seqItems et ek ?_)))
  simp only [hx,Int.toNat_natCast]
  refine wpAny_bind (wpAny_rule (wpAny_bind (wpAny_setField eo ed (by simp) ?_)))
  show wpAny _ _ (newExc (.type "StopIteration") [] >>= fun _=>_) _ _ _
  refine wpAny_bind ?_
  simp only [newTuple,newExc]
  refine wpAny_bind (wpAny_newObj_type (wpAny_bind (m:=firstArgMember _ _) (wpAny_of_eq (a:=Value.none) (by first | rfl | (simp only [firstArgMember];rfl)) (wpAny_newObj_type ?_ (by size_fits)))) (by size_fits))
  simp only [raiseNew]
  refine wpAny_bind (wpAny_handled (by
    first | rw [show A.in1.handled=none from ha] | rw [ha]
    exact wpAny_bind (wpAny_pure (wpAny_throw (hE _ _ (((Heap.SameBut.update ..).extBut.push _).push _) ⟨_,Heap.get?_push_size _ rfl,rfl⟩)))))
structure lO (z p q j k a b:Addr):Prop where
 pz:p ≠ z
 qz:q ≠ z
 jz:j ≠ z
 kz:k ≠ z
 pq:p ≠ q
 pj:p ≠ j
 pk:p ≠ k
 qj:q ≠ j
 qk:q ≠ k
 jk:j ≠ k
 az:a ≠ z
 aq:a ≠ q
 aj:a ≠ j
 ak:a ≠ k
 bz:b ≠ z
 bq:b ≠ q
 bj:b ≠ j
 bk:b ≠ k
theorem d7 {h g:Heap} {a:Addr} {xs:Array Value} (x:h.IsTuple a xs) (k:∀ o,h.get? a=some o->g.get? a=some o):g.IsTuple a xs:=by
 obtain⟨o,e,r⟩:=x
 exact⟨o,k o e,r⟩
theorem qi {z p q j k a b:Addr} {m n:Nat} {xs ys:Array Value} {x y u v:Value} {Q:Value->Shared->Prop} (D:lO z p q j k a b)
  (gz:IsZip s.heap z p q .none) (gp:IsPair s.heap p (.ref j) (.ref k)) (gq:IsPair s.heap q u v)
  (gj:s.heap.IsTupleIter j a m) (gk:s.heap.IsTupleIter k b n) (ga:s.heap.IsTuple a xs) (gb:s.heap.IsTuple b ys) (hx:xs[m]? = some x) (hy:ys[n]? = some y)
  (hQ:∀ g,IsZip g z p q (rawInt s.heap.objs.size)->IsPair g q x y->g.IsTupleIter j a (m+1)->g.IsTupleIter k b (n+1)->IsPair g s.heap.objs.size x y->g.objs.size=s.heap.objs.size+1 ->
   (∀ c o,c ≠ z->c ≠ q->c ≠ j->c ≠ k->s.heap.get? c=some o->g.get? c=some o)->Q (.ref s.heap.objs.size) { s with heap:=g }) :
  wpAny (model prog w) A (Builtin.«zip.__next__» ⟨[.ref z],[]⟩) (fun fin s'=>∃ v,fin=.done (.ret v)/\Q v s') E s:=by
 show wpAny _ _ (field (.ref z) 2 >>= fun _=>_) _ _ _
 refine wpAny_bind (wpAny_field gz rfl (x:=.bool false) rfl ?_)
 show wpAny _ _ (field (.ref z) 3 >>= fun _=>_) _ _ _
 refine wpAny_bind (wpAny_field gz rfl (x:=.ref p) rfl (wpAny_bind (wpAny_seqItems gp rfl ?_)))
 show wpAny _ _ (Builtin.SmallTypes.ownedTupleIsFree (.ref z) >>= fun _=>_) _ _ _
 refine wpAny_bind ?_
 unfold Builtin.SmallTypes.ownedTupleIsFree
 refine wpAny_bind (wpAny_field gz rfl (x:=.none) rfl (wpAny_pure ?_))
 simp only [if_true]
 refine wpAny_bind (wpAny_rule (wpAny_bind (wpAny_field gz rfl (x:=.ref q) rfl (wpAny_bind (wpAny_setField_rec gz (by simp) fun g1 gz1 t1=>?_)))))
 replace gz1:IsZip g1 z p q .ellipsis:=gz1
 refine wpAny_bind ?_
 simp only [List.forIn_cons,List.forIn_nil,List.zipIdx_cons,List.zipIdx_nil]
 refine wpAny_bind (wpAny_bind (wpAny_onRaise ?_))
 show wpAny _ _ (Builtin.SmallTypes.nextOf (.ref j) >>= fun _=>_) _ _ _
 refine wpAny_bind (kb (gj.extBut t1.extBut D.jz) (d7 ga fun o e=>t1.extBut _ _ D.az e) hx fun g2 gj2 t2=>wpAny_pure ?_)
 have gq2:IsPair g2 q u v:=t2.extBut _ _ D.qj (t1.extBut _ _ D.qz gq)
 refine wpAny_bind (wpAny_seqItems gq2 rfl (wpAny_bind (wpAny_updateSeq_pair gq2 fun g3 gq3 t3=>?_)))
 replace gq3:IsPair g3 q x v:=gq3
 refine wpAny_bind (wpAny_letGo (wpAny_pure (wpAny_bind (wpAny_bind (wpAny_onRaise ?_)))))
 show wpAny _ _ (Builtin.SmallTypes.nextOf (.ref k) >>= fun _=>_) _ _ _
 refine wpAny_bind (kb (((gk.extBut t1.extBut D.kz).extBut t2.extBut D.jk.symm).extBut t3.extBut D.qk.symm) (d7 gb fun o e=>t3.extBut _ _ D.bq (t2.extBut _ _ D.bj (t1.extBut _ _ D.bz e))) hy fun g4 gk4 t4=>wpAny_pure ?_)
 have gq4:IsPair g4 q x v:=t4.extBut _ _ D.qk gq3
 refine wpAny_bind (wpAny_seqItems gq4 rfl (wpAny_bind (wpAny_updateSeq_pair gq4 fun g5 gq5 t5=>?_)))
 replace gq5:IsPair g5 q x y:=gq5
 refine wpAny_bind (wpAny_letGo (wpAny_pure (wpAny_pure (wpAny_bind (wpAny_seqItems gq5 rfl (wpAny_bind (wpAny_newTuple ?_)))))))
 have ez:g5.objs.size=s.heap.objs.size:=by rw [t5.1,t4.1,t3.1,t2.1,t1.1]
 have gz5:IsZip g5 z p q .ellipsis:=t5.extBut _ _ D.qz.symm (t4.extBut _ _ D.kz.symm (t3.extBut _ _ D.qz.symm (t2.extBut _ _ D.jz.symm gz1)))
 have k5:∀ c o,c ≠ z->c ≠ q->c ≠ j->c ≠ k->s.heap.get? c=some o->g5.get? c=some o:=fun c o c1 c2 c3 c4 e=>t5.extBut _ _ c2 (t4.extBut _ _ c4 (t3.extBut _ _ c2 (t2.extBut _ _ c3 (t1.extBut _ _ c1 e))))
 have gj5:g5.IsTupleIter j a (m+1):=((gj2.extBut t3.extBut D.qj.symm).extBut t4.extBut D.jk).extBut t5.extBut D.qj.symm
 have gk5:g5.IsTupleIter k b (n+1):=gk4.extBut t5.extBut D.qk.symm
 have lz:z < g5.objs.size:=Heap.lt_size gz5
 show wpAny _ _ (Builtin.SmallTypes.ownedTupleHandOut (.ref z) (.ref g5.objs.size) >>= fun _=>_) _ _ _
 refine wpAny_bind ?_
 unfold Builtin.SmallTypes.ownedTupleHandOut
 have gz6:IsZip (g5.push { cls:=.type "tuple",data:=.seq #[x,y] }) z p q .ellipsis:=Heap.get?_push_of_some _ gz5
 refine wpAny_bind (wpAny_setField_rec gz6 (by simp) fun g7 gz7 t7=>?_)
 replace gz7:IsZip g7 z p q (rawInt g5.objs.size):=gz7
 refine wpAny_setField_rec gz7 (by simp) fun g8 gz8 t8=>?_
 replace gz8:IsZip g8 z p q (rawInt g5.objs.size):=gz8
 have up:∀ c o,c ≠ z->g5.get? c=some o->g8.get? c=some o:=fun c o c1 e=>t8.extBut _ _ c1 (t7.extBut _ _ c1 (Heap.get?_push_of_some _ e))
 have gT:IsPair g8 g5.objs.size x y:=t8.extBut _ _ (Nat.ne_of_gt lz) (t7.extBut _ _ (Nat.ne_of_gt lz) (Heap.get?_push_size _ rfl))
 have e8:g8.objs.size=g5.objs.size+1:=by rw [t8.1,t7.1,Heap.size_push]
 rw [ez] at gz8 gT e8
 refine wpAny_pure ⟨_,rfl,?_⟩
 show Q (.ref g5.objs.size) _
 rw [ez]
 refine hQ g8 gz8 (up _ _ D.qz gq5) ?_ ?_ gT e8 fun c o c1 c2 c3 c4 e=>up c o c1 (k5 c o c1 c2 c3 c4 e)
 ·obtain⟨o,e,r⟩:=gj5
  exact⟨o,up _ _ D.jz e,r⟩
 ·obtain⟨o,e,r⟩:=gk5
  exact⟨o,up _ _ D.kz e,r⟩
theorem rK {z p q j k a b:Addr} {m n:Nat} {xs ys:Array Value} {u v:Value} {Q:Fin->Shared->Prop} (ha:A.handled=none) (D:lO z p q j k a b)
  (gz:IsZip s.heap z p q .none) (gp:IsPair s.heap p (.ref j) (.ref k)) (gq:IsPair s.heap q u v)
  (gj:s.heap.IsTupleIter j a m) (gk:s.heap.IsTupleIter k b n) (ga:s.heap.IsTuple a xs) (gb:s.heap.IsTuple b ys) (hend:xs[m]? = none\/ys[n]? = none)
  (hE:∀ g e,(∀ c o,c ≠ z->c ≠ q->c ≠ j->c ≠ k->s.heap.get? c=some o->g.get? c=some o)->(∃ o,g.get? e=some o/\o.cls=.type "StopIteration")->E (.ref e) { s with heap:=g }) :
  wpAny (model prog w) A (Builtin.«zip.__next__» ⟨[.ref z],[]⟩) Q E s:=by
 show wpAny _ _ (field (.ref z) 2 >>= fun _=>_) _ _ _
 refine wpAny_bind (wpAny_field gz rfl (x:=.bool false) rfl ?_)
 show wpAny _ _ (field (.ref z) 3 >>= fun _=>_) _ _ _
 refine wpAny_bind (wpAny_field gz rfl (x:=.ref p) rfl (wpAny_bind (wpAny_seqItems gp rfl ?_)))
 show wpAny _ _ (Builtin.SmallTypes.ownedTupleIsFree (.ref z) >>= fun _=>_) _ _ _
 refine wpAny_bind ?_
 unfold Builtin.SmallTypes.ownedTupleIsFree
 refine wpAny_bind (wpAny_field gz rfl (x:=.none) rfl (wpAny_pure ?_))
 simp only [if_true]
 refine wpAny_bind (wpAny_rule (wpAny_bind (wpAny_field gz rfl (x:=.ref q) rfl (wpAny_bind (wpAny_setField_rec gz (by simp) fun g1 gz1 t1=>?_)))))
 replace gz1:IsZip g1 z p q .ellipsis:=gz1
 refine wpAny_bind ?_
 simp only [List.forIn_cons,List.forIn_nil,List.zipIdx_cons,List.zipIdx_nil]
 refine wpAny_bind (wpAny_bind (wpAny_onRaise ?_))
 show wpAny _ _ (Builtin.SmallTypes.nextOf (.ref j) >>= fun _=>_) _ _ _
 cases hx:xs[m]? with
 | none =>
  refine wpAny_bind (lN ha (gj.extBut t1.extBut D.jz) (d7 ga fun o e=>t1.extBut _ _ D.az e) hx fun g2 e t2 he=>?_)
  obtain⟨oe,eoe,ce⟩:=he
  have gz2:IsZip g2 z p q .ellipsis:=t2 _ _ D.jz.symm gz1
  have ne:e ≠ z:=fun x=>by subst x;rw [gz2] at eoe;cases eoe;simp at ce
  exact wpAny_setField_rec gz2 (by simp) fun g3 _ t3=>hE g3 e (fun c o c1 _ c3 _ x=>t3.extBut _ _ c1 (t2 _ _ c3 (t1.extBut _ _ c1 x))) ⟨oe,t3.extBut _ _ ne eoe,ce⟩
 | some x =>
  have hy:ys[n]? = none:=hend.elim (fun h=>by rw [hx] at h;cases h) id
  refine wpAny_bind (kb (gj.extBut t1.extBut D.jz) (d7 ga fun o e=>t1.extBut _ _ D.az e) hx fun g2 gj2 t2=>wpAny_pure ?_)
  have gq2:IsPair g2 q u v:=t2.extBut _ _ D.qj (t1.extBut _ _ D.qz gq)
  refine wpAny_bind (wpAny_seqItems gq2 rfl (wpAny_bind (wpAny_updateSeq_pair gq2 fun g3 gq3 t3=>?_)))
  refine wpAny_bind (wpAny_letGo (wpAny_pure (wpAny_bind (wpAny_bind (wpAny_onRaise ?_)))))
  show wpAny _ _ (Builtin.SmallTypes.nextOf (.ref k) >>= fun _=>_) _ _ _
  refine wpAny_bind (lN ha (((gk.extBut t1.extBut D.kz).extBut t2.extBut D.jk.symm).extBut t3.extBut D.qk.symm) (d7 gb fun o e=>t3.extBut _ _ D.bq (t2.extBut _ _ D.bj (t1.extBut _ _ D.bz e))) hy fun g4 e t4 he=>?_)
  obtain⟨oe,eoe,ce⟩:=he
  have gz4:IsZip g4 z p q .ellipsis:=t4 _ _ D.kz.symm (t3.extBut _ _ D.qz.symm (t2.extBut _ _ D.jz.symm gz1))
  have ne:e ≠ z:=fun x=>by subst x;rw [gz4] at eoe;cases eoe;simp at ce
  exact wpAny_setField_rec gz4 (by simp) fun g5 _ t5=>hE g5 e (fun c o c1 c2 c3 c4 x=>t5.extBut _ _ c1 (t4 _ _ c4 (t3.extBut _ _ c2 (t2.extBut _ _ c3 (t1.extBut _ _ c1 x))))) ⟨oe,t5.extBut _ _ ne eoe,ce⟩
theorem ql {z p q j k a b:Addr} {m n:Nat} {xs ys:Array Value} {x y u v:Value} {Q:Option Value->Shared->Prop} (D:lO z p q j k a b)
  (gz:IsZip s.heap z p q .none) (gp:IsPair s.heap p (.ref j) (.ref k)) (gq:IsPair s.heap q u v)
  (gj:s.heap.IsTupleIter j a m) (gk:s.heap.IsTupleIter k b n) (ga:s.heap.IsTuple a xs) (gb:s.heap.IsTuple b ys) (hx:xs[m]? = some x) (hy:ys[n]? = some y)
  (hQ:∀ g,IsZip g z p q (rawInt s.heap.objs.size)->IsPair g q x y->g.IsTupleIter j a (m+1)->g.IsTupleIter k b (n+1)->IsPair g s.heap.objs.size x y->g.objs.size=s.heap.objs.size+1 ->
   (∀ c o,c ≠ z->c ≠ q->c ≠ j->c ≠ k->s.heap.get? c=some o->g.get? c=some o)->Q (some (.ref s.heap.objs.size)) { s with heap:=g }) :
  wpAny (model prog w) A (pyNext (.ref z)) Q E s:=by
 have ty:s.TypeIs (.ref z) "zip" := ⟨_,gz,rfl⟩
 unfold pyNext
 exact wpAny_bind (wpAny_attempt (wpAny_callSpecial?_slot (name:=Str.ofString "__next__") ty F.slot_zip_next (wpAny_call_entry F.slot_zip_next ty F.entry_zip_next
   (qi D gz gp gq gj gk ga gb hx hy fun g a1 a2 a3 a4 a5 a6 a7=>wpAny_pure (hQ g a1 a2 a3 a4 a5 a6 a7)) (F.args_zip_next_1 _))))
theorem qm {z p q j k a b:Addr} {m n:Nat} {xs ys:Array Value} {u v:Value} {Q:Option Value->Shared->Prop} (ha:A.handled=none) (D:lO z p q j k a b)
  (gz:IsZip s.heap z p q .none) (gp:IsPair s.heap p (.ref j) (.ref k)) (gq:IsPair s.heap q u v)
  (gj:s.heap.IsTupleIter j a m) (gk:s.heap.IsTupleIter k b n) (ga:s.heap.IsTuple a xs) (gb:s.heap.IsTuple b ys) (hend:xs[m]? = none\/ys[n]? = none)
  (hQ:∀ g,(∀ c o,c ≠ z->c ≠ q->c ≠ j->c ≠ k->s.heap.get? c=some o->g.get? c=some o)->Q none { s with heap:=g }):wpAny (model prog w) A (pyNext (.ref z)) Q E s:=by
 have ty:s.TypeIs (.ref z) "zip" := ⟨_,gz,rfl⟩
 unfold pyNext
 refine wpAny_bind (wpAny_attempt (wpAny_callSpecial?_slot (name:=Str.ofString "__next__") ty F.slot_zip_next (wpAny_call_entry F.slot_zip_next ty F.entry_zip_next
   (rK ha D gz gp gq gj gk ga gb hend fun g e hk he=>?_) (F.args_zip_next_1 _))))
 obtain⟨o,eo,ec⟩:=he
 exact wpAny_bind (wpAny_isInstance (T := "StopIteration") (b:=true) ⟨o,eo,ec⟩ isSubtype_stop (wpAny_pure (hQ _ hk)))
abbrev nL (h:Heap) (a:Addr):Heap:=h.push { cls:=.type "tuple_iterator",data:=.fields #[.ref a,.int 0 0] }
abbrev pP (h:Heap) (a b:Addr):Heap:=(nL h a).push { cls:=.type "tuple_iterator",data:=.fields #[.ref b,.int 0 0] }
abbrev pQ (h:Heap) (a b:Addr):Heap:=(pP h a b).push { cls:=.type "tuple",data:=.seq #[.ref h.objs.size,.ref (nL h a).objs.size] }
abbrev pR (h:Heap) (a b:Addr):Heap:=(pQ h a b).push { cls:=.type "tuple",data:=.seq #[.none,.none] }
abbrev lP (h:Heap) (a b:Addr):Heap:=(pR h a b).push { cls:=.type "zip",data:=.fields #[.none,.bool false,.bool false,.ref (pP h a b).objs.size,.ref (pQ h a b).objs.size] }
theorem rL (a b:Addr) (xs ys:Array Value):Meets (Builtin.«zip.__new__» ⟨[.type "zip",.ref a,.ref b],[]⟩) (fun _ R s=>s.heap.IsTuple a xs/\s.heap.IsTuple b ys /\
   R (.ok (.ret (.ref (pR s.heap a b).objs.size))) { s with heap:=lP s.heap a b }) :=
 .of_wp fun P w' A' R' s' hh=>by
  obtain⟨hp,g,d,tk,os⟩:=s'
  obtain⟨ga,gb,hh⟩:=hh
  have hsub:=sub_zip
  have la:Heap.IsTuple (Shared.heap ⟨hp,g,d,tk,os⟩) a xs:=ga
  have lb:Heap.IsTuple (Shared.heap ⟨nL hp a,g,d,tk,os⟩) b ys:=d7 gb fun o e=>Heap.get?_push_of_some _ e
  wp_walk using wpAny_pyIter_tuple la,wpAny_pyIter_tuple lb
  exact⟨_,rfl,hh⟩
theorem qo {a b:Addr} {xs ys:Array Value} {Q:Value->Shared->Prop} (ga:s.heap.IsTuple a xs) (gb:s.heap.IsTuple b ys)
  (h:∀ g,IsZip g (s.heap.objs.size+4) (s.heap.objs.size+2) (s.heap.objs.size+3) .none->IsPair g (s.heap.objs.size+2) (.ref s.heap.objs.size) (.ref (s.heap.objs.size+1)) ->
   IsPair g (s.heap.objs.size+3) .none .none->g.IsTupleIter s.heap.objs.size a 0->g.IsTupleIter (s.heap.objs.size+1) b 0 ->
   (∀ c o,s.heap.get? c=some o->g.get? c=some o)->Q (.ref (s.heap.objs.size+4)) { s with heap:=g }) :
  wpAny (model prog w) A (call (.type "zip") [.ref a,.ref b]) Q E s:=by
 refine callType_new F.called_zip (by decide) (F.typeCall_zip_2 _ _) (F.newCall_zip_2 _ _) (fun obj=>F.args_object_init_3 obj _ _) F.entry_zip_new (rL a b xs ys) ⟨ga,gb,?_⟩
 have z1:(nL s.heap a).objs.size=s.heap.objs.size+1:=Heap.size_push ..
 have z2:(pP s.heap a b).objs.size=s.heap.objs.size+2:=by rw [Heap.size_push,z1]
 have z3:(pQ s.heap a b).objs.size=s.heap.objs.size+3:=by rw [Heap.size_push,z2]
 have z4:(pR s.heap a b).objs.size=s.heap.objs.size+4:=by rw [Heap.size_push,z3]
 have up:∀ {h:Heap} {c:Addr} {o o':Obj},h.get? c=some o->(h.push o').get? c=some o:=fun e=>Heap.get?_push_of_some _ e
 have q5:(lP s.heap a b).get? (pR s.heap a b).objs.size=some _:=Heap.get?_push_size _ rfl
 have q4:(lP s.heap a b).get? (pQ s.heap a b).objs.size=some _:=up (Heap.get?_push_size _ rfl)
 have q3:(lP s.heap a b).get? (pP s.heap a b).objs.size=some _:=up (up (Heap.get?_push_size _ rfl))
 have q2:(lP s.heap a b).get? (nL s.heap a).objs.size=some _:=up (up (up (Heap.get?_push_size _ rfl)))
 have q1:(lP s.heap a b).get? s.heap.objs.size=some _:=up (up (up (up (Heap.get?_push_size _ rfl))))
 show _/\_
 rw [z2,z3,z4] at q5
 rw [z1,z2] at q3
 rw [z3] at q4
 rw [z1] at q2
 rw [z4]
 exact⟨⟨_,q5,rfl⟩,h _ q5 q3 q4 ⟨_,q1,rfl,rfl⟩ ⟨_,q2,rfl,rfl⟩ fun c o x=>up (up (up (up (up x))))⟩
end
section
variable {X:Cx} {pins:List (Addr × Obj)} {σ : List (Option V)} {H H':Hp} {s:Shared} {h':Heap}
theorem Inv.lQ {t':Nat} {fp:List Addr} (I:Inv X pins σ H s) (k:∀ b o,b ∉ fp->s.heap.get? b=some o->h'.get? b=some o) (f:∀ b ∈ fp,eh X pins H b):Inv X pins σ H { s with heap:=h',toks:=t' }:=by
 have nit:∀ b u,H b=some u->b ∉ fp:=fun b u e z=>by rw [(f b z).1] at e;cases e
 refine I.step (g':=s.gens) (d':=s.drawn) (ch:=fp) (fun b hb=>?_) (fun b o _ _ hc e _=>k b o hc e) (fun b o _ _ hc e _=>⟨o.slots,k b o hc e⟩) (fun _ _ _ _ n=>n)
  (fun b o hc e=>⟨o,k b o hc e⟩) (fun _ _ e=>e) (fun _ _ _ e=>e) (fun b ps e=>⟨#[],by rw [e];simp⟩) (fun m hm=>?_) (fun b u e=>?_) I.bare
 ·obtain⟨f0,f1,f2,f3,f4,f5⟩:=f b hb
  exact⟨f3,f1,f4,f5⟩
 ·obtain⟨o,es,ep,ho,r⟩:=hm
  exact⟨o,es,ep,k _ o (fun z=>(f _ z).2.1 rfl) ho,r⟩
 ·refine (I.aK b u e).iW (fun c v hc q=>k c v ?_ q) (fun _ q=>q) fun _ _ q=>q
  rcases hc with z | z
  ·rw [z];exact nit b u e
  ·exact nit c _ z
def pS (K:PySem.W.Frag) (a b:Addr):It :=
 ⟨fun i H=>∃ xs ys x y,aG K H a xs/\aG K H b ys/\xs[i]? = some x/\ys[i]? = some y,
  fun i H v H'=>∃ t x y,v=.ref t/\H t=none/\H' = upd H t (.tup [x,y])/\∀ xs ys,aG K H a xs->aG K H b ys->xs[i]? = some x/\ys[i]? = some y,
  fun i H=>∃ xs ys,aG K H a xs/\aG K H b ys/\(xs.length<=i\/ys.length<=i)⟩
theorem oP {P:Program} {w:World} {K:PySem.W.Frag} {elts:List Expr} {kk:Nat} {pos:Pos} (a b z p q j k:Addr) (D:lO z p q j k a b) :
    Turn P w K (.Tuple elts kk pos) (pS K a b) [z,p,q,j,k] z (fun i h=>IsZip h z p q .none/\IsPair h p (.ref j) (.ref k)/\(∃ u v,IsPair h q u v)/\h.IsTupleIter j a i/\h.IsTupleIter k b i) where
  mem:=by simp
  obj:=fun i h st c hc=>by
    obtain⟨gz,gp,⟨u,v,gq⟩,⟨oj,ej,cj,dj⟩,⟨ok,ek,ck,dk⟩⟩:=st
    simp only [List.mem_cons,List.not_mem_nil,or_false] at hc
    rcases hc with rfl | rfl | rfl | rfl | rfl
    · exact⟨_,gz,fun v e=>by cases e⟩
    · exact⟨_,gp,fun v e=>by cases e⟩
    · exact⟨_,gq,fun v e=>by cases e⟩
    · exact⟨oj,ej,fun v e=>by rw [dj] at e;cases e⟩
    · exact⟨ok,ek,fun v e=>by rw [dk] at e;cases e⟩
  keep:=fun i h g st kp=>by
    obtain⟨gz,gp,⟨u,v,gq⟩,⟨oj,ej,rj⟩,⟨ok,ek,rk⟩⟩:=st
    exact⟨kp z (by simp) _ gz,kp p (by simp) _ gp,⟨u,v,kp q (by simp) _ gq⟩,⟨oj,kp j (by simp) _ ej,rj⟩,⟨ok,kp k (by simp) _ ek,rk⟩⟩
  item:=by
    intro X hP hw hK hc i pins s σ H E I hf st hg
    subst hP hw hK
    obtain⟨gz,gp,⟨u,v,gq⟩,gj,gk⟩:=st
    obtain⟨xs,ys,x,y,ha,hb,hx,hy⟩:=hg
    obtain⟨is,ra,pa,_⟩:=I.tuple ha
    obtain⟨js,rb,pb,_⟩:=I.tuple hb
    obtain⟨xv,hxv,rx⟩:=ra.get hx
    obtain⟨yv,hyv,ry⟩:=rb.get hy
    have sz:∀ c ∈ [z,p,q,j,k],c ≠ s.heap.objs.size:=fun c hc e=>by
      subst e
      simp only [List.mem_cons,List.not_mem_nil,or_false] at hc
      rcases hc with e | e | e | e | e
      · exact absurd (Heap.lt_size gz) (by rw [<-e];exact Nat.lt_irrefl _)
      · exact absurd (Heap.lt_size gp) (by rw [<-e];exact Nat.lt_irrefl _)
      · exact absurd (Heap.lt_size gq) (by rw [<-e];exact Nat.lt_irrefl _)
      · obtain⟨oj,ej,_⟩:=gj
        exact absurd (Heap.lt_size ej) (by rw [<-e];exact Nat.lt_irrefl _)
      · obtain⟨ok,ek,_⟩:=gk
        exact absurd (Heap.lt_size ek) (by rw [<-e];exact Nat.lt_irrefl _)
    refine ql D gz gp gq gj gk (show s.heap.IsTuple a is.toArray from pa) (show s.heap.IsTuple b js.toArray from pb) (x:=xv) (y:=yv) (by simpa using hxv) (by simpa using hyv) fun g a1 a2 a3 a4 a5 a6 hk=>?_
    refine⟨.ref s.heap.objs.size,rfl,wpAny_letOwnedTupleGo_zip a1 fun g' gz' sb=>?_⟩
    have fr:=I.aK.fresh (a:=s.heap.objs.size) (Nat.le_refl _)
    have I1:Inv X pins σ (upd H s.heap.objs.size (.tup [x,y])) { s with heap:=s.heap.push { cls:=.type "tuple",data:=.seq #[xv,yv] },toks:=s.toks } :=
      I.laid (fun _ _ e=>Heap.get?_push_of_some _ e) (Nat.le_refl _) ⟨by show 2<=sizeLine;decide,[xv,yv],.cons rx (.cons ry .nil),by first | exact IsTup.new _ _ | exact⟨_,Heap.get?_push_size _ rfl,rfl,_,rfl,rfl⟩⟩
    have f1:∀ c ∈ [z,p,q,j,k],eh X pins (upd H s.heap.objs.size (.tup [x,y])) c:=fun c hc=>by
      obtain⟨f0,fr'⟩:=hf c hc
      exact⟨by rw [aF (sz c hc)];exact f0,fr'⟩
    have I2:Inv X pins σ (upd H s.heap.objs.size (.tup [x,y])) { s with heap:=g',toks:=s.toks }:=Inv.lQ (s:={ s with heap:=s.heap.push { cls:=.type "tuple",data:=.seq #[xv,yv] },toks:=s.toks }) (fp:=[z,p,q,j,k]) (h':=g') (t':=s.toks) I1 (fun c o hc e=>by
      simp only [List.mem_cons,List.not_mem_nil,or_false,not_or] at hc
      refine sb.extBut _ _ hc.1 ?_
      rcases Heap.get?_push_cases e with ⟨rfl,rfl⟩ | e
      · exact a5
      · exact hk c o hc.1 hc.2.2.1 hc.2.2.2.1 hc.2.2.2.2 e) f1
    refine⟨.ref s.heap.objs.size,_,I2,rfl,⟨_,x,y,rfl,fr,rfl,fun xs' ys' h1 h2=>?_⟩,⟨gz',sb.extBut _ _ D.pz (hk _ _ D.pz D.pq D.pj D.pk gp),⟨xv,yv,sb.extBut _ _ D.qz a2⟩,a3.extBut sb.extBut D.jz,a4.extBut sb.extBut D.kz⟩,fun c hc=>(f1 c hc).1⟩
    rw [I.gf h1 ha,I.gf h2 hb]
    exact⟨hx,hy⟩
  done:=by
    intro X hP hw hK hc i pins s σ H E I hf st hg
    subst hP hw hK
    obtain⟨gz,gp,⟨u,v,gq⟩,gj,gk⟩:=st
    obtain⟨xs,ys,ha,hb,hl⟩:=hg
    obtain⟨is,ra,pa,_⟩:=I.tuple ha
    obtain⟨js,rb,pb,_⟩:=I.tuple hb
    have la:=ra.length
    have lb:=rb.length
    have he:is.toArray[i]? = none\/js.toArray[i]? = none:=by
      rcases hl with h | h
      · exact .inl (by simp;omega)
      · exact .inr (by simp;omega)
    exact qm (I.ok.hd hc) D gz gp gq gj gk (show s.heap.IsTuple a is.toArray from pa) (show s.heap.IsTuple b js.toArray from pb) he fun g hk=>⟨rfl,I.lQ (fp:=[z,p,q,j,k]) (t':=s.toks) (fun c o hc e=>by
      simp only [List.mem_cons,List.not_mem_nil,or_false,not_or] at hc
      exact hk c o hc.1 hc.2.2.1 hc.2.2.2.1 hc.2.2.2.2 e) hf⟩
  self:=fun _ _ _ _ _ st h=>wpAny_pyIter_zip st.1 h
theorem uo {N a b:Nat} (ha:a < N) (hb:b < N):lO (N+4:Nat) (N+2:Nat) (N+3:Nat) N (N+1:Nat) a b :=
 have ne:∀ {u v:Nat},u < v->¬ (u=v):=fun h e=>by omega
 have ne':∀ {u v:Nat},v < u->¬ (u=v):=fun h e=>by omega
 ⟨ne (by omega),ne (by omega),ne (by omega),ne (by omega),ne (by omega),ne' (by omega),ne' (by omega),ne' (by omega),ne' (by omega),ne (by omega),ne (by omega),ne (by omega),ne (by omega),ne (by omega),ne (by omega),ne (by omega),ne (by omega),ne (by omega)⟩
theorem rM:bootBuiltins "zip" = some (.type "zip"):=by decide +kernel
inductive qp (K:PySem.W.Frag) (R:(It->Hp->Prop)) (vs:List V) (H1:Hp):Prop
 | mk (a b:_) (_:vs = [.ref a,.ref b]) (_:(∃ xs,aG K H1 a xs)) (_:(∃ ys,aG K H1 b ys)) (_:R (pS K a b) H1)
def t6 (K:PySem.W.Frag) (ta:TA):TI:=fun σ H R=>ta σ H fun vs H1=>qp K R vs H1
theorem rN {a b:Expr} {ta:TA} {p pos tp:Pos} {elts:List Expr} {kk:Nat} (hg:Gl X "zip") (hm:X.mg "zip" = none) (ha:PA X [a,b] ta) (hs:starEach [a,b] X.env = [(false,eval a X.env),(false,eval b X.env)]:=by rfl) (hs2:starEach [b] X.env = [(false,eval b X.env)]:=by rfl) :
  PI X (.Tuple elts kk tp) (.Call (.Name "zip" p) [a,b] [] pos) (t6 X.K ta):=by
 intro pins s σ H R I h
 refine Call_ (fZ I hg hm rM (PyProof.Rows.callWith_type1 (aM (ha pos pins s σ H _ I h) fun us s1 ⟨vs,H1,I1,r1,q1⟩=>?_) (by rw [hs,hs2]) (by rw [hs2];rfl)))
 obtain⟨x,y,e,⟨xs,hx⟩,⟨ys,hy⟩,q⟩:=q1
 subst e
 cases r1 with
 | cons r rr =>
  cases rr with
  | cons r' rr =>
   cases rr
   cases r
   cases r'
   obtain⟨is,rx,px,_⟩:=I1.tuple hx
   obtain⟨js,ry,py,_⟩:=I1.tuple hy
   have lx:x < s1.heap.objs.size:=px.lt
   have ly:y < s1.heap.objs.size:=py.lt
   refine qo (show s1.heap.IsTuple x is.toArray from px) (show s1.heap.IsTuple y js.toArray from py) fun g gz gp gq gj gk up=>?_
   refine wpAny_pyIter_zip gz ?_
   have I2:Inv X pins σ H1 { s1 with heap:=g }:=I1.kept (t':=s1.toks) up
   refine⟨_,[s1.heap.objs.size+4,s1.heap.objs.size+2,s1.heap.objs.size+3,s1.heap.objs.size,s1.heap.objs.size+1],_,pS X.K x y,H1,rfl,I2,oP x y _ _ _ _ _ ?_,⟨gz,gp,⟨_,_,gq⟩,gj,gk⟩,fun c hc=>?_,q⟩
   ·exact uo lx ly
   ·have le:s1.heap.objs.size<=c:=by
     simp only [List.mem_cons,List.not_mem_nil,or_false] at hc
     rcases hc with rfl | rfl | rfl | rfl | rfl
     ·exact Nat.le_add_right _ _
     ·exact Nat.le_add_right _ _
     ·exact Nat.le_add_right _ _
     ·exact Nat.le_refl _
     ·exact Nat.le_add_right _ _
    exact I1.il le (I1.aK.fresh le)
theorem rO {K:PySem.W.Frag} {a b acc:Addr} {xs ys:List V} {n:Nat} {js:List Nat} {g:TG} {ct:TT} {te:TE} {σ : St} {H1:Hp} {Q:VK} (Pv:Nat->List V->St->Hp->Prop) (h0:Pv 0 [] (ia n js σ) (upd H1 acc (.lst [])))
  (hl:∀ i zs τ H,i<=min xs.length ys.length->Pv i zs τ H->aG K H a xs/\aG K H b ys/\H acc=some (.lst zs)/\zs.length < sizeLine)
  (hs:∀ i x y zs τ H t,xs[i]? = some x->ys[i]? = some y->H t=none->Pv i zs τ H->g (.ref t) τ (upd H t (.tup [x,y])) fun τ1 H4=>ct τ1 H4 fun b H5=>if b=true then te τ1 H5 fun v H6=>H6 acc=some (.lst zs)/\Pv (i+1) (zs ++ [v]) τ1 (upd H6 acc (.lst (zs ++ [v]))) else Pv (i+1) zs τ1 H5)
  (hd:∀ zs τ H,Pv (min xs.length ys.length) zs τ H->Q (.ref acc) H) :
  lL (pS K a b) n js g ct te acc σ H1 Q:=by
 refine⟨fun i m zs τ H=>m=min xs.length ys.length - i/\i<=min xs.length ys.length/\Pv i zs τ H,⟨min xs.length ys.length,by simp,Nat.zero_le _,h0⟩,?_⟩
 rintro i m zs τ H ⟨rfl,hi,p⟩
 obtain⟨qa,qb,q2,q3⟩:=hl i zs τ H hi p
 refine⟨q2,q3,?_⟩
 by_cases hlt:i < min xs.length ys.length
 ·have l1:i < xs.length:=by omega
  have l2:i < ys.length:=by omega
  refine .inr ⟨⟨xs,ys,xs[i],ys[i],qa,qb,by simp [l1],by simp [l2]⟩,Pv (i+1),fun zs' τ' H' p'=>⟨min xs.length ys.length - (i+1),by omega,rfl,hlt,p'⟩,fun v H' y=>?_⟩
  obtain⟨t,x,y,rfl,ht,rfl,h⟩:=y
  obtain⟨h1,h2⟩:=h xs ys qa qb
  exact hs i x y zs τ H t h1 h2 ht p
 ·have e:i=min xs.length ys.length:=by omega
  subst e
  refine .inl ⟨⟨xs,ys,qa,qb,?_⟩,hd zs τ H p⟩
  rcases Nat.le_total xs.length ys.length with h | h
  ·exact .inl (by omega)
  ·exact .inr (by omega)
end
section
variable {κ : Type} [DecidableEq κ]
def dG (kvs:List (κ × V)) (k:κ):Option V:=(kvs.find? fun kv=>decide (kv.1=k)).map (·.2)
def putK (kvs:List (κ × V)) (k:κ) (v:V):List (κ × V) :=
 if (kvs.any fun kv=>decide (kv.1=k))=true then kvs.map (fun kv=>if kv.1=k then (kv.1,v) else kv) else kvs ++ [(k,v)]
def eW (kvs:List (κ × V)) (k:κ):List (κ × V):=kvs.filter fun kv=>decide (kv.1 ≠ k)
theorem kc {p:κ × V} {r:List (κ × V)} {k:κ} (e:p.1=k):dG (p :: r) k=some p.2:=by simp [dG,List.find?_cons,e]
theorem dq {p:κ × V} {r:List (κ × V)} {k:κ} (e:¬ p.1=k):dG (p :: r) k=dG r k:=by simp [dG,List.find?_cons,e]
theorem kQ (kvs:List (κ × V)) (k:κ) (v:V):(putK kvs k v).length<=kvs.length+1:=by
 unfold putK
 split
 ·rw [List.length_map];omega
 ·rw [List.length_append,List.length_cons,List.length_nil];omega
theorem ik.getD {o:Option V} {u:Option Value} {d:V} {d':Value} (r:ik o u) (rd:RelV d d'):RelV (o.getD d) (u.getD d'):=by
 cases o with
 | none=>cases u with
  | none=>exact rd
  | some _=>exact (show False from r).elim
 | some _=>cases u with
  | none=>exact (show False from r).elim
  | some _=>exact r
theorem KV.val {kvs:List (κ × V)} {vs:List (κ × Value)} (r:KV kvs vs) (k:κ):ik (dG kvs k) (valueAt vs k):=by
 unfold KV at r
 induction r with
 | nil=>exact True.intro
 | @cons p q ps qs h t ih =>
  obtain⟨h1,h2⟩:=h
  by_cases e:p.1=k
  ·have e':q.1=k:=h1.symm.trans e
   have b:valueAt (q :: qs) k=some q.2:=by simp [valueAt,List.find?_cons,e']
   rw [kc e,b];exact h2
  ·have e':¬ q.1=k:=fun z=>e (h1.trans z)
   have b:valueAt (q :: qs) k=valueAt qs k:=by simp [valueAt,List.find?_cons,e']
   rw [dq e,b];exact ih
theorem KV.any {kvs:List (κ × V)} {vs:List (κ × Value)} (r:KV kvs vs) (k:κ):(kvs.any fun kv=>decide (kv.1=k))=vs.any fun kv=>decide (kv.1=k):=by
 unfold KV at r
 induction r with
 | nil=>rfl
 | cons h t ih=>rw [List.any_cons,List.any_cons,ih,h.1]
theorem KV.t9 {kvs:List (κ × V)} {vs:List (κ × Value)} (r:KV kvs vs) (k:κ) {y:V} {u:Value} (ry:RelV y u) :
  KV (kvs.map fun kv=>if kv.1=k then (kv.1,y) else kv) (vs.map fun kv=>if kv.1=k then (kv.1,u) else kv):=by
 unfold KV at r ⊢
 induction r with
 | nil=>exact .nil
 | @cons p q ps qs h t ih =>
  rw [List.map_cons,List.map_cons]
  refine .cons ?_ ih
  obtain⟨h1,h2⟩:=h
  by_cases e:p.1=k
  ·rw [if_pos e,if_pos (h1.symm.trans e)];exact⟨h1,ry⟩
  ·rw [if_neg e,if_neg (fun z=>e (h1.trans z))];exact⟨h1,h2⟩
theorem KV.put {kvs:List (κ × V)} {vs:List (κ × Value)} (r:KV kvs vs) (k:κ) {y:V} {u:Value} (ry:RelV y u):KV (putK kvs k y) (stored vs k u):=by
 unfold putK stored
 rw [r.any k]
 by_cases e:(vs.any fun kv=>decide (kv.1=k))=true
 ·rw [if_pos e,if_pos e];exact r.t9 k ry
 ·rw [if_neg e,if_neg e];exact Paired.snoc r ⟨rfl,ry⟩
end
theorem mE {P:Program} {w:World} {k:Key} {u:Value} (r:RelV (kV k) u):(bJ P w).is k u=true:=by
 cases k with
 | inl i=>obtain⟨t,e⟩:=(show ∃ t,u=Value.int i t from r);subst e;exact kM P w i t
 | inr x=>obtain⟨t,e⟩:=(show ∃ t,u=Value.str x t from r);subst e;exact kN P w x t
theorem jr {P:Program} {w:World}:∀ {ks:List Key} {us:List Value},Vals (ks.map kV) us->ItemsAre (bJ P w) ks us
 | [],_,r=>by rw [List.map_nil] at r;cases r;exact .nil
 | k :: ks,_,r=>by
  rw [List.map_cons] at r
  cases r with
  | cons h t=>exact .cons (mE h) (jr t)
abbrev KT (H:Hp):List (List Key × V)->List (List Key × Addr × Value)->Prop:=Paired fun p q=>p.1=q.1/\H q.2.1=some (.tup (p.1.map kV))/\RelV p.2 q.2.2
theorem KT.val {H:Hp} {kvs:List (List Key × V)} {xs:List (List Key × Addr × Value)} (r:KT H kvs xs) (k:List Key):ik (dG kvs k) ((atKey xs k).map (·.2)):=by
 induction r with
 | nil=>exact True.intro
 | @cons p q ps qs h t ih =>
  obtain⟨h1,_,h2⟩:=h
  by_cases e:p.1=k
  ·have e':q.1=k:=h1.symm.trans e
   have b:atKey (q :: qs) k=some q.2:=by simp [atKey,List.find?_cons,e']
   rw [kc e,b];exact h2
  ·have e':¬ q.1=k:=fun z=>e (h1.trans z)
   have b:atKey (q :: qs) k=atKey qs k:=by simp [atKey,List.find?_cons,e']
   rw [dq e,b];exact ih
section
variable {P:Program} {w:World} {H:Hp} {h:Heap} {a:Addr}
theorem pT {u:HO} (ok:b5 P w H h) (e:Rd H a u):bh P w H h a u:=e.ok ok
theorem mF {kvs:List (Key × V)} (ok:b5 P w H h) (e:Rd H a (.dK kvs)):kvs.length<=sizeLine/\(a == sysModules)=false/\∃ vs,KV kvs vs/\h.DictOf (bJ P w) a vs :=
 show bh P w H h a (.dK kvs) from pT ok e
theorem sJ {kvs:List (Key × V)} (ok:b5 P w H h) (e:H a=some (.dK kvs)):kvs.length<=sizeLine/\(a == sysModules)=false/\∃ vs,KV kvs vs/\h.DictOf (bJ P w) a vs:=mF ok (.inl e)
theorem nM {ks:List Key} (ok:b5 P w H h) (e:H a=some (.tup (ks.map kV))):(tupleKind (bJ P w)).is h ks a:=by
 obtain⟨_,its,r,o,h1,h2,n,h3⟩:=(show bh P w H h a (.tup (ks.map kV)) from ok a _ e)
 exact⟨o,its.toArray,n,h1,h2,h3.1,by simpa using jr r⟩
theorem pU {kvs:List (List Key × V)} (ok:b5 P w H h) (e:Rd H a (.dT kvs)):kvs.length<=sizeLine/\(a == sysModules)=false /\
  ∃ xs,KT H kvs xs/\h.DictOfH (tupleKind (bJ P w)) a xs:=by
 obtain⟨z,y,xs,r,o,es,ep,h1,h2,h3,h4,h5⟩:=(show bh P w H h a (.dT kvs) from pT ok e)
 refine⟨z,y,xs,r,o,es,ep,h1,h2,h3,h4,fun x hx=>?_,h5⟩
 have all:∀ {l:List (List Key × V)} {m:List (List Key × Addr × Value)},KT H l m->∀ x ∈ m,(tupleKind (bJ P w)).is h x.1 x.2.1:=by
  intro l m q
  induction q with
  | nil=>intro x hx;exact nomatch hx
  | @cons p q ps qs hq t ih =>
   intro x hx
   rcases List.mem_cons.mp hx with e | hx
   ·subst e
    exact nM ok (by rw [<-hq.1];exact hq.2.1)
   ·exact ih x hx
 exact all r x hx
end
def ke (H:Hp) (a:Addr) (y:V) (r:Option V):Prop :=
 (∃ kvs k,Rd H a (.dK kvs)/\y=kV k/\r=dG kvs k)\/∃ kvs k b,Rd H a (.dT kvs)/\y=.ref b/\H b=some (.tup (k.map kV))/\r=dG kvs k
theorem ke.k {H:Hp} {a:Addr} {kvs:List (Key × V)} {k:Key} (e:H a=some (.dK kvs)):ke H a (kV k) (dG kvs k):=.inl ⟨kvs,k,.inl e,rfl,rfl⟩
section
variable {X:Cx} {pins:List (Addr × Obj)} {σ : St} {H:Hp} {s:Shared} {a:Addr} {y v:V} {u r:Value} {o:Option V} {A:Around} {E:Value->Shared->Prop}
theorem Inv.big (I:Inv X pins σ H s):sysModules < s.heap.objs.size:=by
 have h:mainGlobals < s.heap.objs.size:=(I.mod.glob.keeps I.bk).lt
 exact Nat.lt_trans (by decide) h
theorem qq {h':Heap} {t':Nat} {ob:HO} (I:Inv X pins σ H s) (mu:m6 (H a)) (hs:Heap.SameBut a s.heap h') (he:∃ q,h'.get? a=some q) (new:bh X.prog X.w (upd H a ob) h' a ob) :
  Inv X pins σ (upd H a ob) { s with heap:=h',toks:=t' } :=
 I.write (x:=a) (e:=a) mu (.inl rfl) (fun b q hb z=>(hs.2 b hb).trans z) he new
theorem rP {P:Program} {w:World} {H':Hp} {h':Heap} {kvs:List (Key × V)} {vs:List (Key × Value)} (z:kvs.length<=sizeLine) (hd:(a == sysModules)=false) (rel:KV kvs vs) (dd:h'.DictOf (bJ P w) a vs) :
  bh P w H' h' a (.dK kvs):=⟨z,hd,vs,rel,dd⟩
end
section
variable {X:Cx} {pins:List (Addr × Obj)} {σ : St} {H:Hp} {s:Shared} {a:Addr} {kvs:List (Key × V)} {k:Key} {u:Value} {A:Around} {E:Value->Shared->Prop}
end
section
variable {X:Cx} {o i e value:Expr} {pos pos' tpos:Pos} {td ty tv:TE}
end
theorem oQ {P:Program} {w:World} {H:Hp} (h:Heap) (hb:sysModules < h.objs.size):bh P w H (h.push { cls:=.type "dict",data:=.dict #[] }) h.objs.size (.dK []) :=
 ⟨Nat.zero_le _,beq_eq_false_iff_ne.mpr (Ne.symm (Nat.ne_of_lt hb)),[],.nil,Heap.DictOf.new h⟩
section
variable {X:Cx} {pos:Pos}
end
def kf:List (TE × TE)->St->Hp->(List (V × V)->Hp->Prop)->Prop
 | [],_,H,Q=>Q [] H
 | (tk,tv) :: r,σ,H,Q=>tk σ H fun x H1=>tv σ H1 fun y H2=>kf r σ H2 fun ps H3=>Q ((x,y) :: ps) H3
abbrev VV:List (V × V)->List (Value × Value)->Prop:=Paired fun p q=>RelV p.1 q.1/\RelV p.2 q.2
def pV (X:Cx) (pos:Pos) (keys:List (Option Expr)) (values:List Expr) (trs:List (TE × TE)):Prop :=
 ∀ (pins:List (Addr × Obj)) (s:Shared) (σ : St) (H:Hp) (Q:List (V × V)->Hp->Prop),Inv X pins σ H s->kf trs σ H Q ->
  wpAny (model X.prog X.w) X.A (evalPairs (pairTrees keys values X.env pos)) (fun vs s'=>∃ ps H',Inv X pins σ H' s'/\VV ps vs/\Q ps H') X.xe s
theorem qr {X:Cx} {pos:Pos}:pV X pos [] [] []:=fun pins s σ H Q I h=>pairTrees_nil_walk ⟨[],H,I,.nil,h⟩
theorem fH {X:Cx} {pos:Pos} {k v:Expr} {ks:List (Option Expr)} {vs:List Expr} {tk tv:TE} {trs:List (TE × TE)} (hk:PE X k tk) (hv:PE X v tv) (hr:pV X pos ks vs trs) :
  pV X pos (some k :: ks) (v :: vs) ((tk,tv) :: trs):=fun pins s σ H Q I h =>
 pairTrees_cons_walk (aM (hk pins s σ H _ I h) fun u s1 ⟨x,H1,I1,rx,q1⟩=>aM (hv pins s1 σ H1 _ I1 q1) fun w2 s2 ⟨y,H2,I2,ry,q2⟩ =>
  aM (hr pins s2 σ H2 _ I2 q2) fun ws s3 ⟨ps,H3,I3,rel,q3⟩=>⟨(x,y) :: ps,H3,I3,.cons ⟨rx,ry⟩ rel,q3⟩)
def cB (kvs more:List (Key × V)):List (Key × V):=more.foldl (fun acc kv=>putK acc kv.1 kv.2) kvs
theorem KV.merge:∀ {more:List (Key × V)} {rs:List (Key × Value)} {kvs:List (Key × V)} {vs:List (Key × Value)},KV more rs->KV kvs vs->KV (cB kvs more) (merged vs rs):=by
 intro more rs kvs vs r
 unfold KV at r
 induction r generalizing kvs vs with
 | nil=>intro q;exact q
 | @cons p q ps qs h t ih =>
  intro r0
  have e:KV (putK kvs p.1 p.2) (stored vs q.1 q.2):=by
   have:=r0.put p.1 h.2
   rw [<-h.1];exact this
  exact ih e
theorem fV:∀ (more kvs:List (Key × V)),(cB kvs more).length<=kvs.length+more.length
 | [],kvs=>by show kvs.length<=kvs.length+0;omega
 | p :: r,kvs=>by
  have h1:=fV r (putK kvs p.1 p.2)
  have h2:=kQ kvs p.1 p.2
  show (cB (putK kvs p.1 p.2) r).length<=_
  rw [List.length_cons];omega
theorem iP {P:Program} {w:World}:∀ {kvs:List (Key × V)} {ws:List (Value × Value)},VV (kvs.map fun kv=>(kV kv.1,kv.2)) ws->∃ rs,Carries (bJ P w) ws rs/\KV kvs rs
 | [],_,r=>by rw [List.map_nil] at r;cases r;exact⟨[],True.intro,.nil⟩
 | p :: kvs,_,r=>by
  rw [List.map_cons] at r
  cases r with
  | @cons a b as bs h t =>
   obtain⟨rs,c,q⟩:=iP (P:=P) (w:=w) t
   obtain⟨b1,b2⟩:=b
   exact⟨(p.1,b2) :: rs,⟨mE h.1,rfl,c⟩,.cons ⟨rfl,h.2⟩ q⟩
def sL (trs:List (TE × TE)):TE:=fun σ H Q=>∀ p,H p=none->kf trs σ (upd H p (.dK [])) fun ps H2=>H2 p=some (.dK [])/\∃ kvs:List (Key × V),ps=kvs.map (fun kv=>(kV kv.1,kv.2))/\kvs.length<=15/\Q (.ref p) (upd H2 p (.dK (cB [] kvs)))
theorem qt {X:Cx} {pos:Pos} {keys:List (Option Expr)} {values:List Expr} {trs:List (TE × TE)} (h:pV X pos keys values trs) (hall:keys.all (·.isSome)=true) (hl:keys.length=values.length) (h0:keys ≠ [])
  (h15:keys.length<=15):PE X (.Dict keys values pos) (sL trs):=by
 intro pins s σ H Q I q
 have hn:=I.aK.fresh (Nat.le_refl s.heap.objs.size)
 have I1:=I.laid (a:=s.heap.objs.size) (o:=.dK []) (h':=s.heap.push { cls:=.type "dict",data:=.dict #[] }) (t':=s.toks) (fun _ _ q=>Heap.get?_push_of_some _ q) (Nat.le_refl _) (oQ s.heap I.big)
 refine wpAny_Dict_walk (knd:=bJ X.prog X.w) hall hl h0 h15 (aM (h pins _ σ _ _ I1 (q _ hn)) fun ws s2 ⟨ps,H2,I2,rel,e,kvs,ep,lk,q2⟩=>?_)
 subst ep
 obtain⟨rs,c,rk⟩:=iP (P:=X.prog) (w:=X.w) rel
 obtain⟨z,hd,vs0,r0,dd⟩:=sJ I2.aK e
 cases r0
 refine⟨rs,c,dd,fun h' dd' hs=>⟨.ref s.heap.objs.size,_,?_,rfl,q2⟩⟩
 have hz:(cB [] kvs).length<=sizeLine:=by
  have h1:=fV kvs []
  rw [List.length_nil] at h1
  rw [sizeLine_eq];omega
 have he:∃ q,h'.get? s.heap.objs.size=some q:=let ⟨q,_,_,hq,_⟩:=dd';⟨q,hq⟩
 exact qq I2 (by rw [e];exact True.intro) hs he (rP hz hd (rk.merge .nil) dd')
structure M1 (X:Cx) (o:Expr) (m:Str) (apos:Pos) (e:Expr) (cpos:Pos):Prop where
 base:attributeBase o m X.env (eval o X.env)=eval o X.env
 jt:((backTo cpos (starEach [e] X.env)).all (fun x=>!x.1) && (backToKw cpos (keywordEach [] X.env)).all (fun x=>x.1.isSome)
  && decide (([e]:List Expr).length+([]:List Keyword).length+(if ([]:List Keyword).isEmpty then 0 else 1) < 30))=true
 line:(apos.endLine == cpos.line)=true
 trees:backTo cpos (starEach [e] X.env) = [(false,eval e X.env)]
structure M2 (X:Cx) (o:Expr) (m:Str) (apos:Pos) (e f:Expr) (cpos:Pos):Prop where
 base:attributeBase o m X.env (eval o X.env)=eval o X.env
 jt:((backTo cpos (starEach [e,f] X.env)).all (fun x=>!x.1) && (backToKw cpos (keywordEach [] X.env)).all (fun x=>x.1.isSome)
  && decide (([e,f]:List Expr).length+([]:List Keyword).length+(if ([]:List Keyword).isEmpty then 0 else 1) < 30))=true
 line:(apos.endLine == cpos.line)=true
 trees:backTo cpos (starEach [e,f] X.env) = [(false,eval e X.env),(false,eval f X.env)]
def tq (H:Hp) (a:Addr):Prop:=(∃ kvs,Rd H a (.dK kvs))\/∃ kvs,Rd H a (.dT kvs)
theorem rQ {X:Cx} {pins:List (Addr × Obj)} {σ : St} {H:Hp} {s:Shared} {a:Addr} (I:Inv X pins σ H s) (d:tq H a) :
  s.TypeIs (.ref a) "dict" /\ (∀ b,Value.ref a=.ref b->∃ ob,s.heap.get? b=some ob/\ob.dict=none)/\(a == sysModules)=false:=by
 rcases d with ⟨kvs,e⟩ | ⟨kvs,e⟩
 ·obtain⟨_,hd,vs,_,dd⟩:=mF I.aK e
  refine⟨dd.typeIs,fun b q=>?_,hd⟩
  cases q
  obtain⟨ob,_,_,h1,h2,_⟩:=dd
  exact⟨ob,h1,h2.2.1⟩
 ·obtain⟨_,hd,xs,_,dd⟩:=pU I.aK e
  refine⟨dd.typeIs,fun b q=>?_,hd⟩
  cases q
  obtain⟨ob,_,_,h1,h2,_⟩:=dd
  exact⟨ob,h1,h2.2.1⟩
section
variable {X:Cx} {pins:List (Addr × Obj)} {σ : St} {H:Hp} {s:Shared} {a:Addr} {y d:V} {u r:Value} {o:Option V} {A:Around} {E:Value->Shared->Prop}
theorem rR {Q:Value->Shared->Prop} (hu:A.units+1 < cLine) (I:Inv X pins σ H s) (g:ke H a y o) (ry:RelV y u) (rd:RelV d r) (h:∀ w' s',Inv X pins σ H s'->RelV (o.getD d) w'->Q w' s') :
  wpAny (model X.prog X.w) A (call (.builtin "dict.get") [.ref a,u,r]) Q E s:=by
 rcases g with ⟨kvs,k,e,ey,l⟩ | ⟨kvs,k,b,e,ey,eb,l⟩
 ·subst ey
  obtain⟨z,hd,vs,rel,dd⟩:=mF I.aK e
  refine call_meetsIn PySem.F.slot_dict_get dd.typeIs PySem.F.entry_dict_get (PySem.F.args_dict_get_3 _ _ _) (meets_dict_get_default (bJ X.prog X.w) a (mE ry) hd r) ⟨_,dd.mapOf,h _ _ (I.tok _) ?_⟩
  rw [l]
  exact (rel.val k).getD rd
 ·subst ey
  cases (show u=Value.ref b from ry)
  obtain⟨z,hd,xs,rel,dd⟩:=pU I.aK e
  refine call_meetsIn PySem.F.slot_dict_get dd.typeIs PySem.F.entry_dict_get (PySem.F.args_dict_get_3 _ _ _) (meetsH_dict_get_default (tupleKind (bJ X.prog X.w)) a b hd r) ⟨tupleKind_room_in1 hu,k,xs,nM I.aK eb,dd,h _ _ (I.tok _) ?_⟩
  rw [l]
  exact (rel.val k).getD rd
end
section
variable {X:Cx} {o e f:Expr} {apos cpos:Pos} {td ty tx:TE}
end
section
variable {X:Cx} {pins:List (Addr × Obj)} {σ : St} {H:Hp} {s:Shared} {a:Addr} {kvs:List (Key × V)} {A:Around} {E:Value->Shared->Prop}
end
section
variable {X:Cx} {pins:List (Addr × Obj)} {σ : St} {H:Hp} {s:Shared} {a:Addr} {y:V} {u:Value} {A:Around} {E:Value->Shared->Prop}
end
section
variable {X:Cx}
end
section
variable {κ : Type} [DecidableEq κ]
end
structure oR (K:PySem.W.Frag) (mg:Str->Option Value) (nm:Str) (a:Addr) (D:List (Str × Addr)):Prop where
 uq:mg nm=some (.ref a)
 lk:∃ es ep,K.lookup a=some ⟨.type "dict",none,.dict es ep,#[]⟩/\KTD.Rows (fun d v=>v=Value.ref d) es.toList D
section
variable {prog:Program} {w:World} {A:Around} {E:Value->Shared->Prop} {s:Shared}
theorem oS {a d:Addr} {o:Obj} {es:Array DictEntry} {ep:Nat} {k:Str} {t:Tok} {D:List (Str × Addr)} {Q:Option Value->Shared->Prop} (ho:s.heap.get? a=some o) (hd:o.data=.dict es ep)
  (hr:KTD.Rows (fun d v=>v=Value.ref d) es.toList D) (ha:KTD.datumAt k D=some d) (q:Q (some (.ref d)) { s with toks:=s.toks+1 }):wpAny (model prog w) A (dictGet a (.str k t)) Q E s:=by
 unfold dictGet
 try with_reducible refine wpAny_holding ?_
 refine wpAny_bind (wpAny_pyHash_str (wpAny_bind (KTD.kt_dictFind_strs (s:={ s with toks:=s.toks+1 }) ho hd (by have:=hr.exact;obtain⟨l⟩:=es;simpa using this) ?_)))
 have hq:Q (findBy (fun k v=>v.isStr k) es k) { s with toks:=s.toks+1 }:=by
  obtain⟨v,hv,rfl⟩:=hr.find_some ha
  have e:findBy (fun k v=>v.isStr k) es k=some (.ref d):=by
   rw [<-hv]
   obtain⟨l⟩:=es
   simp [findBy]
  rw [e]
  exact q
 rw [findBy_of_findIdx?] at hq
 cases hi:es.findIdx? fun e=>e.key.isStr k with
 | some i=>rw [hi] at hq;exact wpAny_bind (wpAny_dictEntries (s:={ s with toks:=s.toks+1 }) ho hd (wpAny_pure hq))
 | none=>rw [hi] at hq;exact wpAny_pure hq
end
section
variable {X:Cx}
end
mutual
inductive aZ (H:Hp):V->PyData->Prop
 | aO:aZ H .aO .none
 | bl (b:Bool):aZ H (.bl b) (.bool b)
 | int (i:Int):aZ H (.int i) (.int i)
 | str (x:Str):aZ H (.str x) (.str x)
 | lst {p:Addr} {xs:List V} {ds:List PyData}:H p=some (.lst xs)->au H xs ds->aZ H (.ref p) (.list ds)
 | tup {p:Addr} {xs:List V} {ds:List PyData}:H p=some (.tup xs)->au H xs ds->aZ H (.ref p) (.tuple ds)
inductive au (H:Hp):List V->List PyData->Prop
 | nil:au H [] []
 | cons {x:V} {xs:List V} {d:PyData} {ds:List PyData}:aZ H x d->au H xs ds->au H (x :: xs) (d :: ds)
end
section
variable {P:Program} {w:World} {H:Hp} {h:Heap}
mutual
theorem aZ.reads (ok:b5 P w H h):∀ {x:V} {d:PyData} {v:Value},aZ H x d->RelV x v->∃ as,Reads h v d as
 | _,_,v,.aO,r=>by
  cases (show v=Value.none from r)
  exact⟨_,.none⟩
 | _,_,v,.bl b,r=>by
  cases (show v=Value.bool b from r)
  exact⟨_,.bool b⟩
 | _,_,v,.int i,r=>by
  obtain⟨t,e⟩:=(show ∃ t,v=Value.int i t from r)
  cases e
  exact⟨_,.int i t⟩
 | _,_,v,.str x,r=>by
  obtain⟨t,e⟩:=(show ∃ t,v=Value.str x t from r)
  cases e
  exact⟨_,.str x t⟩
 | _,_,v,.lst (p:=p) (xs:=xs) e ds,r=>by
  cases (show v=Value.ref p from r)
  obtain⟨_,its,n,rv,h1⟩:=(show bh P w H h p (.lst xs) from ok p _ e)
  obtain⟨as,ra⟩:=au.reads ok ds rv
  exact⟨_,.list (vs:=its.toArray) h1 rfl rfl (by simpa using ra)⟩
 | _,_,v,.tup (p:=p) (xs:=xs) e ds,r=>by
  cases (show v=Value.ref p from r)
  obtain⟨_,its,rv,o,h1,h2,n,h3⟩:=(show bh P w H h p (.tup xs) from ok p _ e)
  obtain⟨as,ra⟩:=au.reads ok ds rv
  exact⟨_,.tuple (vs:=its.toArray) h1 h2 h3.1 (by simpa using ra)⟩
theorem au.reads (ok:b5 P w H h):∀ {xs:List V} {ds:List PyData} {vs:List Value},au H xs ds->Vals xs vs->∃ as,ReadsAll h vs ds as
 | _,_,_,.nil,.nil=>⟨_,.nil⟩
 | _,_,_,.cons r rs,.cons q qs=>by
  obtain⟨as,ra⟩:=aZ.reads ok r q
  obtain⟨bs,rb⟩:=au.reads ok rs qs
  exact⟨_,.cons ra rb⟩
end
end
section
variable {X:Cx}
inductive ua (neg:Bool) (x:V) (y:V) (H:Hp) (Q:VK):Prop
 | mk (dx dy:_) (_:aZ H x dx) (_:aZ H y dy) (_:dx.canLay0=true) (_:dy.canLay0=true) (_:min dx.depth dy.depth<=60) (_:Q (.bl (if neg then !PyData.eqv dx dy else PyData.eqv dx dy)) H)
theorem rS (hu:X.A.units+64 < cLine):bW X (compareOp .Eq) (ua false):=by
 intro pins s σ H x y v u Q I rx ry h
 obtain⟨dx,dy,r1,r2,c1,c2,hd,q⟩:=h
 obtain⟨as,ra⟩:=r1.reads I.aK rx
 obtain⟨bs,rb⟩:=r2.reads I.aK ry
 exact PySem.SeqAt.compareEq_reads ra rb c1 c2 (by omega) ⟨.bl _,H,I,rfl,q⟩
end
def one (c:Nat):Str:=⟨#[c]⟩
theorem kg (rest:List Str):∀ a:Array Nat,(rest.foldl (fun acc p=>acc++Str.empty.cps++p.cps) a).toList=a.toList++rest.flatMap (·.cps.toList):=by
 induction rest with
 | nil=>intro a;simp
 | cons x r ih =>
  intro a
  rw [List.foldl_cons,ih]
  have e:Str.empty.cps = #[]:=rfl
  simp [e]
theorem join_ones (cs:List Nat):(Txt.join Str.empty (cs.map one)).cps.toList=cs:=by
 cases cs with
 | nil=>rfl
 | cons c r =>
  show (List.foldl (fun acc p=>acc++Str.empty.cps++p.cps) (#[c]:Array Nat) (r.map one)).toList=c :: r
  rw [kg]
  simp only [List.flatMap_map,one]
  simp
theorem oT:Str.ofString "" = Str.empty:=by decide +kernel
theorem mG {ys:List Str}:∀ {us:List Value},Vals (ys.map V.str) us->StrsAre us ys:=by
 induction ys with
 | nil=>intro us r;cases r;exact .nil
 | cons y ys ih =>
  intro us r
  cases r with
  | cons h t =>
   obtain⟨k,e⟩:=h
   subst e
   exact .cons y k (ih t)
section
variable {X:Cx}
inductive rJoin (K:PySem.W.Frag) (x:V) (vs:List V) (H:Hp) (Q:VK):Prop
 | mk (z:Str) (p:Addr) (ys:List Str) (_:x=.str z) (_:vs = [.ref p]) (_:aW K H p (ys.map V.str)) (_:(ys.map (·.length)).sum+ys.length * z.length<=16777216) (_:Q (.str (Txt.join z ys)) H)
theorem lR:rA X "str.join" (rJoin X.K):=by
 intro pins s σ H x vs v us Q I rx rv h
 obtain⟨z,p,ys,rfl,rfl,hS,hz,q⟩:=h
 obtain⟨t,e⟩:=(show ∃ t,v=Value.str z t from rx)
 subst e
 obtain⟨u,rfl,ru⟩:=vals1 rv
 cases (show u=Value.ref p from ru)
 obtain⟨its,rv',pl,_⟩:=I.list hS
 exact join_list pl.isList (by simpa using mG rv') hz fun t' k=>⟨.str _,H,I.tok k,⟨_,rfl⟩,q⟩
end
inductive gC where
 | put (x:Str) (n:Int)
 | copy (x y:Str)
 | add (x:Str) (n:Int)
 | read (x:Str)
 | tell (x:Str)
inductive End where
 | stop
 | go (p:Nat)
 | nN (less:Bool) (x:Str) (n:Int) (p q:Nat)
abbrev Piece:=List gC × End
def wT (b:Bool):Str:=if b=true then "less" else "is"
def cV:gC->PyData
 | .put x n=>.tuple [.str "put",.str x,.int n]
 | .copy x y=>.tuple [.str "copy",.str x,.str y]
 | .add x n=>.tuple [.str "add",.str x,.int n]
 | .read x=>.tuple [.str "read",.str x]
 | .tell x=>.tuple [.str "tell",.str x]
def iq:End->PyData
 | .stop=>.tuple [.str "stop"]
 | .go p=>.tuple [.str "go",.int p]
 | .nN b x n p q=>.tuple [.str (wT b),.str x,.int n,.int p,.int q]
def cC (p:Piece):PyData:=.tuple [.tuple (p.1.map cV),iq p.2]
def dU (ps:List Piece):PyData:=.tuple (ps.map cC)
structure cg (x:Str):Prop where
 lo:1<=x.length
 hi:x.length<=8
 az:∀ c ∈ x.cps.toList,97<=c/\c<=122
def fI (n:Int):Prop:=-(10 ^ 40) < n/\n < 10 ^ 40
def eF (xs:List Str):gC->Prop
 | .put x n=>x ∈ xs/\fI n
 | .copy x y=>x ∈ xs/\y ∈ xs
 | .add x n=>x ∈ xs/\fI n
 | .read x=>x ∈ xs
 | .tell x=>x ∈ xs
def gY (xs:List Str) (count:Nat):End->Prop
 | .stop=>True
 | .go p=>p < count
 | .nN _ x n p q=>x ∈ xs/\fI n/\p < count/\q < count
structure kh (xs:List Str) (most:Nat) (ps:List Piece):Prop where
 jM:∀ p ∈ ps,p.1.length<=most/\∀ d ∈ p.1,eF xs d
 ends:∀ p ∈ ps,gY xs ps.length p.2
mutual
def cm:PyData->Bool
 | .list _=>false
 | .tuple xs=>bK xs
 | _=>true
def bK:List PyData->Bool
 | []=>true
 | x :: xs=>cm x && bK xs
end
mutual
theorem aZ.cq {H H':Hp} (k:∀ p xs,H p=some (.tup xs)->H' p=some (.tup xs)):∀ {x:V} {d:PyData},aZ H x d->cm d=true->aZ H' x d
 | _,_,.aO,_=>.aO
 | _,_,.bl b,_=>.bl b
 | _,_,.int i,_=>.int i
 | _,_,.str x,_=>.str x
 | _,_,.lst _ _,h=>nomatch h
 | _,_,.tup e ds,h=>.tup (k _ _ e) (au.cq k ds h)
theorem au.cq {H H':Hp} (k:∀ p xs,H p=some (.tup xs)->H' p=some (.tup xs)):∀ {xs:List V} {ds:List PyData},au H xs ds->bK ds=true->au H' xs ds
 | _,_,.nil,_=>.nil
 | _,_,.cons r rs,h=>by
  simp only [bK,Bool.and_eq_true] at h
  exact .cons (aZ.cq k r h.1) (au.cq k rs h.2)
end
theorem aZ.fix {b:Addr} {H H':Hp} {x:V} {d:PyData} (r:aZ H x d) (hb:bL H b) (f:Fix b H H') (n:cm d=true):aZ H' x d :=
 r.cq (fun p xs e=>f p _ e (hb.cQ e)) n
theorem aZ.same {H H':Hp} {x:V} {d:PyData} (r:aZ H x d) (f:ae H H') (n:cm d=true):aZ H' x d :=
 r.cq (fun p xs e=>f p _ e) n
theorem au.fix {b:Addr} {H H':Hp} {xs:List V} {ds:List PyData} (r:au H xs ds) (hb:bL H b) (f:Fix b H H') (n:bK ds=true):au H' xs ds :=
 r.cq (fun p xs e=>f p _ e (hb.cQ e)) n
theorem au.same {H H':Hp} {xs:List V} {ds:List PyData} (r:au H xs ds) (f:ae H H') (n:bK ds=true):au H' xs ds :=
 r.cq (fun p xs e=>f p _ e) n
theorem au.put {H:Hp} {xs ys:List V} {ds:List PyData} {l:Addr} {o:HO} (r:au H xs ds) (hl:H l=some (.lst ys)) (n:bK ds=true):au (upd H l o) xs ds :=
 r.cq (fun p zs e=>by rw [aF (iE e hl (by intro z;cases z))];exact e) n
theorem au.app {H:Hp} {x:V} {d:PyData}:∀ {xs:List V} {ds:List PyData},au H xs ds->aZ H x d->au H (xs ++ [x]) (ds ++ [d])
 | _,_,.nil,q=>.cons q .nil
 | _,_,.cons r rs,q=>.cons r (au.app rs q)
theorem au.len {H:Hp}:∀ {xs:List V} {ds:List PyData},au H xs ds->xs.length=ds.length
 | _,_,.nil=>rfl
 | _,_,.cons _ rs=>by simp [au.len rs]
theorem ib (d:gC):cm (cV d)=true:=by cases d <;> rfl
theorem fJ (e:End):cm (iq e)=true:=by cases e <;> rfl
theorem cD:∀ ds:List gC,bK (ds.map cV)=true
 | []=>rfl
 | d :: ds=>by show (cm (cV d) && bK (ds.map cV))=true;rw [ib,cD ds];rfl
theorem gF (p:Piece):cm (cC p)=true:=by
 show (bK (p.1.map cV) && (cm (iq p.2) && true))=true
 rw [cD,fJ];rfl
theorem bR:∀ ps:List Piece,bK (ps.map cC)=true
 | []=>rfl
 | p :: ps=>by show (cm (cC p) && bK (ps.map cC))=true;rw [gF,bR ps];rfl
theorem kR (ps:List Piece):cm (dU ps)=true:=bR ps
structure cN (H:Hp) (b l:Addr) (xs:List Str):Prop where
 at_:H l=some (.lst (xs.map V.str))
 ne:l ≠ b
 mH:xs ≠ []
 jt:xs.length<=1000
 ok:∀ x ∈ xs,cg x
theorem cN.fix {H H':Hp} {b l:Addr} {xs:List Str} (h:cN H b l xs) (f:Fix b H H'):cN H' b l xs:=⟨f l _ h.at_ h.ne,h.ne,h.mH,h.jt,h.ok⟩
theorem cN.pos {H:Hp} {b l:Addr} {xs:List Str} (h:cN H b l xs):0 < ((xs.map V.str).length:Int)/\((xs.map V.str).length:Int) < 1073741824:=by
 have h1:=h.mH
 have h2:=h.jt
 have h3:0 < xs.length:=by cases xs with | nil=>exact absurd rfl h1 | cons _ _=>simp
 rw [List.length_map]
 omega
inductive lS  (vs:List V) (H:Hp) (Q:VK) (_:XK):Prop
 | mk (b:Addr) (_:vs = [.ref b]) (_:bL H b) (_:∀ l xs H',cN H' b l xs->xs.length<=4->bL H' b->Fix b H H'->Q (.ref l) H')
inductive ir  (vs:List V) (H:Hp) (Q:VK) (_:XK):Prop
 | mk (b:Addr) (_:vs = [.ref b]) (_:bL H b) (_:∀ n H',fI n->bL H' b->Fix b H H'->Q (.int n) H')
inductive nO  (vs:List V) (H:Hp) (Q:VK) (_:XK):Prop
 | mk (b l:Addr) (xs:List Str) (_:vs = [.ref b,.ref l]) (_:bL H b) (_:cN H b l xs) (_:∀ v d H',aZ H' v (cV d)->eF xs d->bL H' b->Fix b H H'->Q v H')
inductive nP  (vs:List V) (H:Hp) (Q:VK) (_:XK):Prop
 | mk (b l:Addr) (xs:List Str) (c:Nat) (_:vs = [.ref b,.ref l,.int c]) (_:bL H b) (_:cN H b l xs) (_:0 < c) (_:c < 1073741824) (_:∀ v e H',aZ H' v (iq e)->gY xs c e->bL H' b->Fix b H H'->Q v H')
inductive nQ  (vs:List V) (H:Hp) (Q:VK) (_:XK):Prop
 | mk (b:Addr) (c m:Nat) (_:vs = [.ref b,.int c,.int m]) (_:bL H b) (_:0 < c) (_:c<=1000) (_:m<=1000) (_:∀ v xs ps H',aZ H' v (dU ps)->ps.length=c->kh xs m ps->((∀ x ∈ xs,cg x)/\xs.length<=4)->bL H' b->Fix b H H'->Q v H')
inductive lT  (vs:List V) (H:Hp) (Q:VK) (_:XK):Prop
 | mk (b:Addr) (m:Nat) (_:vs = [.ref b,.int m]) (_:bL H b) (_:0 < m) (_:m<=1000) (_:∀ (n:Nat) H',0 < n->n<=max m 4->bL H' b->Fix b H H'->Q (.int n) H')
def iQ:Str := "abcdefghijklmnopqrstuvwxyz"
theorem ki:iQ.cps.toList=(List.range 26).map (· + 97):=by decide +kernel
theorem lU:iQ.length<=sizeLine:=by decide +kernel
theorem nR {r:Int} (h0:0<=r) (h1:r < 26):∃ c,dh iQ.cps.toList r=some c/\97<=c/\c<=122:=by
 have hl:iQ.cps.toList.length=26:=by rw [ki];simp
 obtain⟨c,hc,hm⟩:=mD (xs:=iQ.cps.toList) h0 (by rw [hl];exact h1)
 refine⟨c,hc,?_⟩
 rw [ki] at hm
 obtain⟨k,hk,rfl⟩:=List.mem_map.mp hm
 have:=List.mem_range.mp hk
 omega
theorem iu {xs:List Str} {r:Int} (h0:0<=r) (h1:r < ((xs.map V.str).length:Int)):∃ x,dh (xs.map V.str) r=some (V.str x)/\x ∈ xs:=by
 obtain⟨v,hv,hm⟩:=mD h0 h1
 obtain⟨x,hx,rfl⟩:=List.mem_map.mp hm
 exact⟨x,hv,hx⟩
theorem iw {σ : L2.St} {H:Hp} {Q:Bool->Hp->Prop} (h:Q true H):rJ σ H Q:=h
theorem cS {i:Nat} {v:V} {σ : L2.St} {H:Hp} {Q:L2.St->Hp->Prop} (h:Q (σ.set i (some v)) H):fE i v σ H Q:=h
theorem aZ.lV {H:Hp} {v:V} {ds:List PyData} (h:aZ H v (.tuple ds)):∃ p xs,v=.ref p/\H p=some (.tup xs)/\au H xs ds:=by
 cases h with
 | tup e r=>exact⟨_,_,rfl,e,r⟩
theorem au.cons_inv {H:Hp} {xs:List V} {d:PyData} {ds:List PyData} (h:au H xs (d :: ds)):∃ x r,xs=x :: r/\aZ H x d/\au H r ds:=by
 cases h with
 | cons a b=>exact⟨_,_,rfl,a,b⟩
theorem au.nil_inv {H:Hp} {xs:List V} (h:au H xs []):xs = []:=by cases h;rfl
theorem au.get {H:Hp}:∀ {xs:List V} {ds:List PyData} {i:Nat} {d:PyData},au H xs ds->ds[i]? = some d->∃ x,xs[i]? = some x/\aZ H x d
 | _,_,_,_,.nil,e=>by simp at e
 | _,_,0,_,.cons r _,e=>by
  simp at e
  subst e
  exact⟨_,rfl,r⟩
 | _,_,i+1,d,.cons _ t,e=>by
  obtain⟨x,h1,h2⟩:=au.get (i:=i) (d:=d) t (by simpa using e)
  exact⟨x,by simpa using h1,h2⟩
theorem dW {n:Nat} (h:n<=1000000):n < sizeLine:=Nat.lt_of_le_of_lt h (by decide)
theorem bD {c:Bool} {A B:Prop} (hc:c=false) (h:B):if c=true then A else B:=by subst hc;exact aT h
theorem bM {c:Bool} {A B:Prop} (hc:c=true) (h:A):if c=true then A else B:=by subst hc;exact aI h
inductive mI (Q:VK) (a:Addr) (y:V) (z:V) (H3:Hp):Prop
 | mk (o v:_) (_:ke H3 a y o) (_:o.getD z=v) (_:Q v H3)
inductive mJ (ty:TE) (tx:TE) (σ : St) (Q:VK) (x:V) (H1:Hp):Prop
 | mk (a:_) (_:x=.ref a) (_:tq H1 a) (_:ty σ H1 fun y H2=>tx σ H2 fun z H3=>mI Q a y z H3)
def qu (td ty tx:TE):TE:=fun σ H Q=>td σ H fun x H1=>mJ ty tx σ Q x H1
theorem nS {X:Cx} {o e f:Expr} {apos cpos:Pos} {td ty tx:TE} (hu:X.A.units+1 < cLine) (ho:PE X o td) (he:PE X e ty) (hf:PE X f tx) (m:M2 X o "get" apos e f cpos):PE X (.Call (.Attribute o "get" apos) [e,f] [] cpos) (qu td ty tx):=by
 intro pins s σ H Q I h
 refine wpAny_Call_method m.base m.jt m.line PySem.F.plainAttrs_dict PySem.F.slot_dict_get PySem.F.type_dict_get (aM (ho pins s σ H _ I h) fun u s1 ⟨x,H1,I1,rx,a,ex,d,q1⟩=>?_)
 subst ex
 obtain rfl:u=Value.ref a:=rx
 obtain⟨t1,t2,_⟩:=rQ I1 d
 refine⟨t1,t2,?_⟩
 rw [m.trees]
 refine Calls.callWith_builtin rfl (Calls.evalArgs_plain (Calls.spliced_cons (aM (he pins s1 σ H1 _ I1 q1) fun iv s2 ⟨y,H2,I2,ry,q2⟩ =>
  Calls.spliced_cons (aM (hf pins s2 σ H2 _ I2 q2) fun fv s3 ⟨z,H3,I3,rz,ov,v,g,ev,q3⟩=>Calls.spliced_nil ?_))))
 exact rR hu I3 g ry rz fun w' s4 I4 rw'=>⟨v,H3,I4,by rw [<-ev];exact rw',q3⟩
structure RS where
 uu:Nat
 place:Nat
 w:Str->Int
 taken:Nat
 told:List Int
 word:Str
 uv:List Nat
theorem ae.put {H H':Hp} {l:Addr} {o:HO} (s:ae H H') (n:H l=none):ae H (upd H' l o):=fun c u e=>by rw [aF (bp e n)];exact s c u e
section
variable {X:Cx} {C:Addr} {m x:Str} {k:Nat} {ps:List Str} {sp:Sp} {oe e:Expr} {es:List Expr} {ta:TE} {t:TA} {p pos apos:Pos}
end
section
variable {a0 a1 a2 a3 a4 a5 a6 a7 z:V}
end
section
variable {C:Addr} {H H':Hp} {p pl d nl sl:Addr} {plv:V} {nums:List Int} {S:RS} {m:Nat}
end
end L2
namespace HT
open PySem PyProof.Rows PySem.Spec
section
variable {prog:Program} {w:World} {A:Around} {E:Value->Shared->Prop} {s:Shared}
theorem hX {t sl:Addr} {items:Array Value} {vl vu:Value} {lo hi:Option Int} {Q:Value->Shared->Prop} (ht:IsTup s.heap t items) (hs:s.heap.IsSliceOf sl vl vu .none) (pl:IsPart vl lo) (pu:IsPart vu hi)
  (hw:aX items.size 0 lo=0/\aX items.size items.size hi=items.size) (h:Q (.ref t) s):wpAny (model prog w) A (getItem (.ref t) (.ref sl)) Q E s:=by
 obtain⟨os,hos,hcs,hds⟩:=id hs
 have hTs:s.TypeIs (.ref sl) "slice" := ⟨os,hos,hcs⟩
 unfold getItem
 try with_reducible refine wpAny_holding ?_
 first | refine wpAny_bind (wpAny_pure ?_) | skip
 refine wpAny_bind (wpAny_sequenceKey ht.typeIs (by decide) ?_)
 refine wpAny_bind (wpAny_callSpecial?_slot (name:=Str.ofString "__getitem__") ht.typeIs PyProof.Rows.slot_tuple_getitem
  (wpAny_call_entry PyProof.Rows.slot_tuple_getitem ht.typeIs entry_tuple_getitem ?_ (args_tuple_getitem _ _)))
 show wpAny _ _ (Builtin.Tuple.tupleItemsOf (.ref t) >>= _) _ _ s
 refine wpAny_bind (tupleItemsOf_ ht ?_)
 refine wpAny_bind (wpAny_typeOf hTs ?_)
 rw [if_pos (by decide)]
 refine wpAny_bind (eu hs pl pu ?_)
 have hno:((((aX items.size 0 lo:Nat):Int) == 0 && (1:Int) == 1 && (aX items.size items.size hi - aX items.size 0 lo) == items.size)=true):=by
  rw [hw.1,hw.2]
  simp
 show wpAny _ _ (if (((aX items.size 0 lo:Nat):Int) == 0 && (1:Int) == 1 && (aX items.size items.size hi - aX items.size 0 lo) == items.size)=true then _ else _) _ _ s
 rw [if_pos hno]
 refine wpAny_bind ?_
 unfold Builtin.Tuple.tupleIsExact
 refine wpAny_bind (wpAny_typeOf ht.typeIs (wpAny_pure ?_))
 rw [if_pos (by decide)]
 refine wpAny_bind (wpAny_rule ?_)
 first
  | exact wpAny_pure ⟨_,rfl,wpAny_pure h⟩
  | exact wpAny_bind (wpAny_pure (wpAny_pure ⟨_,rfl,wpAny_pure h⟩))
  | exact wpAny_pure (wpAny_pure ⟨_,rfl,wpAny_pure h⟩)
end
end HT
namespace L2
open PySem PySem.Spec PyProof.Rows
section
variable {X:Cx}
inductive sM (K:PySem.W.Frag) (x:V) (lo:Option Int) (hi:Option Int) (H:Hp) (Q:VK):Prop
 | mk (a xs:_) (_:x=.ref a) (_:aG K H a xs) (_:((HT.aX xs.length 0 lo=0/\HT.aX xs.length xs.length hi=xs.length)->Q (.ref a) H)) (_:(¬ (HT.aX xs.length 0 lo=0/\HT.aX xs.length xs.length hi=xs.length)->∀ p,H p=none->Q (.ref p) (upd H p (.tup (cH xs lo hi)))))
theorem lW:pK X (sM X.K):=by
 intro pins s σ H x v vl vu lo hi sl Q I rx hs pl pu h
 obtain⟨a,xs,rfl,hx,q1,q2⟩:=h
 by_cases hw:HT.aX xs.length 0 lo=0/\HT.aX xs.length xs.length hi=xs.length
 ·cases rx
  obtain⟨its,r,ht,hz⟩:=I.tuple hx
  have hlen:its.toArray.size=xs.length:=by rw [List.size_toArray];exact r.length.symm
  refine⟨"tuple",_,PyProof.Rows.slot_tuple_getitem.lookup,ht.typeIs,?_⟩
  exact HT.hX ht hs pl pu (by rw [hlen];exact hw) ⟨.ref a,H,I,rfl,q1 hw⟩
 ·exact rq pins s σ H (.ref a) v vl vu lo hi sl Q I rx hs pl pu ⟨a,xs,rfl,hx,hw,q2 hw⟩
end
def KTup (K:PySem.W.Frag) (a:Addr) (ks:List Str):Prop:=∃ (o:Obj) (its:Array Value) (n:Nat),K.lookup a=some o/\o.cls=.type "tuple" /\ o.data=.seq its n/\its.size<=sizeLine/\Vals (ks.map V.str) its.toList
structure oU (K:PySem.W.Frag) (mg:Str->Option Value) (aE s0 s1 s2 s3:Addr):Prop where
 tab:oR K mg "END_PARTS" aE [("stop",s0),("go",s1),("less",s2),("is",s3)]
 q0:KTup K s0 []
 q1:KTup K s1 ["piece"]
 q2:KTup K s2 ["name", "number", "piece", "piece"]
 q3:KTup K s3 ["name", "number", "piece", "piece"]
section
variable {prog:Program} {w:World} {A:Around} {E:Value->Shared->Prop} {s:Shared}
end
section
variable {X:Cx}
end
section
variable {X:Cx}
end
end L2
namespace LS
open PySem
open PySem.Spec PyProof.Rows
section
variable {prog:Program} {w:World} {K:Type} [DecidableEq K] {knd:KeyKind prog w K}
variable {A:Around} {E:Value->Shared->Prop} {s:Shared}
variable {a:Addr} {ks:List K} {o:Obj} {es:Array (Int × Value)} {ep:Nat} {t:SetTable} {h h':Heap}
end
section
variable {prog:Program} {w:World} {A:Around} {E:Value->Shared->Prop} {s:Shared}
end
section
variable {prog:Program} {w:World} {K:Type} [DecidableEq K] {knd:KeyKind prog w K}
variable {A:Around} {E:Value->Shared->Prop} {s:Shared} {a:Addr} {ks:List K} {o:Obj} {es:Array (Int × Value)} {ep:Nat} {t:SetTable}
end
section
variable {prog:Program} {w:World} {K:Type} [DecidableEq K] {knd:KeyKind prog w K}
variable {A:Around} {E:Value->Shared->Prop} {s:Shared} {a I:Addr} {ks:List K} {o:Obj} {es:Array (Int × Value)} {ep:Nat} {t:SetTable}
end
open PySem.Calls PySem.W
section
variable {prog:Program} {w:World} {K:Type} [DecidableEq K] {knd:KeyKind prog w K}
variable {A:Around} {E:Value->Shared->Prop} {s:Shared} {a:Addr} {ks:List K} {o:Obj} {es:Array (Int × Value)} {ep:Nat} {t:SetTable}
end
end LS
namespace L2
open PySem PySem.Spec PyProof.Rows LS
section
variable {prog:Program} {w:World} {A:Around} {E:Value->Shared->Prop} {s:Shared} {a:Addr} {ks:List Key} {o:Obj} {es:Array (Int × Value)} {ep:Nat} {t:SetTable}
end
section
variable {X:Cx} {pins:List (Addr × Obj)} {σ : List (Option V)} {H:Hp} {s:Shared}
end
end L2
namespace LS
open PySem PySem.Spec PyProof.Rows L2
section
variable {K:Type} [DecidableEq K]
end
section
variable {prog:Program} {w:World} {A:Around} {E:Value->Shared->Prop} {s:Shared}
end
section
variable {prog:Program} {w:World} {A:Around} {E:Value->Shared->Prop} {s:Shared}
end
end LS
namespace L2
open PySem PySem.Spec PyProof.Rows LS
section
variable {X:Cx}
variable {o e:Expr} {es:List Expr} {to:TE} {t:TA} {name:Str} {apos cpos:Pos} {id:String} {r:V->List V->Hp->VK->Prop}
end
structure mK (K:PySem.W.Frag) (mg:Str->Option Value) (aD d0 d1 d2 d3 d4:Addr):Prop where
 tab:oR K mg "DEED_PARTS" aD [("put",d0),("copy",d1),("add",d2),("read",d3),("tell",d4)]
 q0:KTup K d0 ["name", "number"]
 q1:KTup K d1 ["name", "name"]
 q2:KTup K d2 ["name", "number"]
 q3:KTup K d3 ["name"]
 q4:KTup K d4 ["name"]
theorem cO {k:Str} {d:Addr} {D:List (Str × Addr)}:KTD.datumAt k ((k,d) :: D)=some d:=by
 show (if decide (k=k)=true then some d else KTD.datumAt k D)=some d
 rw [if_pos (decide_eq_true rfl)]
theorem cz {k x:Str} {d:Addr} {D:List (Str × Addr)} {o:Option Addr} (h:¬ k=x) (e:KTD.datumAt k D=o):KTD.datumAt k ((x,d) :: D)=o:=by
 show (if decide (k=x)=true then some d else KTD.datumAt k D)=o
 rw [if_neg (by rw [decide_eq_false h];decide)]
 exact e
section
variable {X:Cx}
end
section
variable {a0 a1 z:V}
end
section
variable {C D:Addr} {H H':Hp} {wp p pl d nl sl:Addr} {plv:V} {nums:List Int} {S:RS} {m:Nat}
end
section
variable (C D:Addr)
end
section
variable {C D:Addr} {H H':Hp} {wp p pl d nl sl st d2 tl bl np:Addr} {plv:V} {nums nums':List Int} {S S':RS} {m m':Nat}
end
section
variable (C D:Addr)
end
section
variable {C D:Addr} {H0 H H1 H2:Hp} {wp p pl d nl sl st st' d2 tl bl np b:Addr} {plv:V} {nums more:List Int} {S S':RS} {m m':Nat}
end
section
variable {X:Cx}
inductive sN  (x:V) (y:V) (H:Hp) (Q:VK):Prop
 | mk (a b xs ys:_) (_:x=.ref a) (_:y=.ref b) (_:H a=some (.tup xs)) (_:H b=some (.tup ys)) (_:xs.length+ys.length<=sizeLine) (_:∀ t H',H' t=some (.tup (xs++ys))->ae H H'->Q (.ref t) H')
theorem dr:bW X (binaryOp .Add) sN:=by
 intro pins s σ H x y v u Q I rx ry h
 obtain⟨a,b,xs,ys,rfl,rfl,ha,hb,hz,q⟩:=h
 cases rx
 cases ry
 obtain⟨its,r1,p1,_⟩:=I.tuple (aG.of ha)
 obtain⟨its2,r2,p2,_⟩:=I.tuple (aG.of hb)
 by_cases hx:xs = []
 ·subst hx
  have hi:its = []:=r1.gX.mpr rfl
  subst hi
  obtain⟨⟨cls,dd,data,sl⟩,ho,hc,n,hd⟩:=id p1
  obtain⟨⟨cls2,dd2,data2,sl2⟩,ho2,hc2,n2,hd2⟩:=id p2
  simp only at hc hd hc2 hd2
  subst hc hd hc2 hd2
  exact concat_meets ⟨_,ho,rfl⟩ ⟨_,ho2,rfl⟩ noFill_tuple_add seq_tuple_add PySem.F.slot_tuple_add PySem.F.entry_tuple_add (PySem.F.args_tuple_add_2 _ _)
   (tuple_addW0 a b [].toArray its2.toArray n n2 dd dd2 sl sl2 (by simp)) ⟨ho,ho2,⟨.ref b,H,I,rfl,q b H hb (ae.refl H)⟩⟩
 ·refine HT.qc p1 p2 (fun z=>hx (r1.gX.mp z)) (fun z=>⟨.ref a,H,I,rfl,q a H (by rw [r2.gX.mp z,List.append_nil];exact ha) (ae.refl H)⟩) (fun z=>?_) (by rw [<-r1.length,<-r2.length];exact hz)
  have fr:=I.aK.fresh (a:=s.heap.objs.size) (Nat.le_refl _)
  refine⟨.ref s.heap.objs.size,_,I.laid (t':=s.toks) (o:=.tup (xs++ys)) (fun b ob q=>Heap.get?_push_of_some _ q) (Nat.le_refl _) ?_,rfl,q _ _ ab (ae.new fr)⟩
  exact⟨by rw [List.length_append];exact hz,_,r1.append r2,⟨_,Heap.get?_push_size _ rfl,rfl,_,rfl,rfl⟩⟩
end
section
variable {ps:List Piece} {nums more:List Int} {S S0:RS} {m n:Nat}
end
section
variable {ps:List Piece} {nums more:List Int} {S:RS} {m n:Nat}
end
inductive Call where
 | hand (ns:List Int)
 | go (n:Nat)
structure rT where
 S:RS
 nums:List Int
 m:Nat
structure WA where
 wp:Addr
 p:Addr
 pl:Addr
 d:Addr
 nl:Addr
 sl:Addr
section
variable {C D:Addr} {H H' H0:Hp} {x y:WA} {pv pv':V} {s s':rT} {c:Addr} {o:HO}
end
section
variable (C D:Addr)
end
section
variable {C D:Addr} {H0 H H1:Hp} {w0 w1 w2:WA} {wl cl nb:Addr} {plv ov:V} {x0 x1 x2 x':rT} {n0 n1 n':List Int} {vs:List V} {cs:List Call}
end
end L2
namespace PySem
section
variable {prog:Program} {w:World} {A:Around} {E:Value->Shared->Prop} {s:Shared}
end
end PySem
namespace PySem
section
variable {prog:Program} {w:World} {K:Type} [DecidableEq K] {knd:KeyKind prog w K} {A:Around} {s:Shared}
end
end PySem
namespace L2
open PySem PySem.Spec PyProof.Rows
theorem kj:∀ {xs:List V} {us:List Value} {j:Nat} {x:V},Vals xs us->xs[j]? = some x->∃ u,us[j]? = some u/\RelV x u
 | _,_,_,_,.nil,e=>by simp at e
 | _,_,0,_,.cons r _,e=>by
  cases (Option.some.inj e)
  exact⟨_,rfl,r⟩
 | _,_,j+1,x,.cons _ t,e=>by
  obtain⟨u,h1,h2⟩:=kj (j:=j) (x:=x) t (by simpa using e)
  exact⟨u,by simpa using h1,h2⟩
section
variable {X:Cx}
theorem all_range (bs:List Bool):((List.range bs.length).all fun i=>(bs[i]?).getD true)=bs.all id:=by
 rw [Bool.eq_iff_iff]
 simp only [List.all_eq_true,List.mem_range]
 constructor
 ·intro h b hb
  obtain⟨i,hi,rfl⟩:=List.getElem_of_mem hb
  have:=h i hi
  simpa [hi] using this
 ·intro h i hi
  have:=h bs[i] (List.getElem_mem hi)
  simpa [hi] using this
theorem eX (hc:X.calm=true):da X (.builtin "all") (fun vs H Q=>∃ (p:Addr) (bs:List Bool),vs = [.ref p]/\aW X.K H p (bs.map V.bl)/\Q (.bl (bs.all id)) H):=by
 intro pins s σ H vs us Q I r h
 obtain⟨p,bs,rfl,hS,q⟩:=h
 obtain⟨u,rfl,ru⟩:=vals1 r
 cases (show u=Value.ref p from ru)
 obtain⟨its,rv,pl,hz⟩:=I.list hS
 have hl:=pl.isList
 have hlt:p < s.heap.objs.size:=by
  obtain⟨_,e,_⟩:=hl
  exact Heap.lt_size e
 have hsz:its.toArray.size=bs.length:=by
  have:=rv.length
  simp at this
  simp [this]
 refine call_all_walk (wpAny_pyIter_list hl ?_)
 refine⟨s.heap.objs.size,[s.heap.objs.size,p],[s.heap.objs.size],its.toArray.size,_,_,fun j=>(bs[j]?).getD true,rfl,Walks.list (A:=X.A.in1) (I.ok.hd hc) _ p (Nat.ne_of_lt hlt) its.toArray,
  ⟨⟨_,Heap.get?_push_size _ rfl,rfl,rfl⟩,hl.push _⟩,fun j v t Q' E' hP hQ=>?_,fun g tk hk=>?_⟩
 ·have hj:its[j]? = some v:=by simpa using hP
  have hjl:j < bs.length:=by
   have:=(List.getElem?_eq_some_iff.mp hj).1
   rw [<-rv.length,List.length_map] at this
   exact this
  have hb:bs[j]? = some bs[j]:=by simp [hjl]
  obtain⟨w',hw,rw'⟩:=kj (j:=j) (x:=V.bl bs[j]) rv (by rw [List.getElem?_map,hb];rfl)
  rw [hj] at hw
  cases hw
  cases (show v=Value.bool bs[j] from rw')
  have hQ':Q' ((bs[j]?).getD true) t:=hQ
  rw [hb] at hQ'
  exact wpAny_truthy_bool hQ'
 ·refine⟨.bl (bs.all id),H,?_,?_,q⟩
  ·refine I.kept (t':=tk) fun b o e=>hk b o (fun hm=>?_) (Heap.get?_push_of_some _ e)
   rw [List.mem_singleton.mp hm] at e
   exact Nat.lt_irrefl _ (Heap.lt_size e)
  ·show _=Value.bool (bs.all id)
   rw [hsz,all_range]
end
section
variable {X:Cx}
end
theorem iR:bootBuiltins "all" = some (.builtin "all"):=by decide +kernel
section
variable {C D:Addr} {H0 H H1:Hp} {w0 w1:WA} {plv:V} {x0 x1 x':rT}
end
open LS
section
variable {X:Cx}
end
section
variable {a0 a1 z:V}
end
section
variable {C r m d:Addr} {H H':Hp} {ms:List Nat}
end
section
variable (C:Addr)
end
section
variable {X:Cx} {tg:Expr}
theorem ju:bW X (compareOp .LtE) (fun x y H Q=>∃ i j,x=.str i/\y=.str j/\Q (.bl (!decide (j.cps.toList < i.cps.toList))) H):=by
 intro pins s σ H x y v u Q I rx ry h
 obtain⟨i,j,rfl,rfl,q⟩:=h
 obtain⟨t,rfl⟩:=rx
 obtain⟨t',rfl⟩:=ry
 exact P.le_str (aS I q rfl)
def rV (x:Str):It:=⟨fun i _=>i < x.cps.size,fun i H v H'=>H' = H/\∃ c,x.cps[i]? = some c/\v=.str ⟨#[c]⟩,fun i _=>i=x.cps.size⟩
theorem kl {P:Program} {w:World} {K:PySem.W.Frag} {tg:Expr} {ty:String} (it:Addr) (x:Str) (t:Tok) (hn:["enumerate", "zip", "dict_itemiterator", "dict_reverseitemiterator", "odict_iterator", "itertools.zip_longest", "itertools.pairwise"].contains ty=false)
  (W:∀ A:Around,A.handled=none->Walks P w A it [it] [it] x.cps.size (SignAt x) (fun i h=>h.IsStrIter it ty x t i))
  (S:∀ (A:Around) (i:Nat) (s:Shared) (Q:Value->Shared->Prop) (E:Value->Shared->Prop),s.heap.IsStrIter it ty x t i->Q (.ref it) s->wpAny (model P w) A (pyIter (.ref it)) Q E s):Turn P w K tg (rV x) [it] it (fun i h=>h.IsStrIter it ty x t i) where
 mem:=by simp
 obj:=fun i h st b hb=>by
  have e:b=it:=by simpa using hb
  subst e
  obtain⟨o,e,c,d⟩:=st
  exact⟨o,e,fun v z=>by rw [d] at z;cases z⟩
 keep:=fun i h h' st k=>by
  obtain⟨o,e,r⟩:=st
  exact⟨o,k it (by simp) o e,r⟩
 item:=by
  intro X hP hw hK hc i pins s σ H E I hf st hg
  subst hP hw hK
  obtain⟨f0,f1,f2,f3,f4,f5⟩:=hf it (by simp)
  refine (W X.A (I.ok.hd hc)).item i s _ _ hg st fun v h' tk hv st' kk=>?_
  obtain⟨c,u,hc',rfl⟩:=hv
  have I1:Inv X pins σ H { s with heap:=h',toks:=tk }:=I.turned (fun b o hb e=>kk b o (by simpa using hb) e) f0 f1 f3 f4 f5
  obtain⟨o,e,c1,d⟩:=id st'
  exact⟨_,rfl,mr (s:={ s with heap:=h',toks:=tk }) e c1 d hn ⟨.str ⟨#[c]⟩,H,I1,⟨u,rfl⟩,⟨rfl,c,hc',rfl⟩,st',fun b hb=>(hf b hb).1⟩⟩
 done:=by
  intro X hP hw hK hc i pins s σ H E I hf st hg
  subst hP hw hK
  obtain⟨f0,f1,f2,f3,f4,f5⟩:=hf it (by simp)
  cases (show i=x.cps.size from hg)
  exact (W X.A (I.ok.hd hc)).done s _ _ st fun h' tk kk=>⟨rfl,I.turned (fun b o hb e=>kk b o (by simpa using hb) e) f0 f1 f3 f4 f5⟩
 self:=fun A i s Q E st h=>S A i s Q E st h
def ub (tl:TE):TI:=fun σ H R=>tl σ H fun v H1=>∃ x:Str,v=.str x/\R (rV x) H1
theorem nT {l:Expr} {tl:TE} (hl:PE X l tl):PI X tg l (ub tl):=by
 intro pins s σ H R I h
 refine aM (hl pins s σ H _ I h) fun v s1 ⟨x,H1,I1,r1,q1⟩=>?_
 obtain⟨z,rfl,q⟩:=q1
 obtain⟨t,rfl⟩:=(show ∃ t,v=Value.str z t from r1)
 cases ha:z.cps.all (· < 128)
 ·refine wpAny_pyIter_wide ha ?_
  refine⟨s1.heap.objs.size,[s1.heap.objs.size],_,_,H1,rfl,I1.kept (t':=s1.toks) fun b o e=>Heap.get?_push_of_some _ e,kl _ z t (ty := "str_iterator") (by decide) (fun A hA=>Walks.strWide hA _ z t) (fun _ _ _ _ _ st h=>wpAny_pyIter_striter_wide st h),⟨_,Heap.get?_push_size _ rfl,rfl,rfl⟩,fun b hb=>?_,q⟩
  have e:b=s1.heap.objs.size:=by simpa using hb
  subst e
  exact I1.il (Nat.le_refl _) (I1.aK.fresh (Nat.le_refl _))
 ·refine wpAny_pyIter_ascii ha ?_
  refine⟨s1.heap.objs.size,[s1.heap.objs.size],_,_,H1,rfl,I1.kept (t':=s1.toks) fun b o e=>Heap.get?_push_of_some _ e,kl _ z t (ty := "str_ascii_iterator") (by decide) (fun A hA=>Walks.strAscii hA _ z t) (fun _ _ _ _ _ st h=>wpAny_pyIter_striter_ascii st h),⟨_,Heap.get?_push_size _ rfl,rfl,rfl⟩,fun b hb=>?_,q⟩
  have e:b=s1.heap.objs.size:=by simpa using hb
  subst e
  exact I1.il (Nat.le_refl _) (I1.aK.fresh (Nat.le_refl _))
theorem nU {acc:Addr} {x:Str} {n:Nat} {js:List Nat} {g:TG} {ct:TT} {te:TE} {σ : St} {H1:Hp} {Q:VK} (Pv:Nat->List V->St->Hp->Prop) (h0:Pv 0 [] (ia n js σ) (upd H1 acc (.lst [])))
  (hl:∀ i ys τ H,i<=x.cps.size->Pv i ys τ H->H acc=some (.lst ys)/\ys.length < sizeLine)
  (hs:∀ i c ys τ H,x.cps[i]? = some c->Pv i ys τ H->g (.str ⟨#[c]⟩) τ H fun τ1 H4=>ct τ1 H4 fun b H5=>if b=true then te τ1 H5 fun y H6=>H6 acc=some (.lst ys)/\Pv (i+1) (ys ++ [y]) τ1 (upd H6 acc (.lst (ys ++ [y]))) else Pv (i+1) ys τ1 H5)
  (hd:∀ ys τ H,Pv x.cps.size ys τ H->Q (.ref acc) H) :
  lL (rV x) n js g ct te acc σ H1 Q:=by
 refine⟨fun i m ys τ H=>m=x.cps.size - i/\i<=x.cps.size/\Pv i ys τ H,⟨x.cps.size,by simp,Nat.zero_le _,h0⟩,?_⟩
 rintro i m ys τ H ⟨rfl,hi,p⟩
 obtain⟨q2,q3⟩:=hl i ys τ H hi p
 refine⟨q2,q3,?_⟩
 by_cases hlt:i < x.cps.size
 ·refine .inr ⟨hlt,Pv (i+1),fun ys' τ' H' p'=>⟨x.cps.size - (i+1),by omega,rfl,hlt,p'⟩,fun v H' y=>?_⟩
  obtain⟨e,c,hc,rfl⟩:=y
  subst e
  exact hs i c ys τ _ hc p
 ·have e:i=x.cps.size:=by omega
  subst e
  exact .inl ⟨rfl,hd ys τ H p⟩
end
open PySem.Builtin.Str PySem.Builtin PySem.StrLaws PySem.NumText
def sg (x:Str):List Nat:=x.cps.toList
theorem iS (x:Str):(sg x).length=x.length:=Array.length_toList
structure nV (m:Nat) (x:Str):Prop where
 jt:x.length<=m
 ok:∀ c ∈ sg x,c < 0x110000
theorem nV.one {c:Nat} (h:c < 0x110000):nV 1 ⟨#[c]⟩:=⟨Nat.le_refl 1,fun d hd=>by rw [List.mem_singleton.mp (show d ∈ [c] from hd)];exact h⟩
theorem nV.lay {m:Nat} {x:Str} (h:nV m x):PyData.canLay0 (.str x)=true:=by
 show (x.cps.all fun c=>decide (c < 0x110000))=true
 rw [<-Array.all_toList,List.all_eq_true]
 exact fun c hc=>decide_eq_true (h.ok c hc)
theorem km {H:Hp}:∀ l:List Nat,au H (l.map fun c=>V.str ⟨#[c]⟩) (l.map fun c=>PyData.str ⟨#[c]⟩)
 | []=>.nil
 | _ :: l=>.cons (.str _) (km l)
theorem lX:∀ ds:List PyData,(∀ d ∈ ds,d.canLay0=true)->(PyData.list ds).canLay0=true
 | [],_=>rfl
 | d :: ds,h=>by
  have ih:=lX ds fun x hx=>h x (List.mem_cons_of_mem _ hx)
  show (d.canLay0 && (PyData.list ds).canLay0)=true
  rw [h d (List.mem_cons_self ..),ih]
  rfl
theorem oV (l:List Nat):PyData.eqv (.list (l.map fun c=>PyData.str ⟨#[c]⟩)) (.list [])=l.isEmpty:=by cases l <;> rfl
section
variable {P:Program} {w:World} {K:PySem.W.Frag} {mg:Str->Option Value} {base h:Heap} {x q m:Str} {st:Stmt} {f C:Addr} {fd:FuncData} {k:Nat} {ps:List Str} {sp:Sp}
structure bu (K:PySem.W.Frag) (x:Str) (st:Stmt) (f:Addr) (fd:FuncData):Prop where
 a:PySem.W.nsIn K mainGlobals x=some (some (.ref f))
 F:bZ K x x st f fd
section
variable {oc:Value} {od an:Option Addr} {osl:Array (Option Value)} {kV doc pm cdv ct:Value}
theorem def_mk (a:PySem.W.nsIn K mainGlobals x=some (some (.ref f))) (l:K.lookup f=some ⟨oc,od,.func (PySem.W.fnOf x x (cv st) (b4 st) (ar st) .none kV doc pm an cdv ct),osl⟩)
  (c:PySem.W.codeIn K cdv x=true) (k:PySem.W.keepIn K (.ref f)=true):bu K x st f (PySem.W.fnOf x x (cv st) (b4 st) (ar st) .none kV doc pm an cdv ct):=⟨a,rF l c k⟩
end
def jN (x q:Str) (st:Stmt) (ps:List Str):Prop:=∀ (kV doc pm:Value) (an:Option Addr) (cdv ct:Value) (us:List Value),us.length=ps.length->bindArgs (PySem.W.fnOf x q (cv st) (b4 st) (ar st) .none kV doc pm an cdv ct) ⟨us,[]⟩=pure (ps.zip us)
theorem aU (P:Program) (w:World) (base:Heap) (X:K.In h) (G:h.Ns mainGlobals mg) (d:bu K x st f fd) (o:bg P w K mg base bS k f fd ps sp) (b:jN x x st ps):Own P w K mg base x k ps sp:=⟨⟨_,_,o,PySem.W.mg_of X G d.a,d.F.kp,d.F.binds b⟩⟩
section
variable {p1 p2 p3 p4 p5 p6:Str}
theorem gG (h:∀ (kV doc pm:Value) (an:Option Addr) (cdv ct u1:Value),bindArgs (PySem.W.fnOf x q (cv st) (b4 st) (ar st) .none kV doc pm an cdv ct) ⟨[u1],[]⟩=pure [(p1,u1)]):jN x q st [p1]:=fun _ _ _ _ _ _ us hl=>match us,hl with | [_],_=>h ..
theorem jv (h:∀ (kV doc pm:Value) (an:Option Addr) (cdv ct u1 u2:Value),bindArgs (PySem.W.fnOf x q (cv st) (b4 st) (ar st) .none kV doc pm an cdv ct) ⟨[u1,u2],[]⟩=pure [(p1,u1),(p2,u2)]):jN x q st [p1,p2]:=fun _ _ _ _ _ _ us hl=>match us,hl with | [_,_],_=>h ..
theorem ic (h:∀ (kV doc pm:Value) (an:Option Addr) (cdv ct u1 u2 u3:Value),bindArgs (PySem.W.fnOf x q (cv st) (b4 st) (ar st) .none kV doc pm an cdv ct) ⟨[u1,u2,u3],[]⟩=pure [(p1,u1),(p2,u2),(p3,u3)]):jN x q st [p1,p2,p3]:=fun _ _ _ _ _ _ us hl=>match us,hl with | [_,_,_],_=>h ..
end
end
theorem cE {N ps:List Str} {sc:Scope} (h1:sc.kind=.function:=by rfl) (h2:sc.isCoroutine=false:=by rfl) (h3:sc.isGenerator=false:=by rfl) (h4:N.Nodup:=by decide +kernel) (h5:N.take ps.length=ps:=by rfl) (h6:∀ x ∈ ps,sc.names.lookup x=some .local\/sc.names.lookup x=some .cell:=by decide +kernel) (h7:∀ y ∈ sc.names,y.2 ≠ .free:=by decide +kernel):aP N ps sc:=⟨h1,h2,h3,h4,h5,h6,h7⟩
theorem av {X:Cx} {x:Str} {k m:Nat} {ps:List Str} {sp:Sp} {e:Expr} {es:List Expr} {t:TA} {p pos:Pos} (o:Own X.prog X.w X.K X.mg X.base x k ps sp) (hr:b7 m X.A) (ha:PA X (e :: es) t) (hk:k<=m:=by decide) (hg:Gl X x:=by rfl)
  (hdb:(x == ("__debug__" : Str))=false:=by decide) (he:starEach (e :: es) X.env=(false,eval e X.env) :: starEach es X.env:=by rfl) (hpl:(backTo pos (starEach es X.env)).any (·.1)=false:=by rfl):PE X (.Call (.Name x p) (e :: es) [] pos) (jK sp [] E0 t):=rG o (hr.mono hk) hg ha hdb he hpl
theorem bw {X:Cx} {i:Nat} {x:Str} {e:Expr} {te:TE} {pos pos':Pos} (hN:X.N.Nodup) (he:PE X e te) (hi:X.N[i]? = some x:=by rfl) (hx:Loc X.env.scope x:=by first | exact Or.inl rfl | exact Or.inr rfl) (hs:swapsWith e (some (.Name x pos')) pos.line X.env=pure false:=by rfl) (hf:X.fn x=true\/X.env.scope.names.lookup x=some .local:=by first | exact .inl rfl | exact .inr rfl | assumption) :
  PS X (.Assign [.Name x pos'] e pos) (jY te (fE i)):=qY hN hi hx he hs hf
theorem b0 {X:Cx} {i:Nat} {x:Str} {pos:Pos} (hN:X.N.Nodup) (hi:X.N[i]? = some x:=by rfl) (hx:Loc X.env.scope x:=by first | exact Or.inl rfl | exact Or.inr rfl) (hf:X.fn x=true\/X.env.scope.names.lookup x=some .local:=by first | exact .inl rfl | exact .inr rfl | assumption):PG X (.Name x pos) (fE i):=pZ hN hi hx hf
theorem aN {X:Cx} {a b:Expr} {ta tb:TE} {pos:Pos} {r:R2} (hr:lJ X r) (ha:PE X a ta) (hb:PE X b tb) (hs:i0 b:=by exact fun _ _=>rfl):PE X (.Subscript a b pos) (j0 r ta tb):=sE hr ha hb hs
theorem ay {X:Cx} {e1:Expr} {t1:TE} (h1:PE X e1 t1) (s1:starEach [e1] X.env=(false,eval e1 X.env) :: starEach [] X.env:=by rfl):PA X [e1] (eU t1 j3):=(bt h1 cA s1)
theorem aA {X:Cx} {e1 e2:Expr} {t1 t2:TE} (h1:PE X e1 t1) (h2:PE X e2 t2) (s1:starEach [e1,e2] X.env=(false,eval e1 X.env) :: starEach [e2] X.env:=by rfl) (s2:starEach [e2] X.env=(false,eval e2 X.env) :: starEach [] X.env:=by rfl):PA X [e1,e2] (eU t1 (eU t2 j3)):=(bt h1 (bt h2 cA s2) s1)
theorem e5 {X:Cx} {e1 e2 e3:Expr} {t1 t2 t3:TE} (h1:PE X e1 t1) (h2:PE X e2 t2) (h3:PE X e3 t3) (s1:starEach [e1,e2,e3] X.env=(false,eval e1 X.env) :: starEach [e2,e3] X.env:=by rfl) (s2:starEach [e2,e3] X.env=(false,eval e2 X.env) :: starEach [e3] X.env:=by rfl) (s3:starEach [e3] X.env=(false,eval e3 X.env) :: starEach [] X.env:=by rfl):PA X [e1,e2,e3] (eU t1 (eU t2 (eU t3 j3))):=(bt h1 (bt h2 (bt h3 cA s3) s2) s1)
section
variable {prog:Program} {w:World} {A:Around} {E:Value->Shared->Prop} {s:Shared}
theorem oW {Q:Int->Shared->Prop} (h:∀ n tk,Q n { s with toks:=tk }):wpAny (model prog w) A (pyHash .none) Q E s:=by
 show wpAny _ _ (pyHashByItsType .none) _ _ _
 exact PySem.W.pyHash_slot (T := "NoneType") rfl PySem.F.slot_NoneType_hash PySem.F.entry_NoneType_hash (PySem.F.args_NoneType_hash_1 _) (by decide) (.inl rfl) (wpAny_bind (wpAny_pure (wpAny_bind (wpAny_mkInt (wpAny_pure ⟨_,_,rfl,h _ _⟩)))))
theorem oX {d:Addr} {o:Obj} {es:Array DictEntry} {ep:Nat} {hsh:Int} {Q:Option Nat->Shared->Prop} (ho:s.heap.get? d=some o) (hd:o.data=.dict es ep) (hall:∀ e ∈ es,∃ x t,e.key=.str x t) (h:Q none s):wpAny (model prog w) A (dictFind d .none hsh) Q E s:=by
 have hv:((Value.none :: (placesWithHash es.size (fun i=>es[i]?.map (·.hash)) hsh).filterMap fun i=>es[i]?.map (·.key)).all carriedByValue)=true:=by
  refine List.all_eq_true.mpr fun v hv=>?_
  rcases List.mem_cons.mp hv with rfl | hv
  ·rfl
  ·obtain⟨i,_,hi⟩:=List.mem_filterMap.mp hv
   obtain⟨e,he,rfl⟩:=Option.map_eq_some_iff.mp hi
   obtain⟨x,t,ek⟩:=hall e (Array.mem_of_getElem? he)
   rw [ek]
   rfl
 unfold dictFind
 try with_reducible refine wpAny_holding ?_
 refine wpAny_bind (wpAny_dictEntries ho hd ?_)
 dsimp only
 rw [if_pos hv]
 unfold dictWalkPlain
 refine wpAny_bind (wpAny_forIn_list _ (fun _ b s'=>s' = s/\b=(none,())) _ ?_ ?_ _ _ ⟨rfl,rfl⟩)
 ·rintro i rest b s' ⟨rfl,rfl⟩
  cases he:es[i]? with
  | none=>exact wpAny_pure ⟨rfl,rfl⟩
  | some e =>
   obtain⟨x,t,ek⟩:=hall e (Array.mem_of_getElem? he)
   dsimp only
   by_cases hh:(e.hash == hsh)=true
   ·rw [if_pos hh,ek]
    refine wpAny_bind (wpAny_dictEpoch ho hd (wpAny_bind (SeqAt.EqAt.str_none x t prog w E _ (wpAny_bind (wpAny_dictEpoch ho hd ?_)))))
    show wpAny _ _ (if (ep != ep)=true then _ else _) _ E _
    rw [if_neg (by simp)]
    exact wpAny_bind (wpAny_rule (wpAny_pure ⟨rfl,rfl⟩))
   ·rw [if_neg hh]
    exact wpAny_pure ⟨rfl,rfl⟩
 ·rintro b s' ⟨rfl,rfl⟩
  exact wpAny_pure h
theorem kn {a:Addr} {o:Obj} {es:Array DictEntry} {ep:Nat} {k:Str} {t:Tok} {D:List (Str × Addr)} {Q:Option Value->Shared->Prop} (ho:s.heap.get? a=some o) (hd:o.data=.dict es ep)
  (hr:KTD.Rows (fun d v=>v=Value.ref d) es.toList D) (ha:KTD.datumAt k D=none) (q:Q none { s with toks:=s.toks+1 }):wpAny (model prog w) A (dictGet a (.str k t)) Q E s:=by
 unfold dictGet
 try with_reducible refine wpAny_holding ?_
 refine wpAny_bind (wpAny_pyHash_str (wpAny_bind (KTD.kt_dictFind_strs (s:={ s with toks:=s.toks+1 }) ho hd (by have:=hr.exact;obtain⟨l⟩:=es;simpa using this) ?_)))
 have hq:Q (findBy (fun k v=>v.isStr k) es k) { s with toks:=s.toks+1 }:=by
  have e:findBy (fun k v=>v.isStr k) es k=none:=by
   rw [<-hr.find_none ha]
   obtain⟨l⟩:=es
   simp [findBy]
  rw [e]
  exact q
 rw [findBy_of_findIdx?] at hq
 cases hi:es.findIdx? fun e=>e.key.isStr k with
 | some i=>rw [hi] at hq;exact wpAny_bind (wpAny_dictEntries (s:={ s with toks:=s.toks+1 }) ho hd (wpAny_pure hq))
 | none=>rw [hi] at hq;exact wpAny_pure hq
theorem nW {R:Addr->Value->Prop} {es:List DictEntry} {D:List (Str × Addr)} (h:KTD.Rows R es D):∀ e ∈ es,∃ x t,e.key=.str x t:=by
 induction h with
 | nil=>exact fun _ h=>nomatch h
 | cons hk _ _ ih =>
  intro e he
  rcases List.mem_cons.mp he with rfl | he
  ·exact⟨_,_,hk⟩
  ·exact ih e he
theorem kS {a:Addr} {o:Obj} {es:Array DictEntry} {ep:Nat} {D:List (Str × Addr)} {Q:Option Value->Shared->Prop} (ho:s.heap.get? a=some o) (hd:o.data=.dict es ep)
  (hr:KTD.Rows (fun d v=>v=Value.ref d) es.toList D) (q:∀ tk,Q none { s with toks:=tk }):wpAny (model prog w) A (dictGet a .none) Q E s:=by
 unfold dictGet
 try with_reducible refine wpAny_holding ?_
 exact wpAny_bind (oW fun n tk=>wpAny_bind (oX (s:={ s with toks:=tk }) ho hd (fun e he=>nW hr e (Array.mem_toList_iff.mpr he)) (wpAny_pure (q tk))))
def tabAt (D:List (Str × Addr)):V->Option (Option Addr)
 | .str x=>some (KTD.datumAt x D)
 | .aO=>some none
 | _=>none
def gH:Option Addr->V
 | some d=>.ref d
 | none=>.aO
theorem oY {a:Addr} {o:Obj} {es:Array DictEntry} {ep:Nat} {D:List (Str × Addr)} {y:V} {u:Value} {r:Option Addr} {Q:Value->Shared->Prop} (ty:s.TypeIs (.ref a) "dict") (hs:(a == sysModules)=false) (ho:s.heap.get? a=some o) (hd:o.data=.dict es ep)
  (hr:KTD.Rows (fun d v=>v=Value.ref d) es.toList D) (ry:RelV y u) (ha:tabAt D y=some r) (q:∀ v tk,RelV (gH r) v->Q v { s with toks:=tk }):wpAny (model prog w) A (call (.builtin "dict.get") [.ref a,u]) Q E s:=by
 refine wpAny_call_entry PySem.F.slot_dict_get ty PySem.F.entry_dict_get ?_ (PySem.F.args_dict_get_2 _ _)
 show wpAny _ _ (dictGet a u >>= _) _ _ s
 cases y with
 | str x =>
  obtain⟨t,rfl⟩:=(show ∃ t,u=Value.str x t from ry)
  cases hx:KTD.datumAt x D with
  | some d =>
   obtain rfl:some d=r:=by simpa [tabAt,hx] using ha
   exact wpAny_bind (oS ho hd hr hx (wpAny_pure ⟨_,rfl,q _ _ rfl⟩))
  | none =>
   obtain rfl:none=r:=by simpa [tabAt,hx] using ha
   refine wpAny_bind (kn ho hd hr hx ?_)
   show wpAny _ _ (Builtin.Dict.missed a _ >>= _) _ _ _
   exact wpAny_bind (wpAny_missed_other hs (wpAny_pure ⟨.none,rfl,q _ _ rfl⟩))
 | aO =>
  cases (show u=Value.none from ry)
  obtain rfl:none=r:=by simpa [tabAt] using ha
  refine wpAny_bind (kS ho hd hr fun tk=>?_)
  show wpAny _ _ (Builtin.Dict.missed a _ >>= _) _ _ _
  exact wpAny_bind (wpAny_missed_other hs (wpAny_pure ⟨.none,rfl,q _ _ rfl⟩))
 | _=>cases ha
end
section
variable {X:Cx}
inductive sO (D:List (Str × Addr)) (ty:TE) (σ : St) (H:Hp) (Q:VK):Prop
 | mk (_:ty σ H fun y H1=>∃ r,tabAt D y=some r/\Q (gH r) H1)
theorem jw {nm:Str} {a:Addr} {D:List (Str × Addr)} {e:Expr} {p apos cpos:Pos} {ty:TE} (G:oR X.K X.mg nm a D) (hs:(a == sysModules)=false) (hg:Gl X nm) (he:PE X e ty) (m:M1 X (.Name nm p) "get" apos e cpos) (hdb:(nm == ("__debug__" : Str))=false:=by decide) :
  PE X (.Call (.Attribute (.Name nm p) "get" apos) [e] [] cpos) (sO D ty):=by
 intro pins s σ H Q I h
 obtain⟨h⟩:=h
 obtain⟨es,ep,hk,hr⟩:=G.lk
 refine wpAny_Call_method m.base m.jt m.line PySem.F.plainAttrs_dict PySem.F.slot_dict_get PySem.F.type_dict_get (aM (gS (v:=.ref a) hg G.uq rfl hdb pins s σ H (fun x H1=>x=.ref a/\ty σ H1 fun y H1=>∃ r,tabAt D y=some r/\Q (gH r) H1) I ⟨rfl,h⟩) fun u s1 ⟨x,H1,I1,rx,ex,q1⟩=>?_)
 subst ex
 obtain rfl:u=Value.ref a:=rx
 have ho1:=I1.cZ a _ hk
 refine⟨⟨_,ho1,rfl⟩,?_,?_⟩
 ·intro b q
  cases q
  exact⟨_,ho1,rfl⟩
 rw [m.trees]
 refine Calls.callWith_builtin rfl (Calls.evalArgs_plain (Calls.spliced_cons (aM (he pins s1 σ H1 _ I1 q1) fun iv s2 ⟨y,H2,I2,ry,r,hy,q2⟩=>Calls.spliced_nil ?_)))
 have ho2:=I2.cZ a _ hk
 exact oY ⟨_,ho2,rfl⟩ hs ho2 rfl hr ry hy fun v tk rv=>⟨gH r,H2,I2.tok tk,rv,q2⟩
end
def bH (c:Nat):Bool:=decide (97<=c) && decide (c<=122)
def dD:PyData->Bool
 | .str x=>(decide (1<=x.length) && decide (x.length<=8)) && (sg x).all bH
 | _=>false
def cL:PyData->Bool
 | .int _=>true
 | _=>false
def bI (d:PyData) (k:Str) (n:Nat):Bool :=
 if k = "name" then dD d else if k = "number" then cL d else match d with
  | .int i=>decide (0<=i) && decide (i < (n:Int))
  | _=>false
def e7:PyData->Bool
 | .str _=>true
 | _=>false
def cI:PyData->Bool
 | .tuple _=>true
 | _=>false
def pW:PyData->Bool
 | .bool _=>true
 | _=>false
def intD:PyData->Bool
 | .int _=>true
 | .bool _=>true
 | _=>false
def cT:PyData->Option Str
 | .tuple (.str x :: _)=>some x
 | _=>none
def bN (x:Str):Option (List Str) :=
 if x = "put" then some ["name", "number"] else if x = "copy" then some ["name", "name"] else if x = "add" then some ["name", "number"] else if x = "read" then some ["name"] else if x = "tell" then some ["name"] else none
def fb (x:Str):Option (List Str) :=
 if x = "stop" then some [] else if x = "go" then some ["piece"] else if x = "less" then some ["name", "number", "piece", "piece"] else if x = "is" then some ["name", "number", "piece", "piece"] else none
def eG:List PyData->List Str->Nat->Bool
 | [],[],_=>true
 | d :: ds,k :: ks,n=>bI d k n && eG ds ks n
 | _,_,_=>false
def i4 (d:PyData) (ks:Option (List Str)) (n:Nat):Bool:=match ks,d with
 | some ks,.tuple (_ :: ds)=>decide (ds.length=ks.length) && eG ds ks n
 | _,_=>false
def bE (d:PyData):Bool:=i4 d ((cT d).bind bN) 0
def cX (d:PyData) (n:Nat):Bool:=i4 d ((cT d).bind fb) n
def bG (d:PyData) (n:Nat):Bool:=match d with
 | .tuple [.tuple ds,e]=>decide (ds.length<=12) && (ds.all bE && cX e n)
 | _=>false
def dX (d:PyData):Bool:=match d with
 | .tuple ps=>(decide (1<=ps.length) && decide (ps.length<=400)) && ps.all fun p=>bG p ps.length
 | _=>false
mutual
def bb:PyData->Bool
 | .str x=>decide (x.length<=1000) && (sg x).all fun c=>decide (c < 0x110000)
 | .tuple ds=>decide (ds.length<=1000) && bU ds
 | .list ds=>decide (ds.length<=1000) && bU ds
 | _=>true
def bU:List PyData->Bool
 | []=>true
 | d :: ds=>bb d && bU ds
end
theorem ba {K:PySem.W.Frag} {H:Hp} {x:V} {d:PyData} (h:aZ H x d):∃ t,de K H x t/\PySem.W.kitOne K t (.type "str")=some (e7 d)/\PySem.W.kitOne K t (.type "int")=some (intD d)/\PySem.W.kitOne K t (.type "bool")=some (pW d)/\PySem.W.kitOne K t (.type "tuple")=some (cI d):=by
 cases h with
 | aO=>exact⟨_,.aO,rfl,rfl,rfl,rfl⟩
 | bl b=>exact⟨_,.bl b,rfl,rfl,rfl,rfl⟩
 | int i=>exact⟨_,.int i,rfl,rfl,rfl,rfl⟩
 | str x=>exact⟨_,.str x,rfl,rfl,rfl,rfl⟩
 | lst e _=>exact⟨_,.lst e,rfl,rfl,rfl,rfl⟩
 | tup e _=>exact⟨_,.tup e,rfl,rfl,rfl,rfl⟩
theorem uc (c:Nat):(!decide ((⟨#[c]⟩:Str).cps.toList < ("a" : Str).cps.toList))=decide (97<=c):=by
 have e:("a" : Str).cps.toList = [97]:=by decide +kernel
 rw [e]
 show (!decide ([c] < [97]))=_
 by_cases h:97<=c
 ·rw [decide_eq_true h,decide_eq_false (by rw [List.cons_lt_cons_iff];simp;omega)];rfl
 ·rw [decide_eq_false h,decide_eq_true (by rw [List.cons_lt_cons_iff];simp;omega)];rfl
theorem ud (c:Nat):(!decide (("z" : Str).cps.toList < (⟨#[c]⟩:Str).cps.toList))=decide (c<=122):=by
 have e:("z" : Str).cps.toList = [122]:=by decide +kernel
 rw [e]
 show (!decide ([122] < [c]))=_
 by_cases h:c<=122
 ·rw [decide_eq_true h,decide_eq_false (by rw [List.cons_lt_cons_iff];simp;omega)];rfl
 ·rw [decide_eq_false h,decide_eq_true (by rw [List.cons_lt_cons_iff];simp;omega)];rfl
theorem ko (d:PyData):cL d=(intD d && !pW d):=by cases d <;> rfl
theorem lY {d:PyData} (h:e7 d=false):dD d=false:=by cases d <;> first | rfl | cases h
theorem oZ {d:PyData} (h:cI d=false):cT d=none:=by cases d <;> first | rfl | cases h
theorem iT {H:Hp} {x:V} {d:PyData} (h:aZ H x d) (e:e7 d=true):∃ y,x=.str y/\d=.str y:=by cases h <;> first | exact⟨_,rfl,rfl⟩ | cases e
theorem cU {H:Hp} {x:V} {d:PyData} (h:aZ H x d) (e:cI d=true):∃ p xs ds,x=.ref p/\d=.tuple ds/\H p=some (.tup xs)/\au H xs ds:=by cases h <;> first | exact⟨_,_,_,rfl,rfl,‹_›,‹_›⟩ | cases e
theorem nX {H:Hp} {x:V} {d:PyData} (h:aZ H x d) (e:cL d=true):∃ i,x=.int i/\d=.int i:=by cases h <;> first | exact⟨_,rfl,rfl⟩ | cases e
inductive eH (vs:List V) (H:Hp) (Q:VK) (_:XK):Prop
 | mk (x:V) (d:PyData) (_:vs = [x]) (_:aZ H x d) (_:Q (.bl (cL d)) H)
inductive fu (vs:List V) (H:Hp) (Q:VK) (_:XK):Prop
 | mk (x:V) (d:PyData) (_:vs = [x]) (_:aZ H x d) (_:bb d=true) (_:∀ H',ae H H'->Q (.bl (dD d)) H')
inductive lZ (vs:List V) (H:Hp) (Q:VK) (_:XK):Prop
 | mk (x:V) (d:PyData) (k:Str) (n:Nat) (_:vs = [x,.str k,.int n]) (_:aZ H x d) (_:bb d=true) (_:∀ H',ae H H'->Q (.bl (bI d k n)) H')
def mL:Option Str->V
 | some x=>.str x
 | none=>.aO
inductive ix (vs:List V) (H:Hp) (Q:VK) (_:XK):Prop
 | mk (x:V) (d:PyData) (_:vs = [x]) (_:aZ H x d) (_:Q (mL (cT d)) H)
inductive eI (K:PySem.W.Frag):V->Option (List Str)->Prop
 | no:eI K .aO none
 | some (a:Addr) (ks:List Str):KTup K a ks->eI K (.ref a) (some ks)
inductive kq (K:PySem.W.Frag) (vs:List V) (H:Hp) (Q:VK) (_:XK):Prop
 | mk (x:V) (d:PyData) (kv:V) (ks:Option (List Str)) (n:Nat) (_:vs = [x,kv,.int n]) (_:aZ H x d) (_:bb d=true) (_:eI K kv ks) (_:(ks ≠ none->∃ d0 ds,d=.tuple (d0 :: ds))) (_:∀ H',ae H H'->Q (.bl (i4 d ks n)) H')
theorem cM:∀ {ds:List PyData} {i:Nat} {d:PyData},bU ds=true->ds[i]? = some d->bb d=true
 | d0 :: ds,0,d,h,e=>by
  simp only [bU,Bool.and_eq_true] at h
  cases e
  exact h.1
 | d0 :: ds,i+1,d,h,e=>by
  simp only [bU,Bool.and_eq_true] at h
  exact cM h.2 (by simpa using e)
def eJ (ds:List PyData) (ks:List Str) (n:Nat):List Bool:=(ds.zip ks).map fun p=>bI p.1 p.2 n
theorem jx:∀ (ds:List PyData) (ks:List Str) (n:Nat),ds.length=ks.length->(eJ ds ks n).all id=eG ds ks n
 | [],[],n,_=>rfl
 | d :: ds,k :: ks,n,h=>by
  show (bI d k n && (eJ ds ks n).all id)=(bI d k n && eG ds ks n)
  rw [jx ds ks n (by simpa using h)]
mutual
theorem aZ.bo {H H':Hp} (f:ae H H'):∀ {x:V} {d:PyData},aZ H x d->aZ H' x d
 | _,_,.aO=>.aO
 | _,_,.bl b=>.bl b
 | _,_,.int i=>.int i
 | _,_,.str x=>.str x
 | _,_,.lst e r=>.lst (f _ _ e) (au.bo f r)
 | _,_,.tup e r=>.tup (f _ _ e) (au.bo f r)
theorem au.bo {H H':Hp} (f:ae H H'):∀ {xs:List V} {ds:List PyData},au H xs ds->au H' xs ds
 | _,_,.nil=>.nil
 | _,_,.cons a r=>.cons (aZ.bo f a) (au.bo f r)
end
theorem qv {K:PySem.W.Frag} {mg:Str->Option Value} {aD d0 d1 d2 d3 d4:Addr} (G:mK K mg aD d0 d1 d2 d3 d4) (o:Option Str):∃ r,tabAt [("put",d0),("copy",d1),("add",d2),("read",d3),("tell",d4)] (mL o)=some r/\eI K (gH r) (o.bind bN):=by
 cases o with
 | none=>exact⟨none,rfl,.no⟩
 | some x =>
  refine⟨_,rfl,?_⟩
  show eI K (gH (KTD.datumAt x [("put",d0),("copy",d1),("add",d2),("read",d3),("tell",d4)])) (bN x)
  unfold bN
  by_cases h0:x = "put"
  ·rw [if_pos h0,h0,cO];exact .some _ _ G.q0
  rw [if_neg h0,cz h0 rfl]
  by_cases h1:x = "copy"
  ·rw [if_pos h1,h1,cO];exact .some _ _ G.q1
  rw [if_neg h1,cz h1 rfl]
  by_cases h2:x = "add"
  ·rw [if_pos h2,h2,cO];exact .some _ _ G.q2
  rw [if_neg h2,cz h2 rfl]
  by_cases h3:x = "read"
  ·rw [if_pos h3,h3,cO];exact .some _ _ G.q3
  rw [if_neg h3,cz h3 rfl]
  by_cases h4:x = "tell"
  ·rw [if_pos h4,h4,cO];exact .some _ _ G.q4
  rw [if_neg h4,cz h4 rfl]
  exact .no
theorem rW {K:PySem.W.Frag} {mg:Str->Option Value} {aE s0 s1 s2 s3:Addr} (G:oU K mg aE s0 s1 s2 s3) (o:Option Str):∃ r,tabAt [("stop",s0),("go",s1),("less",s2),("is",s3)] (mL o)=some r/\eI K (gH r) (o.bind fb):=by
 cases o with
 | none=>exact⟨none,rfl,.no⟩
 | some x =>
  refine⟨_,rfl,?_⟩
  show eI K (gH (KTD.datumAt x [("stop",s0),("go",s1),("less",s2),("is",s3)])) (fb x)
  unfold fb
  by_cases h0:x = "stop"
  ·rw [if_pos h0,h0,cO];exact .some _ _ G.q0
  rw [if_neg h0,cz h0 rfl]
  by_cases h1:x = "go"
  ·rw [if_pos h1,h1,cO];exact .some _ _ G.q1
  rw [if_neg h1,cz h1 rfl]
  by_cases h2:x = "less"
  ·rw [if_pos h2,h2,cO];exact .some _ _ G.q2
  rw [if_neg h2,cz h2 rfl]
  by_cases h3:x = "is"
  ·rw [if_pos h3,h3,cO];exact .some _ _ G.q3
  rw [if_neg h3,cz h3 rfl]
  exact .no
theorem nY {d:PyData} {x:Str} (h:cT d=some x):∃ d0 ds,d=.tuple (d0 :: ds):=by
 unfold cT at h
 split at h
 ·exact⟨_,_,rfl⟩
 ·cases h
theorem jy {d:PyData} {f:Str->Option (List Str)} (h:(cT d).bind f ≠ none):∃ d0 ds,d=.tuple (d0 :: ds):=by
 cases e:cT d with
 | none=>rw [e] at h;exact absurd rfl h
 | some x=>exact nY e
inductive gZ (vs:List V) (H:Hp) (Q:VK) (_:XK):Prop
 | mk (x:V) (d:PyData) (_:vs = [x]) (_:aZ H x d) (_:bb d=true) (_:∀ H',ae H H'->Q (.bl (bE d)) H')
inductive iU (vs:List V) (H:Hp) (Q:VK) (_:XK):Prop
 | mk (x:V) (d:PyData) (n:Nat) (_:vs = [x,.int n]) (_:aZ H x d) (_:bb d=true) (_:∀ H',ae H H'->Q (.bl (cX d n)) H')
inductive kr (vs:List V) (H:Hp) (Q:VK) (_:XK):Prop
 | mk (x:V) (d:PyData) (n:Nat) (_:vs = [x,.int n]) (_:aZ H x d) (_:bb d=true) (_:∀ H',ae H H'->Q (.bl (bG d n)) H')
inductive hG (vs:List V) (H:Hp) (Q:VK) (_:XK):Prop
 | mk (x:V) (d:PyData) (_:vs = [x]) (_:aZ H x d) (_:bb d=true) (_:∀ H',ae H H'->Q (.bl (dX d)) H')
theorem ku {d:PyData} {n:Nat} (h:cI d=false):bG d n=false:=by cases d <;> first | rfl | cases h
theorem jA {ds:List PyData} {n:Nat} (h:¬ ds.length=2):bG (.tuple ds) n=false:=by
 unfold bG
 split
 ·rename_i e;cases e;exact absurd rfl h
 ·rfl
theorem jB {d1 d2:PyData} {n:Nat} (h:cI d1=false):bG (.tuple [d1,d2]) n=false:=by cases d1 <;> first | rfl | cases h
theorem ma {d:PyData} (h:cI d=false):dX d=false:=by cases d <;> first | rfl | cases h
theorem au.d8 {H:Hp} {xs:List V} {ds:List PyData} (r:au H xs ds) (h:bb (.tuple ds)=true):xs.length<=1000/\bU ds=true:=by
 simp only [bb,Bool.and_eq_true] at h
 exact⟨by rw [r.len];exact of_decide_eq_true h.1,h.2⟩
theorem ie {X:Cx} {K:PySem.W.Frag} (hK:X.K=K):da X (.builtin "len") (fun xs H Q=>∃ p ys,xs = [V.ref p]/\(aW K H p ys\/aG K H p ys)/\Q (V.int (ys.length:Nat)) H):=by subst hK;exact ax
theorem me {x:Str} (h:bb (.str x)=true):x.length<=1000/\∀ c ∈ sg x,c < 0x110000:=by
 simp only [bb,Bool.and_eq_true] at h
 exact⟨of_decide_eq_true h.1,fun c hc=>of_decide_eq_true (List.all_eq_true.mp h.2 c hc)⟩
theorem mM (c:Nat):(!(Builtin.Str.occurrences ("abcdefghijklmnopqrstuvwxyz" : Str) ⟨#[c]⟩ 0 ("abcdefghijklmnopqrstuvwxyz" : Str).length 1).isEmpty)=bH c:=by
 rw [PySem.StrLaws.found_one]
 have e:("abcdefghijklmnopqrstuvwxyz" : Str).cps.toList = [97,98,99,100,101,102,103,104,105,106,107,108,109,110,111,112,113,114,115,116,117,118,119,120,121,122]:=by decide +kernel
 rw [e]
 unfold bH
 by_cases h:97<=c/\c<=122
 ·rw [decide_eq_true h.1,decide_eq_true h.2]
  refine decide_eq_true ?_
  obtain⟨h1,h2⟩:=h
  simp
  omega
 ·rw [decide_eq_false (fun z=>h (by simp at z;omega))]
  by_cases h1:97<=c
  ·rw [decide_eq_true h1,decide_eq_false (fun z=>h ⟨h1,z⟩)];rfl
  ·rw [decide_eq_false h1];rfl
theorem mN (l:List Nat):(l.filter fun c=>!bH c).isEmpty=l.all bH:=by
 induction l with
 | nil=>rfl
 | cons c l ih =>
  cases h:bH c with
  | true=>rw [List.filter_cons_of_neg (by simp [h]),List.all_cons,h,Bool.true_and];exact ih
  | false=>rw [List.filter_cons_of_pos (by simp [h]),List.all_cons,h,Bool.false_and];rfl
theorem rX:bN "put" = some (["name", "number"]:List Str):=by decide +kernel
theorem qw:bN "copy" = some (["name", "name"]:List Str):=by decide +kernel
theorem rY:bN "add" = some (["name", "number"]:List Str):=by decide +kernel
theorem qx:bN "read" = some (["name"]:List Str):=by decide +kernel
theorem qy:bN "tell" = some (["name"]:List Str):=by decide +kernel
theorem sP {x:Str} (h0:¬ x = "put") (h1:¬ x = "copy") (h2:¬ x = "add") (h3:¬ x = "read") (h4:¬ x = "tell"):bN x=none:=by
 unfold bN
 rw [if_neg h0,if_neg h1,if_neg h2,if_neg h3,if_neg h4]
theorem d9 (d:PyData) (n:Nat):bI d "name" n=dD d:=if_pos rfl
theorem mf (d:PyData) (n:Nat):bI d "number" n=cL d:=by
 unfold bI
 rw [if_neg (by decide +kernel),if_pos rfl]
theorem dt (x:Str) (ds:List PyData):bE (.tuple (.str x :: ds))=(match bN x with | some ks=>decide (ds.length=ks.length) && eG ds ks 0 | none=>false):=by
 show i4 (.tuple (.str x :: ds)) (bN x) 0=_
 cases bN x <;> rfl
theorem qA {d:PyData} (h:cI d=false):bE d=false:=by cases d <;> first | rfl | cases h
theorem kx {d:PyData} {ds:List PyData} (h:e7 d=false):bE (.tuple (d :: ds))=false:=by cases d <;> first | rfl | cases h
theorem mh {x:Str} {ks:List Str} (h:bN x=some ks):∃ k2,ks=("name" : Str) :: k2:=by
 unfold bN at h
 repeat (first | (split at h;· cases h;exact⟨_,rfl⟩) | cases h)
theorem o1 {ds:List PyData} (h:ds.length < 2):bE (.tuple ds)=false:=by
 rcases ds with _ | ⟨d0,_ | ⟨d1,ds⟩⟩
 ·rfl
 ·cases e:e7 d0 with
  | false=>exact kx e
  | true =>
   cases d0 with
   | str x =>
    rw [dt]
    cases hk:bN x with
    | none=>rfl
    | some ks=>obtain⟨k2,rfl⟩:=mh hk;rfl
   | _=>cases e
 ·exact absurd h (by rw [List.length_cons,List.length_cons];omega)
theorem o2 {x:Str} {d:PyData} {ds:List PyData} (h:dD d=false):bE (.tuple (.str x :: d :: ds))=false:=by
 rw [dt]
 cases hk:bN x with
 | none=>rfl
 | some ks =>
  obtain⟨k2,rfl⟩:=mh hk
  show (_ && (bI d "name" 0 && _))=false
  rw [d9,h,Bool.false_and,Bool.and_false]
theorem i5 {x:Str} {d:PyData} {ds:List PyData} (hx:x = "read" \/ x = "tell") (h:dD d=true):bE (.tuple (.str x :: d :: ds))=decide (ds.length=0):=by
 have hk:bN x=some (["name"]:List Str):=by rcases hx with rfl | rfl;exact qx;exact qy
 rw [dt,hk]
 cases ds with
 | nil=>show (true && (bI d "name" 0 && true))=true;rw [d9,h];rfl
 | cons d2 ds=>simp
theorem o3 {x:Str} {d:PyData} {ds:List PyData} (hx:¬ (x = "read" \/ x = "tell")) (h:¬ ds.length=1):bE (.tuple (.str x :: d :: ds))=false:=by
 rw [dt]
 cases hk:bN x with
 | none=>rfl
 | some ks =>
  have hl:ks.length=2:=by
   unfold bN at hk
   split at hk;· cases hk;rfl
   split at hk;· cases hk;rfl
   split at hk;· cases hk;rfl
   split at hk;· rename_i z;exact absurd (.inl z) hx
   split at hk;· rename_i z;exact absurd (.inr z) hx
   cases hk
  show (decide ((d :: ds).length=ks.length) && _)=false
  rw [decide_eq_false (by rw [List.length_cons,hl];omega),Bool.false_and]
theorem jC {d e:PyData} (h:dD d=true):bE (.tuple [.str "copy",d,e])=dD e:=by
 rw [dt,qw]
 show (true && (bI d "name" 0 && (bI e "name" 0 && true)))=_
 rw [d9,d9,h,Bool.and_true];rfl
theorem i6 {x:Str} {d e:PyData} (hx:x = "put" \/ x = "add") (h:dD d=true):bE (.tuple [.str x,d,e])=cL e:=by
 have hk:bN x=some (["name", "number"]:List Str):=by rcases hx with rfl | rfl;exact rX;exact rY
 rw [dt,hk]
 show (true && (bI d "name" 0 && (bI e "number" 0 && true)))=_
 rw [d9,mf,h,Bool.and_true];rfl
theorem o4 {x:Str} {ds:List PyData} (h1:¬ (x = "read" \/ x = "tell")) (h2:¬ x = "copy") (h3:¬ (x = "put" \/ x = "add")):bE (.tuple (.str x :: ds))=false:=by
 rw [dt,sP (fun z=>h3 (.inl z)) h2 (fun z=>h3 (.inr z)) (fun z=>h1 (.inl z)) fun z=>h1 (.inr z)]
theorem iV (x a b:Str):j6 (.str x) [.str a,.str b] = decide (x=a\/x=b):=by
 show (a == x || (b == x || false))=_
 by_cases h1:x=a
 ·rw [decide_eq_true (.inl h1),h1,beq_self_eq_true];rfl
 ·by_cases h2:x=b
  ·rw [decide_eq_true (.inr h2),h2,beq_self_eq_true,Bool.or_comm];rfl
  ·rw [decide_eq_false (fun z=>z.elim h1 h2),beq_eq_false_iff_ne.mpr (Ne.symm h1),beq_eq_false_iff_ne.mpr (Ne.symm h2)];rfl
theorem iy:fillsNumberSlot (.type "tuple") "mul" = pure false :=
 PySem.fillsNumberSlot_seq (id := "tuple.__mul__") (r:=some (.builtin "tuple.__rmul__")) F.slot_tuple_mul.lookup (by decide +kernel) F.slot_tuple_rmul.lookup (by decide +kernel)
theorem ky:seqRepeat? (.type "tuple")=pure (some (.builtin "tuple.__mul__")):=by
 unfold seqRepeat?
 rw [PySem.seqSlot_of (T := "tuple") (name := "__mul__") (id := "tuple.__mul__") F.slot_tuple_mul.lookup (by decide +kernel),PySem.seqSlot_of (T := "tuple") (name := "__rmul__") (id := "tuple.__rmul__") F.slot_tuple_rmul.lookup (by decide +kernel)]
 rfl
theorem o5 (a:Int) (t:Tok) (l:Addr) (items:Array Value) (n:Nat) (dd:Option Addr) (sl:Array (Option Value)) :
  Meets (Builtin.«int.__rmul__» ⟨[.int a t,.ref l],[]⟩) (fun _ R s=>s.heap.get? l=some { cls:=.type "tuple",dict:=dd,data:=.seq items n,slots:=sl }/\R (.ok (.ret Value.notImplemented)) s) :=
 .of_wp fun prog w A R s h=>by obtain⟨hp,g,d,tk,os⟩:=s;obtain⟨hl,h⟩:=h;wp_walk;exact⟨_,rfl,h⟩
theorem o6 (t:Tok) (l:Addr) (items:Array Value) (n:Nat) (dd:Option Addr) (sl:Array (Option Value)) :
  Meets (Builtin.«tuple.__mul__» ⟨[.ref l,.int 1 t],[]⟩) (fun _ R s=>s.heap.get? l=some { cls:=.type "tuple",dict:=dd,data:=.seq items n,slots:=sl }/\R (.ok (.ret (.ref l))) s) :=
 .of_wp fun prog w A R s h=>by obtain⟨hp,g,d,tk,os⟩:=s;obtain⟨hl,h⟩:=h;wp_walk;exact⟨_,rfl,h⟩
theorem o7 (k:Int) (t:Tok) (l:Addr) (items:Array Value) (n:Nat) (dd:Option Addr) (sl:Array (Option Value)) (hA:¬ (decide (k < -(2 ^ 63)) || decide (k >= 2 ^ 63))=true) (hB:¬ (items.isEmpty || k == 1)=true) (hC:(decide (k<=0) || items.isEmpty)=true) :
  Meets (Builtin.«tuple.__mul__» ⟨[.ref l,.int k t],[]⟩) (fun _ R s=>s.heap.get? l=some { cls:=.type "tuple",dict:=dd,data:=.seq items n,slots:=sl }/\R (.ok (.ret (Value.ref s.heap.objs.size))) { s with heap:=s.heap.push { cls:=Value.type "tuple",data:=Data.seq #[] },toks:=s.toks }) :=
 .of_wp fun prog w A R s h=>by obtain⟨hp,g,d,tk,os⟩:=s;obtain⟨hl,h⟩:=h;wp_walk;(rw [if_neg hA]);wp_walk;exact⟨_,rfl,h⟩
theorem o8 (k:Int) (t:Tok) (l:Addr) (items:Array Value) (n:Nat) (dd:Option Addr) (sl:Array (Option Value)) (hA:¬ (decide (k < -(2 ^ 63)) || decide (k >= 2 ^ 63))=true) (hB:¬ (items.isEmpty || k == 1)=true) (hC:¬ (decide (k<=0) || items.isEmpty)=true)
  (hD:¬ (items.size:Int) * k > (2 ^ 63 - 1) / 8) (hE:¬ Builtin.Tuple.tupleTooMany ((items.size:Int) * k)=true) (hF:¬ ((List.replicate k.toNat items).foldl (· ++ ·) #[]).size > sizeLine) :
  Meets (Builtin.«tuple.__mul__» ⟨[.ref l,.int k t],[]⟩) (fun _ R s=>s.heap.get? l=some { cls:=.type "tuple",dict:=dd,data:=.seq items n,slots:=sl }/\R (.ok (.ret (Value.ref s.heap.objs.size))) { s with heap:=s.heap.push { cls:=Value.type "tuple",data:=Data.seq ((List.replicate k.toNat items).foldl (· ++ ·) #[]) },toks:=s.toks }) :=
 .of_wp fun prog w A R s h=>by obtain⟨hp,g,d,tk,os⟩:=s;obtain⟨hl,h⟩:=h;wp_walk;(rw [if_neg hA]);wp_walk;(rw [if_neg hD]);wp_walk;exact⟨_,rfl,h⟩
section
variable {X:Cx}
inductive sQ  (x:V) (y:V) (H:Hp) (Q:VK):Prop
 | mk (l k xs:_) (_:x=.ref l) (_:y=.int k) (_:H l=some (.tup xs)) (_:xs ≠ []) (_:k < 2 ^ 20) (_:0<=k) (_:xs.length<=3) (_:∀ p H',H' p=some (.tup (List.replicate k.toNat xs).flatten)->ae H H'->Q (.ref p) H')
theorem qB:bW X (binaryOp .Mult) sQ:=by
 intro pins s σ H x y v u Q I rx ry h
 obtain⟨l,k,xs,rfl,rfl,hH,hne,h1,h0,hx3,q⟩:=h
 cases rx
 obtain⟨t,rfl⟩:=ry
 obtain⟨its,r,p1,_⟩:=I.tuple (aG.of hH)
 obtain⟨⟨cls,dd,data,sl⟩,e,hc,n,hd⟩:=id p1
 simp only at hc hd
 subst hc hd
 have hl:=r.length
 have hne':its ≠ []:=fun z=>hne (r.gX.mp z)
 have hem:its.toArray.isEmpty=false:=by cases its with | nil=>exact absurd rfl hne' | cons a b=>rfl
 have hA:¬ (decide (k < -(2 ^ 63)) || decide (k >= 2 ^ 63))=true:=by
  rw [decide_eq_false (by omega),decide_eq_false (by omega)];decide
 refine wpAny_binaryOp_repeat_ref (T := "tuple") (U := "int") (by decide) ⟨_,e,rfl⟩ (fun s'=>typeIs_int s' k t) iy F.fills_int_mul F.slot_int_rmul ky F.slot_int_index.lookup
  (call_meets F.slot_int_rmul (typeIs_int s k t) F.entry_int_rmul (F.args_int_rmul_2 _ _) (o5 k t l its.toArray n dd sl)
   ⟨e,rfl,⟨_,e,rfl⟩,?_⟩)
 have fr:=I.aK.fresh (a:=s.heap.objs.size) (Nat.le_refl _)
 by_cases hk1:k=1
 ·subst hk1
  refine call_meets F.slot_tuple_mul ⟨_,e,rfl⟩ F.entry_tuple_mul (F.args_tuple_mul_2 _ _) (o6 t l its.toArray n dd sl) ⟨e,?_⟩
  refine⟨.ref l,H,I,rfl,q l H ?_ (ae.refl H)⟩
  rw [hH]
  show some (HO.tup xs)=some (HO.tup (List.replicate 1 xs).flatten)
  simp
 have hB:¬ (its.toArray.isEmpty || k == 1)=true:=by rw [hem,beq_false_of_ne hk1];decide
 by_cases hk0:k<=0
 ·have hC:(decide (k<=0) || its.toArray.isEmpty)=true:=by rw [decide_eq_true hk0];rfl
  refine call_meets F.slot_tuple_mul ⟨_,e,rfl⟩ F.entry_tuple_mul (F.args_tuple_mul_2 _ _) (o7 k t l its.toArray n dd sl hA hB hC) ⟨e,?_⟩
  have hk:k.toNat=0:=by omega
  rw [hk] at q
  refine⟨.ref s.heap.objs.size,_,I.laid (t':=s.toks) (o:=.tup []) (fun b ob q=>Heap.get?_push_of_some _ q) (Nat.le_refl _) ?_,rfl,q _ _ ab (ae.new fr)⟩
  exact⟨Nat.zero_le _,[],.nil,⟨_,Heap.get?_push_size _ rfl,rfl,_,rfl,rfl⟩⟩
 ·have hC:¬ (decide (k<=0) || its.toArray.isEmpty)=true:=by rw [decide_eq_false hk0,hem];decide
  have hi3:its.toArray.size<=3:=by rw [List.size_toArray];omega
  have hm:(its.toArray.size:Int) * k<=3 * 2 ^ 20:=by
   have h2:(its.toArray.size:Int) * k<=3 * k:=Int.mul_le_mul_of_nonneg_right (by omega) h0
   omega
  have hD:¬ (its.toArray.size:Int) * k > (2 ^ 63 - 1) / 8:=by
   have:(3 * 2 ^ 20:Int)<=(2 ^ 63 - 1) / 8:=by decide
   omega
  have hE:¬ Builtin.Tuple.tupleTooMany ((its.toArray.size:Int) * k)=true:=by
   unfold Builtin.Tuple.tupleTooMany
   have:(3 * 2 ^ 20:Int)<=(sizeLine:Int):=by decide
   rw [decide_eq_false (by omega)];decide
  have hnew:List.foldl (fun x1 x2=>x1++x2) #[] (List.replicate k.toNat its.toArray)=(List.replicate k.toNat its).flatten.toArray:=by
   have:=foldl_rep its k.toNat []
   rw [List.nil_append] at this
   exact this
  have h3':k.toNat * its.length<=2 ^ 20 * 3:=Nat.mul_le_mul (by omega) (by omega)
  have hF:¬ ((List.replicate k.toNat its.toArray).foldl (· ++ ·) #[]).size > sizeLine:=by
   rw [hnew,List.size_toArray,len_rep]
   have:2 ^ 20 * 3<=sizeLine:=by decide
   omega
  refine call_meets F.slot_tuple_mul ⟨_,e,rfl⟩ F.entry_tuple_mul (F.args_tuple_mul_2 _ _) (o8 k t l its.toArray n dd sl hA hB hC hD hE hF) ⟨e,?_⟩
  rw [hnew]
  refine⟨.ref s.heap.objs.size,_,I.laid (t':=s.toks) (o:=.tup (List.replicate k.toNat xs).flatten) (fun b ob q=>Heap.get?_push_of_some _ q) (Nat.le_refl _) ?_,rfl,q _ _ ab (ae.new fr)⟩
  refine⟨?_,_,r.rep k.toNat,⟨_,Heap.get?_push_size _ rfl,rfl,_,rfl,rfl⟩⟩
  rw [len_rep]
  have h3:k.toNat * xs.length<=2 ^ 20 * 3:=Nat.mul_le_mul (by omega) hx3
  exact Nat.le_trans h3 (by decide)
end
@[irreducible] def cn (X:Cx) (e:Expr) (t:TE):Prop:=PE X e t
@[irreducible] def fw (X:Cx) (e:List Expr) (t:TA):Prop:=PA X e t
@[irreducible] def gI (X:Cx) (e:Stmt) (t:TS):Prop:=PS X e t
@[irreducible] def fc (X:Cx) (e:List Stmt) (t:TS):Prop:=eg X e t
section
variable {X:Cx} {e a b o:Expr} {es:List Expr} {st:Stmt} {rest:List Stmt} {te ta tb to:TE} {t:TA} {u v:TS} {pos:Pos}
theorem cn.mk (h:PE X e te):cn X e te:=by unfold cn;exact h
theorem cn.out (h:cn X e te):PE X e te:=by unfold cn at h;exact h
theorem fw.mk (h:PA X es t):fw X es t:=by unfold fw;exact h
theorem fw.out (h:fw X es t):PA X es t:=by unfold fw at h;exact h
theorem gI.mk (h:PS X st u):gI X st u:=by unfold gI;exact h
theorem gI.out (h:gI X st u):PS X st u:=by unfold gI at h;exact h
theorem fc.mk (h:eg X rest u):fc X rest u:=by unfold fc;exact h
theorem fc.out (h:fc X rest u):eg X rest u:=by unfold fc at h;exact h
theorem gJ (h:gI X st u) (r:fc X rest v):fc X (st :: rest) (qV u v):=.mk (af h.out r.out)
theorem o9 (h:gI X st u):fc X [st] u:=.mk (ah h.out)
theorem pd (he:cn X e te) (hs:swapsWith e none pos.line X.env=pure false:=by rfl):gI X (.Expr e pos) (pG te):=.mk (iY he.out hs)
theorem qC (he:cn X e te):gI X (.Return (some e) pos) (qW te):=.mk (ao he.out)
theorem nZ {i:Nat} {x:Str} {pos':Pos} (hN:X.N.Nodup) (he:cn X e te) (hi:X.N[i]? = some x:=by rfl) (hx:Loc X.env.scope x:=by first | exact Or.inl rfl | exact Or.inr rfl) (hs:swapsWith e (some (.Name x pos')) pos.line X.env=pure false:=by rfl) (hf:X.fn x=true\/X.env.scope.names.lookup x=some .local:=by first | exact .inl rfl | exact .inr rfl | assumption) :
  gI X (.Assign [.Name x pos'] e pos) (jY te (fE i)):=.mk (bw hN he.out hi hx hs hf)
theorem eM {op:Operator} {r:R2} (ho:bW X (binaryOp op) r) (ha:cn X a ta) (hb:cn X b tb):cn X (.BinOp a op b pos) (j0 r ta tb):=.mk (aL ho ha.out hb.out)
theorem rZ {op:UnaryOp} {r:V->Hp->VK->Prop} (ho:pI X (unaryOp op) r) (ha:cn X a ta):cn X (.UnaryOp op a pos) (sW r ta):=.mk (sy ho ha.out)
theorem i7 (h:fw X es t):cn X (.List es pos) (rh t):=.mk (cf h.out)
theorem hJ {x1} (h:fw X es t):cn X (.Tuple es x1 pos) (rg t):=.mk (cu h.out)
theorem cP:fw X [] j3:=.mk cA
theorem aB (h:cn X e te) (r:fw X es t) (hs:starEach (e :: es) X.env=(false,eval e X.env) :: starEach es X.env:=by rfl):fw X (e :: es) (eU te t):=.mk (bt h.out r.out hs)
theorem cx {i j pos}:cn X (.Constant (.int i) j pos) (tC (.int i)):=.mk aa
theorem n4 {b j pos}:cn X (.Constant (.bool b) j pos) (tC (.bl b)):=.mk br
theorem qD {j pos}:cn X (.Constant .none j pos) (tC .aO):=.mk m9
theorem bx {x j pos}:cn X (.Constant (.str x) j pos) (tC (.str x)):=.mk aQ
theorem mi (i:Nat) {x:Str} {pos:Pos} (hN:X.N[i]? = some x:=by rfl) (hv:pE X.env.scope x:=by first | exact Or.inl rfl | exact Or.inr (Or.inl rfl) | exact Or.inr (Or.inr rfl)) (hd:(x == ("__debug__" : Str))=false:=by decide)
  (hcd:(x == ("__classdict__" : Str))=false:=by decide):cn X (.Name x pos) (oq i):=.mk (pv i hN hv hd hcd)
theorem qE {r:R2} (hr:lJ X r) (ha:cn X a ta) (hb:cn X b tb) (hs:i0 b:=by exact fun _ _=>rfl):cn X (.Subscript a b pos) (j0 r ta tb):=.mk (aN hr ha.out hb.out hs)
theorem sd {x:Str} {k m:Nat} {ps:List Str} {sp:Sp} {p:Pos} (o:Own X.prog X.w X.K X.mg X.base x k ps sp) (hr:b7 m X.A) (ha:fw X (e :: es) t) (hk:k<=m:=by decide) (hg:Gl X x:=by rfl)
  (hdb:(x == ("__debug__" : Str))=false:=by decide) (he:starEach (e :: es) X.env=(false,eval e X.env) :: starEach es X.env:=by rfl) (hpl:(backTo pos (starEach es X.env)).any (·.1)=false:=by rfl):cn X (.Call (.Name x p) (e :: es) [] pos) (jK sp [] E0 t):=.mk (av o hr ha.out hk hg hdb he hpl)
theorem se {name:Str} {apos cpos:Pos} {T id:String} {r:V->List V->Hp->VK->Prop} (pa:PlainAttrs T) (slot:Slot T name id) (hty:typeOf (.builtin id)=pure (.type "method_descriptor")) (hm:rA X id r) (ho:cn X o to) (ha:fw X (e :: es) t)
  (hbase:attributeBase o name X.env (eval o X.env)=eval o X.env:=by rfl)
  (hfew:((backTo cpos (starEach (e :: es) X.env)).all (fun x=>!x.1) && (backToKw cpos (keywordEach [] X.env)).all (fun x=>x.1.isSome)
   && decide ((e :: es).length+([]:List Keyword).length+(if ([]:List Keyword).isEmpty then 0 else 1) < 30))=true:=by rfl)
  (hline:(apos.endLine == cpos.line)=true:=by rfl) (hs:starEach (e :: es) X.env=(false,eval e X.env) :: starEach es X.env:=by rfl) (hplain:(backTo cpos (starEach es X.env)).any (·.1)=false:=by rfl) :
  cn X (.Call (.Attribute o name apos) (e :: es) [] cpos) (tf X.K T r to t):=.mk (iM pa slot hty hm ho.out ha.out hbase hfew hline hs hplain)
end
section
variable {P:Program} {w:World} {K:PySem.W.Frag} {mg:Str->Option Value} {base:Heap}
theorem bZ.ur {x qual:Str} {st:Stmt} {f:Addr} {fd:FuncData} {N ps:List Str} {k:Nat} {sp:Sp} (F:bZ K x qual st f fd) (S:aP N ps (ar st)) (len:∀ vs H Q E,sp vs H Q E->vs.length=ps.length)
  (hbody:∀ (cdv:Value) (A:Around) (outer:List Env) (s:Shared) (H:Hp) (vs:List V) (Q:VK) (E:XK),b7 k (A.deeper (envOfC qual (ar st) s.heap.objs.size f cdv))->sp vs H Q E ->
   ∃ t,fc (ip bS P w K mg base N qual (ar st) f cdv A outer s H E).ng (b4 st) t/\t { nx:=fun _ H'=>Q .aO H',rt:=Q } (start N vs) H):bg P w K mg base bS (k+1) f fd ps sp :=
 F.ok S len fun cdv A outer s H vs Q E hr h=>by
  obtain⟨t,h1,h2⟩:=hbody cdv A outer s H vs Q E hr h
  exact⟨t,h1.out,h2⟩
end
section
variable {X:Cx}
inductive qF (K:PySem.W.Frag) (x:V) (y:V) (H:Hp) (Q:VK):Prop
 | mk (p q:Addr) (xs:List V) (_:x=.ref p) (_:y=.ref q) (_:aG K H p xs) (_:aG K H q []) (_:Q (.bl xs.isEmpty) H)
theorem jD (hu:X.A.units+64 < cLine):bW X (compareOp .Eq) (qF X.K):=by
 intro pins s σ H x y v u Q I rx ry h
 obtain⟨p,q,xs,rfl,rfl,hp,hq,k⟩:=h
 cases rx
 cases ry
 obtain⟨its,r1,p1,_⟩:=I.tuple hp
 obtain⟨its2,r2,p2,_⟩:=I.tuple hq
 cases r2
 have hl:=r1.length
 refine SeqAt.eq_tupleAt (e:=fun _=>true) p1 p2 (by omega) (fun j h1 h2=>absurd h2 (Nat.not_lt_zero j)) ⟨.bl xs.isEmpty,H,I,?_,k⟩
 cases xs with
 | nil =>
  have e:its = []:=List.length_eq_zero_iff.mp hl.symm
  subst e
  rfl
 | cons x xs =>
  cases its with
  | nil=>cases hl
  | cons i its=>rfl
inductive sR (x:V) (lo:Option Int) (hi:Option Int) (H:Hp) (Q:VK):Prop
 | mk (a:Addr) (xs:List V) (_:x=.ref a) (_:H a=some (.tup xs)) (_:∀ p H',H' p=some (.tup (cH xs lo hi))->ae H H'->Q (.ref p) H')
theorem b9:pK X sR:=by
 intro pins s σ H x v vl vu lo hi sl Q I rx hs pl pu h
 obtain⟨a,xs,rfl,hx,q⟩:=h
 refine lW pins s σ H _ v vl vu lo hi sl Q I rx hs pl pu ⟨a,xs,rfl,aG.of hx,fun hw=>q a H ?_ (ae.refl H),fun _ p np=>q p _ ab (ae.new np)⟩
 rw [hx]
 unfold cH
 rw [hw.1,hw.2,List.drop_zero,Nat.sub_zero,List.take_length]
end
theorem fz {xs:List V} {k:Nat} (h:k<=xs.length):cH xs none (some (k:Int))=xs.take k:=by
 unfold cH
 rw [HT.gW,HT.j5,Nat.min_eq_left h]
 rfl
theorem du {xs:List V} {k:Nat} (h:k<=xs.length):cH xs (some (k:Int)) none=xs.drop k:=by
 unfold cH
 rw [HT.gW,HT.j5,Nat.min_eq_left h]
 exact List.take_of_length_le (by rw [List.length_drop];omega)
theorem pe {xs:List V} {k:Nat} (h:k < xs.length):cH xs (some (k:Int)) (some ((k+1:Nat):Int))=(xs.drop k).take 1:=by
 unfold cH
 rw [HT.gW,HT.gW,Nat.min_eq_left (by omega),Nat.min_eq_left (by omega)]
 congr 1
 omega
def fA (x:Str):Nat:=if x = "stop" then 1 else if x = "go" then 2 else if x = "less" then 5 else if x = "is" then 5 else 0
def eY (d:PyData) (n:Nat):Bool:=bI d "piece" n
theorem i8 (x:Str):(fb x=none/\fA x=0)\/(∃ ks,fb x=some ks/\fA x=ks.length+1/\(ks = []\/ks=(["piece"]:List Str)\/ks=(["name", "number", "piece", "piece"]:List Str))):=by
 unfold fb fA
 by_cases h0:x = "stop"
 ·rw [if_pos h0,if_pos h0];exact .inr ⟨_,rfl,rfl,.inl rfl⟩
 rw [if_neg h0,if_neg h0]
 by_cases h1:x = "go"
 ·rw [if_pos h1,if_pos h1];exact .inr ⟨_,rfl,rfl,.inr (.inl rfl)⟩
 rw [if_neg h1,if_neg h1]
 by_cases h2:x = "less"
 ·rw [if_pos h2,if_pos h2];exact .inr ⟨_,rfl,rfl,.inr (.inr rfl)⟩
 rw [if_neg h2,if_neg h2]
 by_cases h3:x = "is"
 ·rw [if_pos h3,if_pos h3];exact .inr ⟨_,rfl,rfl,.inr (.inr rfl)⟩
 rw [if_neg h3,if_neg h3]
 exact .inl ⟨rfl,rfl⟩
theorem kA (x:Str) (ds:List PyData) (n:Nat):cX (.tuple (.str x :: ds)) n=(match fb x with | some ks=>decide (ds.length=ks.length) && eG ds ks n | none=>false):=by
 show i4 (.tuple (.str x :: ds)) (fb x) n=_
 cases fb x <;> rfl
theorem sf {d:PyData} {n:Nat} (h:cI d=false):cX d n=false:=by cases d <;> first | rfl | cases h
theorem qG {d:PyData} {ds:List PyData} {n:Nat} (h:e7 d=false):cX (.tuple (d :: ds)) n=false:=by cases d <;> first | rfl | cases h
theorem qH {x:Str} {ds:List PyData} {n:Nat} (h:¬ fA x=ds.length+1):cX (.tuple (.str x :: ds)) n=false:=by
 rw [kA]
 rcases i8 x with ⟨e,_⟩ | ⟨ks,e,hs,_⟩
 ·rw [e]
 ·rw [e]
  show (decide (ds.length=ks.length) && _)=false
  rw [decide_eq_false (by omega),Bool.false_and]
theorem kB {x:Str} {d1 d2 d3 d4:PyData} {n:Nat} (h:fA x=5):cX (.tuple [.str x,d1,d2,d3,d4]) n=((dD d1 && cL d2) && [d3,d4].all fun d=>eY d n):=by
 rw [kA]
 rcases i8 x with ⟨e,hs⟩ | ⟨ks,e,hs,rfl | rfl | rfl⟩
 ·omega
 ·simp at hs;omega
 ·simp at hs;omega
 ·rw [e]
  show (true && (bI d1 "name" n && (bI d2 "number" n && (bI d3 "piece" n && (bI d4 "piece" n && true)))))=_
  rw [d9,mf,Bool.true_and,Bool.and_assoc]
  rfl
theorem iz {x:Str} {ds:List PyData} {n:Nat} (h:fA x=ds.length+1) (h5:¬ ds.length+1=5):cX (.tuple (.str x :: ds)) n=ds.all fun d=>eY d n:=by
 rw [kA]
 rcases i8 x with ⟨e,hs⟩ | ⟨ks,e,hs,rfl | rfl | rfl⟩
 ·omega
 ·rw [e]
  obtain rfl:ds = []:=List.length_eq_zero_iff.mp (by simp at hs;omega)
  rfl
 ·rw [e]
  obtain⟨d,rfl⟩:∃ d,ds = [d]:=List.length_eq_one_iff.mp (by simp at hs;omega)
  show (true && (bI d "piece" n && true))=(eY d n && true)
  rfl
 ·simp at hs;omega
theorem iA (d:PyData) (n:Nat):eY d n=(match d with | .int i=>decide (0<=i) && decide (i < (n:Int)) | _=>false):=by
 unfold eY bI
 rw [if_neg (by decide +kernel),if_neg (by decide +kernel)]
 all_goals (cases d <;> rfl)
theorem n5 {d:PyData} {n:Nat} (h:cL d=false):eY d n=false:=by
 rw [iA]
 cases d <;> first | rfl | cases h
def tu:List (Key × V):=cB [] [((Sum.inr ("stop" : Str):Key),V.int 1),(Sum.inr ("go" : Str),V.int 2),(Sum.inr ("less" : Str),V.int 5),(Sum.inr ("is" : Str),V.int 5)]
theorem qI (x:Str):(dG tu (Sum.inr x:Key)).getD (.int 0)=.int (fA x:Nat):=by
 have e:tu = [((Sum.inr ("stop" : Str):Key),V.int 1),(Sum.inr ("go" : Str),V.int 2),(Sum.inr ("less" : Str),V.int 5),(Sum.inr ("is" : Str),V.int 5)]:=by rfl
 rw [e]
 unfold fA
 by_cases h0:x = "stop"
 ·rw [if_pos h0,h0];rfl
 by_cases h1:x = "go"
 ·rw [if_neg h0,if_pos h1,h1];rfl
 by_cases h2:x = "less"
 ·rw [if_neg h0,if_neg h1,if_pos h2,h2];rfl
 by_cases h3:x = "is"
 ·rw [if_neg h0,if_neg h1,if_neg h2,if_pos h3,h3];rfl
 rw [if_neg h0,if_neg h1,if_neg h2,if_neg h3]
 rw [dq (fun z=>h0 (Sum.inr.inj z).symm),dq (fun z=>h1 (Sum.inr.inj z).symm),dq (fun z=>h2 (Sum.inr.inj z).symm),dq (fun z=>h3 (Sum.inr.inj z).symm)]
 rfl
theorem iB {ds:List PyData} (h:¬ (1<=ds.length/\ds.length<=400)):dX (.tuple ds)=false:=by
 show ((decide (1<=ds.length) && decide (ds.length<=400)) && _)=false
 by_cases h1:1<=ds.length
 ·rw [decide_eq_false (fun z=>h ⟨h1,z⟩),Bool.and_false,Bool.false_and]
 ·rw [decide_eq_false h1];rfl
theorem mj {ds:List PyData} (h:1<=ds.length/\ds.length<=400):dX (.tuple ds)=ds.all fun p=>bG p ds.length:=by
 show ((decide (1<=ds.length) && decide (ds.length<=400)) && _)=_
 rw [decide_eq_true h.1,decide_eq_true h.2]
 rfl
theorem gK {ds:List PyData} {f:PyData->Bool} {i:Nat} {d:PyData} (h:ds[i]? = some d) (e:f d=false):ds.all f=false:=by
 rw [List.all_eq_false]
 exact⟨d,List.mem_of_getElem? h,by rw [e];decide⟩
theorem ig {ds:List PyData} {f:PyData->Bool} (h:∀ j < ds.length,∀ d,ds[j]? = some d->f d=true):ds.all f=true:=by
 rw [List.all_eq_true]
 intro d hd
 obtain⟨j,hj,rfl⟩:=List.getElem_of_mem hd
 exact h j hj _ (List.getElem?_eq_getElem hj)
theorem n9 (l:List Bool):j6 (.bl false) (l.map V.bl) = !l.all id:=by
 induction l with
 | nil=>rfl
 | cons b l ih =>
  show (iL (V.bl b) (.bl false) || j6 (.bl false) (l.map V.bl))=_
  rw [ih,List.all_cons]
  cases b <;> rfl
def jO:PyData->Prop
 | .str x=>x.length<=1000/\∀ c ∈ sg x,c < 0x110000
 | .int _=>True
 | _=>False
def cJ:Nat->PyData->Prop
 | 0,_=>False
 | n+1,d=>jO d\/∃ ds,d=.tuple ds/\ds.length<=999/\∀ e ∈ ds,cJ n e
theorem iC:∀ {ds:List PyData},(∀ e ∈ ds,bb e=true)->bU ds=true
 | [],_=>rfl
 | d :: ds,h=>by
  show (bb d && bU ds)=true
  rw [h d List.mem_cons_self,iC fun e he=>h e (List.mem_cons_of_mem _ he)]
  rfl
theorem i9 {ds:List PyData} (hl:ds.length<=1000) (h:∀ e ∈ ds,bb e=true):bb (.tuple ds)=true:=by
 show (decide (ds.length<=1000) && bU ds)=true
 rw [decide_eq_true hl,iC h]
 rfl
theorem ml {ds:List PyData} (hl:ds.length<=1000) (h:∀ e ∈ ds,bb e=true):bb (.list ds)=true:=by
 show (decide (ds.length<=1000) && bU ds)=true
 rw [decide_eq_true hl,iC h]
 rfl
theorem pf {d:PyData} (h:jO d):bb d=true:=by
 cases d with
 | str x =>
  show (decide (x.length<=1000) && (sg x).all fun c=>decide (c < 0x110000))=true
  rw [decide_eq_true h.1,List.all_eq_true.mpr fun c hc=>decide_eq_true (h.2 c hc)]
  rfl
 | int i=>rfl
 | _=>cases h
theorem fK:∀ {n:Nat} {d:PyData},cJ n d->bb d=true
 | 0,_,h=>h.elim
 | n+1,d,.inl h=>pf h
 | n+1,d,.inr ⟨ds,e,hl,h⟩=>by
  subst e
  exact i9 (by omega) fun e he=>fK (h e he)
theorem dY:∀ {ds:List PyData},(∀ e ∈ ds,cm e=true)->bK ds=true
 | [],_=>rfl
 | d :: ds,h=>by
  show (cm d && bK ds)=true
  rw [h d List.mem_cons_self,dY fun e he=>h e (List.mem_cons_of_mem _ he)]
  rfl
theorem dA:∀ {n:Nat} {d:PyData},cJ n d->cm d=true
 | 0,_,h=>h.elim
 | n+1,d,.inl h=>by cases d <;> first | rfl | cases h
 | n+1,d,.inr ⟨ds,e,hl,h⟩=>by
  subst e
  exact dY fun e he=>dA (h e he)
theorem ph {x:Str} (h:cg x):jO (.str x):=by
 refine⟨?_,?_⟩
 ·have:=h.hi
  omega
 ·intro c hc
  have:=h.az c hc
  omega
theorem jE {x:Str} (h:(decide (x.length<=1000) && (sg x).all fun c=>decide (c < 0x110000))=true):jO (.str x):=by
 rw [Bool.and_eq_true] at h
 exact⟨of_decide_eq_true h.1,fun c hc=>of_decide_eq_true (List.all_eq_true.mp h.2 c hc)⟩
theorem au.hR {H:Hp}:∀ {xs:List V} {ds:List PyData} (k:Nat),au H xs ds->au H (xs.take k) (ds.take k)
 | _,_,0,_=>by rw [List.take_zero,List.take_zero];exact .nil
 | _,_,_+1,.nil=>.nil
 | _,_,k+1,.cons a r=>.cons a (au.hR k r)
theorem au.eW {H:Hp}:∀ {xs:List V} {ds:List PyData} (k:Nat),au H xs ds->au H (xs.drop k) (ds.drop k)
 | _,_,0,r=>r
 | _,_,_+1,.nil=>.nil
 | _,_,k+1,.cons _ r=>au.eW k r
theorem au.ja {H:Hp} {ys:List V} {es:List PyData} (g:au H ys es):∀ {xs:List V} {ds:List PyData},au H xs ds->au H (xs++ys) (ds++es)
 | _,_,.nil=>g
 | _,_,.cons a r=>.cons a (au.ja g r)
inductive mn (vs:List V) (H:Hp) (Q:VK) (_:XK):Prop
 | mk (b:Addr) (c:Int) (_:vs = [.ref b,.int c]) (_:bL H b) (_:∀ x d H',aZ H' x d->bb d=true->bL H' b->Fix b H H'->Q x H')
inductive eZ (n:Nat) (vs:List V) (H:Hp) (Q:VK) (_:XK):Prop
 | mk (b:Addr) (x:V) (d:PyData) (c:Int) (_:vs = [.ref b,x,.int c]) (_:bL H b) (_:aZ H x d) (_:cJ n d) (_:∀ x d H',aZ H' x d->bb d=true->bL H' b->Fix b H H'->Q x H')
theorem kC {P:Program} {w:World} {K:PySem.W.Frag} {mg:Str->Option Value} {base:Heap} {k:Nat} {f:Addr} {fd:FuncData} {ps:List Str}:bg P w K mg base bS k f fd ps (eZ 0) :=
 ⟨fun vs H Q E h=>by obtain⟨b,x,d,c,_,_,_,h,_⟩:=h;exact h.elim,fun A outer s H args us vs Q E hr h1 h2 h3 h=>by obtain⟨b,x,d,c,_,_,_,h,_⟩:=h;exact h.elim⟩
theorem fL {x:Str} (h:cg x):dD (.str x)=true:=by
 show ((decide (1<=x.length) && decide (x.length<=8)) && (sg x).all bH)=true
 rw [decide_eq_true h.lo,decide_eq_true h.hi]
 show (sg x).all bH=true
 refine List.all_eq_true.mpr fun c hc=>?_
 have:=h.az c hc
 unfold bH
 rw [decide_eq_true this.1,decide_eq_true this.2]
 rfl
theorem pA {xs:List Str} (hn:∀ x ∈ xs,cg x) {d:gC} (h:eF xs d):bE (cV d)=true:=by
 cases d with
 | put x n=>exact (i6 (.inl rfl) (fL (hn _ h.1))).trans rfl
 | copy x y=>exact (jC (fL (hn _ h.1))).trans (fL (hn _ h.2))
 | add x n=>exact (i6 (.inr rfl) (fL (hn _ h.1))).trans rfl
 | read x=>exact (i5 (.inl rfl) (fL (hn _ h))).trans rfl
 | tell x=>exact (i5 (.inr rfl) (fL (hn _ h))).trans rfl
theorem mO {p c:Nat} (h:p < c):eY (.int p) c=true:=by
 rw [iA]
 show (decide (0<=(p:Int)) && decide ((p:Int) < (c:Int)))=true
 rw [decide_eq_true (by omega),decide_eq_true (by omega)]
 rfl
theorem qJ:fA "stop" = 1:=by decide +kernel
theorem sS:fA "go" = 2:=by decide +kernel
theorem sT (b:Bool):fA (wT b)=5:=by cases b <;> decide +kernel
theorem qK {xs:List Str} (hn:∀ x ∈ xs,cg x) {c:Nat} {e:End} (h:gY xs c e):cX (iq e) c=true:=by
 cases e with
 | stop=>exact (iz (ds:=[]) qJ (by decide)).trans rfl
 | go p =>
  refine (iz (ds:=[.int p]) sS (by show ¬ 2=5;decide)).trans ?_
  show (eY (.int p) c && true)=true
  rw [mO h]
  rfl
 | nN b x n p q =>
  refine (kB (sT b)).trans ?_
  rw [fL (hn _ h.1)]
  show (eY (.int p) c && (eY (.int q) c && true))=true
  rw [mO h.2.2.1,mO h.2.2.2]
  rfl
theorem oa {xs:List Str} (hn:∀ x ∈ xs,cg x) {c:Nat} {p:Piece} (hl:p.1.length<=12) (hd:∀ d ∈ p.1,eF xs d) (he:gY xs c p.2):bG (cC p) c=true:=by
 show (decide ((p.1.map cV).length<=12) && ((p.1.map cV).all bE && cX (iq p.2) c))=true
 rw [qK hn he,List.length_map,decide_eq_true hl,List.all_eq_true.mpr fun d h=>?_]
 ·rfl
 ·obtain⟨d',h',rfl⟩:=List.mem_map.mp h
  exact pA hn (hd _ h')
theorem pB {xs:List Str} (hn:∀ x ∈ xs,cg x) {m:Nat} {ps:List Piece} (ok:kh xs m ps) (hm:m<=12) (h0:0 < ps.length) (h1:ps.length<=400):dX (dU ps)=true:=by
 refine (mj (ds:=ps.map cC) ⟨by rw [List.length_map];omega,by rw [List.length_map];omega⟩).trans ?_
 rw [List.length_map]
 refine List.all_eq_true.mpr fun d h=>?_
 obtain⟨p,hp,rfl⟩:=List.mem_map.mp h
 exact oa hn (Nat.le_trans (ok.jM p hp).1 hm) (ok.jM p hp).2 (ok.ends p hp)
theorem cY {xs:List Str} (hn:∀ x ∈ xs,cg x) {n:Nat} {x:Str} (h:x ∈ xs):cJ (n+1) (.str x):=.inl (ph (hn x h))
theorem og {xs:List Str} (hn:∀ x ∈ xs,cg x) {d:gC} (h:eF xs d):cJ 2 (cV d):=by
 have wd:∀ {x:Str},(decide (x.length<=1000) && (sg x).all fun c=>decide (c < 0x110000))=true->cJ 1 (.str x):=fun h=>.inl (jE h)
 have nn:∀ {i:Int},cJ 1 (.int i):=fun {i}=>.inl trivial
 cases d with
 | put x n =>
  refine .inr ⟨_,rfl,(by show 3<=999;decide),fun e he=>?_⟩
  rcases List.mem_cons.mp he with rfl | he;· exact wd (by decide +kernel)
  rcases List.mem_cons.mp he with rfl | he;· exact cY hn h.1
  rw [List.mem_singleton.mp he];exact nn
 | copy x y =>
  refine .inr ⟨_,rfl,(by show 3<=999;decide),fun e he=>?_⟩
  rcases List.mem_cons.mp he with rfl | he;· exact wd (by decide +kernel)
  rcases List.mem_cons.mp he with rfl | he;· exact cY hn h.1
  rw [List.mem_singleton.mp he];exact cY hn h.2
 | add x n =>
  refine .inr ⟨_,rfl,(by show 3<=999;decide),fun e he=>?_⟩
  rcases List.mem_cons.mp he with rfl | he;· exact wd (by decide +kernel)
  rcases List.mem_cons.mp he with rfl | he;· exact cY hn h.1
  rw [List.mem_singleton.mp he];exact nn
 | read x =>
  refine .inr ⟨_,rfl,(by show 2<=999;decide),fun e he=>?_⟩
  rcases List.mem_cons.mp he with rfl | he;· exact wd (by decide +kernel)
  rw [List.mem_singleton.mp he];exact cY hn h
 | tell x =>
  refine .inr ⟨_,rfl,(by show 2<=999;decide),fun e he=>?_⟩
  rcases List.mem_cons.mp he with rfl | he;· exact wd (by decide +kernel)
  rw [List.mem_singleton.mp he];exact cY hn h
theorem pC {xs:List Str} (hn:∀ x ∈ xs,cg x) {c:Nat} {e:End} (h:gY xs c e):cJ 3 (iq e):=by
 have wd:∀ {x:Str},(decide (x.length<=1000) && (sg x).all fun c=>decide (c < 0x110000))=true->cJ 2 (.str x):=fun h=>.inl (jE h)
 have nn:∀ {i:Int},cJ 2 (.int i):=fun {i}=>.inl trivial
 cases e with
 | stop =>
  refine .inr ⟨_,rfl,(by show 1<=999;decide),fun e he=>?_⟩
  rw [List.mem_singleton.mp he];exact wd (by decide +kernel)
 | go p =>
  refine .inr ⟨_,rfl,(by show 2<=999;decide),fun e he=>?_⟩
  rcases List.mem_cons.mp he with rfl | he;· exact wd (by decide +kernel)
  rw [List.mem_singleton.mp he];exact nn
 | nN b x n p q =>
  refine .inr ⟨_,rfl,(by show 5<=999;decide),fun e he=>?_⟩
  rcases List.mem_cons.mp he with rfl | he;· cases b <;> exact wd (by decide +kernel)
  rcases List.mem_cons.mp he with rfl | he;· exact cY hn h.1
  rcases List.mem_cons.mp he with rfl | he;· exact nn
  rcases List.mem_cons.mp he with rfl | he;· exact nn
  rw [List.mem_singleton.mp he];exact nn
theorem oh {xs:List Str} (hn:∀ x ∈ xs,cg x) {m:Nat} {ps:List Piece} (ok:kh xs m ps) (hm:m<=12) (h1:ps.length<=400):cJ 5 (dU ps):=by
 refine .inr ⟨_,rfl,by rw [List.length_map];omega,fun e he=>?_⟩
 obtain⟨p,hp,rfl⟩:=List.mem_map.mp he
 refine .inr ⟨_,rfl,(by show 2<=999;decide),fun e he=>?_⟩
 rcases List.mem_cons.mp he with rfl | he
 ·refine .inr ⟨_,rfl,by rw [List.length_map];have:=(ok.jM p hp).1;omega,fun e he=>?_⟩
  obtain⟨d,hd,rfl⟩:=List.mem_map.mp he
  exact og hn ((ok.jM p hp).2 d hd)
 ·rw [List.mem_singleton.mp he]
  exact pC hn (ok.ends p hp)
theorem au.sh {H:Hp} {x:V} {d:PyData} (h:aZ H x d):∀ n:Nat,au H (List.replicate n [x]).flatten (List.replicate n d)
 | 0=>.nil
 | n+1=>.cons h (au.sh h n)
end L2
namespace My
open PySem PySem.Spec PyProof.Rows L2
def top (i:Nat):Stmt:=PySem.Challenge.pw_ledpast_k04_what_is_a_plan.main.body.getD i (.Pass ⟨0,0,0,0⟩)
structure Bl (mg:Str->Option Value):Prop where
 len:mg "len" = none
 min:mg "min" = none
 range:mg "range" = none
 isinstance:mg "isinstance" = none
 bool:mg "bool" = none
 int:mg "int" = none
 str:mg "str" = none
 tuple:mg "tuple" = none
 all:mg "all" = none
 zip:mg "zip" = none
 list:mg "list" = none
abbrev fM:Stmt:=top 2
theorem kT:aP ["thing"] ["thing"] (ar fM):=cE
abbrev gL:Stmt:=top 3
theorem mP:aP ["thing"] ["thing"] (ar gL):=cE
abbrev gM:Stmt:=top 9
theorem mQ:aP ["thing", "kind", "count"] ["thing", "kind", "count"] (ar gM):=cE
abbrev eN:Stmt:=top 10
theorem jF:aP ["thing"] ["thing"] (ar eN):=cE
abbrev fe:Stmt:=top 11
theorem kF:aP ["thing", "kinds", "count"] ["thing", "kinds", "count"] (ar fe):=cE
abbrev gN:Stmt:=top 12
theorem mR:aP ["thing"] ["thing"] (ar gN):=cE
abbrev iD:Stmt:=top 13
theorem oi:aP ["thing", "count"] ["thing", "count"] (ar iD):=cE
abbrev fN:Stmt:=top 14
theorem ff:aP ["thing", "count", "deeds", "end"] ["thing", "count"] (ar fN):=cE
abbrev gO:Stmt:=top 15
theorem mS:aP ["thing"] ["thing"] (ar gO):=cE
abbrev dH:Stmt:=top 25
theorem jb:aP ["thing"] ["thing"] (ar dH):=cE
abbrev fg:Stmt:=top 26
theorem kG:aP ["thing"] ["thing"] (ar fg):=cE
abbrev dI:Stmt:=top 27
theorem jc:aP ["thing"] ["thing"] (ar dI):=cE
abbrev eO:Stmt:=top 28
theorem dJ:aP ["thing", "count", "sizes", "piece"] ["thing", "count"] (ar eO):=cE
abbrev dM:Stmt:=top 29
theorem fB:aP ["thing", "piece"] ["thing"] (ar dM):=cE
abbrev gP:Stmt:=top 17
theorem fO:aP ["script", "k", "cell"] ["script", "k"] (ar gP):=cE
abbrev fP:Stmt:=top 18
theorem ij:aP ["bag", "many", "found"] ["bag", "many"] (ar fP):=cE
abbrev fQ:Stmt:=top 30
theorem fh:aP ["bag", "count", "some"] ["bag", "count"] (ar fQ):=cE
abbrev eQ:Stmt:=top 31
theorem dN:aP ["bag", "thing", "count", "at", "way"] ["bag", "thing", "count"] (ar eQ):=cE
abbrev fi:Stmt:=top 19
theorem bX:aP ["bag", "letters", "many", "base", "at", "names", "k", "name"] ["bag"] (ar fi):=cE
abbrev eR:Stmt:=top 20
theorem jG:aP ["bag"] ["bag"] (ar eR):=cE
abbrev fR:Stmt:=top 21
theorem fj:aP ["bag", "names", "word", "name"] ["bag", "names"] (ar fR):=cE
abbrev gQ:Stmt:=top 22
theorem dZ:aP ["bag", "names", "count", "way", "word", "name"] ["bag", "names", "count"] (ar gQ):=cE
abbrev fS:Stmt:=top 23
theorem cG:aP ["bag", "count", "most", "names", "pieces", "k", "many", "end"] ["bag", "count", "most"] (ar fS):=cE
abbrev fk:Stmt:=top 24
theorem kH:aP ["bag", "most"] ["bag", "most"] (ar fk):=cE
abbrev hU:Stmt:=top 32
theorem dE:aP ["script", "bag", "count", "plan", "k", "other", "found"] ["script"] (ar hU):=cE
section
variable {P:Program} {w:World} {K:PySem.W.Frag} {mg:Str->Option Value} {base:Heap}
theorem kU {f:Addr} {fd:FuncData} (F:bZ K "is_whole" "is_whole" fM f fd) (Z:Bl mg)  : bg P w K mg base bS 1 f fd ["thing"] eH:=by
 refine F.ok (k:=0) kT (fun vs H Q E h=>?_) (fun cdv A outer s H vs Q E hr h=>?_)
 ·obtain⟨x,d,rfl,_⟩:=h
  rfl
 ·obtain⟨x,d,rfl,hx,q⟩:=h
  refine⟨_,(ah (ao (gd (ai aV rfl Z.isinstance aC (aA (pv 0) (bf (v:=.ty "int") rfl Z.int gw rfl))) (gc (nc (ai aV rfl Z.isinstance aC (aA (pv 0) (bf (v:=.ty "bool") rfl Z.bool i2 rfl)))))))),?_⟩
  obtain⟨t,ht,hs,hi,hb,hu⟩:=ba (K:=K) hx
  refine⟨_,rfl,_,_,_,_,rfl,ht,hi,_,rfl,?_⟩
  rw [ko] at q
  cases h1:L2.intD d with
  | false=>rw [h1] at q;exact aT q
  | true=>rw [h1] at q;exact aI ⟨_,rfl,_,_,_,_,rfl,ht,hb,_,rfl,q⟩
theorem mT {f:Addr} {fd:FuncData} (F:bZ K "is_name" "is_name" gL f fd) (Z:Bl mg) {tk_LONGEST_NAME:Tok} (G_LONGEST_NAME:mg "LONGEST_NAME" = some (.int 8 tk_LONGEST_NAME)) {tk_MOST_PIECES:Tok} (G_MOST_PIECES:mg "MOST_PIECES" = some (.int 400 tk_MOST_PIECES)) {tk_MOST_DEEDS:Tok} (G_MOST_DEEDS:mg "MOST_DEEDS" = some (.int 12 tk_MOST_DEEDS))  : bg P w K mg base bS 1 f fd ["thing"] fu:=by
 refine F.ok (k:=0) mP (fun vs H Q E h=>?_) (fun cdv A outer s H vs Q E hr h=>?_)
 ·obtain⟨x,d,rfl,_⟩:=h
  rfl
 ·obtain⟨x,d,rfl,hx,hf,q⟩:=h
  refine⟨_,(af (aR (PW.pt (bC (bB (bA (ai aV rfl Z.isinstance aC (aA (pv 0) (bf (v:=.ty "str") rfl Z.str gx rfl))))) (bV (bB (j2 iI iI aa (ai eD rfl Z.len aY (ay (pv 0))) (gS (v:=.int 8) rfl G_LONGEST_NAME ⟨_,rfl⟩))))))
   (ah (ao br))
   aH)
   (ah (ao (ai (eX rfl) rfl Z.all iR (ay (cW ["sign"] [] [] rfl (nT (pv 0)) rfl (by decide +kernel) (by decide +kernel) (by decide +kernel) True.intro (fun _ _ _ _=>(b0 (i:=0) (show ((["sign"]:List Str)++([]:List Str)).Nodup by decide +kernel) (hf:=Or.inr rfl))) (fun _ _ _ _=>dn) (fun _ _ _ _=>(j1 ju ju aQ (pv 0) aQ)))))))),?_⟩
  obtain⟨t,ht,hs,hi,hb,hu⟩:=ba (K:=K) hx
  refine⟨_,rfl,_,_,_,_,rfl,ht,hs,_,rfl,?_⟩
  cases h1:e7 d with
  | false =>
   refine aI (aI ?_)
   have:=q H (ae.refl H)
   rw [lY h1] at this
   exact this
  | true =>
   refine aT ?_
   obtain⟨y,rfl,rfl⟩:=iT hx h1
   have hl:=(me hf).1
   refine⟨_,rfl,y,rfl,Nat.le_of_lt (dW (by omega)),_,_,rfl,rfl,_,rfl,?_⟩
   have qn:((decide (1<=y.length) && decide (y.length<=8)) && (sg y).all bH)=false->∀ H1,ae H H1->Q (.bl false) H1:=fun h H1 s1=>by
    have e:dD (.str y)=false:=h
    have:=q H1 s1
    rw [e] at this
    exact this
   refine cy (fun h2=>?_) (fun h2=>?_)
   rotate_left
   ·refine⟨_,rfl,aI ?_⟩
    refine qn ?_ _ (ae.refl _)
    rw [decide_eq_false (fun z:1<=y.length=>h2 (decide_eq_true (by omega)))]
    rfl
   have h2:1<=y.length:=by have:=of_decide_eq_true h2;omega
   refine⟨_,_,rfl,rfl,_,rfl,?_⟩
   by_cases h3:y.length<=8
   rotate_left
   ·refine bM (by rw [decide_eq_false (by omega)];rfl) ?_
    refine qn ?_ _ (ae.refl _)
    rw [decide_eq_true h2,decide_eq_false h3]
    rfl
   refine bD (by rw [decide_eq_true (by omega)];rfl) ?_
   refine⟨_,rfl,y,rfl,fun acc na=>?_⟩
   refine nU (x:=y) (fun i ys τ H1=>∃ c:Option V,τ = [c]/\ys=(((sg y).take i).map bH).map V.bl/\H1 acc=some (.lst ys)/\ae H H1) ?_ ?_ ?_ ?_
   ·exact⟨none,rfl,rfl,ab,ae.new na⟩
   ·rintro i ys τ H1 hi ⟨c,rfl,rfl,ha,s1⟩
    refine⟨ha,bc ?_⟩
    rw [List.length_map,List.length_map,List.length_take,iS]
    omega
   ·rintro i c ys τ H1 hi ⟨c',rfl,rfl,ha,s1⟩
    refine cS ?_
    refine iw ?_
    refine aI ?_
    have hci:(sg y)[i]? = some c:=by rw [<-hi];exact Array.getElem?_toList
    have fin:∀ b:Bool,b=bH c->H1 acc=some (.lst ((((sg y).take i).map bH).map V.bl))/\∃ c1:Option V,[some (V.str ⟨#[c]⟩)] = [c1]/\((((sg y).take i).map bH).map V.bl ++ [V.bl b])=(((sg y).take (i+1)).map bH).map V.bl/\(upd H1 acc (.lst ((((sg y).take i).map bH).map V.bl ++ [V.bl b]))) acc=some (.lst ((((sg y).take i).map bH).map V.bl ++ [V.bl b]))/\ae H (upd H1 acc (.lst ((((sg y).take i).map bH).map V.bl ++ [V.bl b]))):=fun b hb=>by
     refine⟨ha,_,rfl,?_,ab,s1.put na⟩
     rw [List.take_add_one,hci,hb,List.map_append,List.map_append]
     rfl
    refine⟨_,rfl,_,_,rfl,rfl,_,rfl,?_⟩
    rw [uc]
    refine cy (fun h=>?_) (fun h=>?_)
    ·refine⟨_,_,rfl,rfl,?_⟩
     rw [ud]
     exact fin _ (by unfold bH;rw [h];rfl)
    ·exact fin _ (by unfold bH;rw [Bool.eq_false_iff.mpr h];rfl)
   rintro ys τ H1 ⟨c,rfl,rfl,ha,s1⟩
   rw [show (sg y).take y.cps.size=sg y from List.take_of_length_le (by rw [iS];exact Nat.le_refl _)] at ha
   refine⟨acc,_,rfl,aW.of ha,?_⟩
   rw [show ((sg y).map bH).all id=(sg y).all bH by rw [List.all_map];rfl]
   have e:dD (.str y)=(sg y).all bH:=by
    show ((decide (1<=y.length) && decide (y.length<=8)) && (sg y).all bH)=_
    rw [decide_eq_true h2,decide_eq_true h3]
    rfl
   rw [<-e]
   exact q H1 s1
theorem mU {f:Addr} {fd:FuncData} (F:bZ K "is_part" "is_part" gM f fd) (Z:Bl mg) (O_is_whole:Own P w K mg base "is_whole" 1 ["thing"] eH) (O_is_name:Own P w K mg base "is_name" 1 ["thing"] fu):bg P w K mg base bS 2 f fd ["thing", "kind", "count"] lZ:=by
 refine F.ok (k:=1) mQ (fun vs H Q E h=>?_) (fun cdv A outer s H vs Q E hr h=>?_)
 ·obtain⟨x,d,k,n,rfl,_⟩:=h
  rfl
 ·obtain⟨x,d,k,n,rfl,hx,hf,q⟩:=h
  refine⟨_,(af (aR (aw cc (pv 1) aQ (aJ _))
   (ah (ao (av O_is_name hr (ay (pv 0)))))
   aH)
   (af (aR (aw cc (pv 1) aQ (aJ _))
   (ah (ao (av O_is_whole hr (ay (pv 0)))))
   aH)
   (ah (ao (gd (av O_is_whole hr (ay (pv 0))) (gc (j1 iI eT aa (pv 0) (pv 2)))))))),?_⟩
  unfold bI at q
  refine⟨_,rfl,rfl,_,rfl,?_⟩
  by_cases h1:k = "name"
  ·refine bM (decide_eq_true (congrArg V.str h1)) ?_
   rw [if_pos h1] at q
   exact⟨_,rfl,x,d,rfl,hx,hf,q⟩
  refine bD (decide_eq_false (fun z=>h1 (V.str.inj z))) ?_
  rw [if_neg h1] at q
  refine⟨_,rfl,rfl,_,rfl,?_⟩
  by_cases h2:k = "number"
  ·refine bM (decide_eq_true (congrArg V.str h2)) ?_
   rw [if_pos h2] at q
   exact⟨_,rfl,x,d,rfl,hx,q H (ae.refl H)⟩
  refine bD (decide_eq_false (fun z=>h2 (V.str.inj z))) ?_
  rw [if_neg h2] at q
  have q:=q H (ae.refl H)
  refine⟨_,rfl,x,d,rfl,hx,_,rfl,?_⟩
  cases h3:cL d with
  | false =>
   refine aT ?_
   cases d <;> first | exact q | cases h3
  | true =>
   refine aI ?_
   obtain⟨i,rfl,rfl⟩:=nX hx h3
   refine⟨_,rfl,_,_,rfl,rfl,_,rfl,?_⟩
   cases h4:decide (0<=i) with
   | false =>
    refine aT ?_
    simp only [h4,Bool.false_and] at q
    exact q
   | true =>
    refine aI ?_
    simp only [h4,Bool.true_and] at q
    exact⟨_,rfl,_,_,rfl,rfl,q⟩
theorem jH {f:Addr} {fd:FuncData} (F:bZ K "first_word" "first_word" eN f fd) (Z:Bl mg)  : bg P w K mg base bS 1 f fd ["thing"] ix:=by
 refine F.ok (k:=0) jF (fun vs H Q E h=>?_) (fun cdv A outer s H vs Q E hr h=>?_)
 ·obtain⟨x,d,rfl,_⟩:=h
  rfl
 ·obtain⟨x,d,rfl,hx,q⟩:=h
  refine⟨_,(af (aR (PW.pt (iG (bA (ai aV rfl Z.isinstance aC (aA (pv 0) (bf (v:=.ty "tuple") rfl Z.tuple bQ rfl)))) (iG (aw fG (ai ax rfl Z.len aY (ay (pv 0))) aa (aJ _)) (iX (bA (ai aV rfl Z.isinstance aC (aA (aN bO (pv 0) aa) (bf (v:=.ty "str") rfl Z.str gx rfl))))))))
   (ah (ao (aN bO (pv 0) aa)))
   aH)
   (ah (ao m9))),?_⟩
  obtain⟨t,ht,hs,hi,hb,hu⟩:=ba (K:=K) hx
  refine⟨_,rfl,_,_,_,_,rfl,ht,hu,_,rfl,?_⟩
  cases h1:cI d with
  | false =>
   refine aT (aT ?_)
   rw [oZ h1] at q
   exact q
  | true =>
   refine aI ?_
   obtain⟨p,xs,ds,rfl,rfl,e,r⟩:=cU hx h1
   refine⟨_,rfl,p,_,rfl,.inr (aG.of e),_,_,rfl,rfl,_,rfl,?_⟩
   cases r with
   | nil=>exact aT (aT q)
   | cons r0 rs =>
    refine bM (decide_eq_true (by rw [List.length_cons];omega)) ?_
    obtain⟨t0,ht0,hs0,_⟩:=ba (K:=K) r0
    refine⟨_,rfl,p,_,0,_,rfl,rfl,aG.of e,di,_,_,_,_,rfl,ht0,hs0,_,rfl,?_⟩
    cases r0 with
    | str x=>exact aI ⟨_,rfl,p,_,0,_,rfl,rfl,aG.of e,di,q⟩
    | _=>exact aT q
theorem kI {f:Addr} {fd:FuncData} (F:bZ K "has_parts" "has_parts" fe f fd) (Z:Bl mg) (O_is_part:Own P w K mg base "is_part" 2 ["thing", "kind", "count"] lZ):bg P w K mg base bS 3 f fd ["thing", "kinds", "count"] (kq K):=by
 refine F.ok (k:=2) kF (fun vs H Q E h=>?_) (fun cdv A outer s H vs Q E hr h=>?_)
 ·obtain⟨x,d,kv,ks,n,rfl,_⟩:=h
  rfl
 ·obtain⟨x,d,kv,ks,n,rfl,hx,hf,hk,hd,q⟩:=h
  refine⟨_,(af (aR (PW.pt (bC (qU (qT (pv 1))) (bV (aw gU (ai ax rfl Z.len aY (ay (pv 0))) (aL cb (ai ax rfl Z.len aY (ay (pv 1))) aa) (aJ _)))))
   (ah (ao br))
   aH)
   (ah (ao (ai (eX rfl) rfl Z.all iR (ay (cW ["part", "kind"] ["count"] [2] rfl (rN rfl Z.zip (aA (bP lW (pv 0) (bY aa) b8) (pv 1))) rfl (by decide +kernel) (by decide +kernel) (by decide +kernel) ⟨⟨rfl,.inl rfl,rfl⟩,True.intro⟩ (fun _ _ _ _=>(qh (K:=K) (n:=2) rfl (nh (n:=2) rfl (fF (b0 (i:=0) (show ((["part", "kind"]:List Str)++(["count"]:List Str)).Nodup by decide +kernel) (hf:=Or.inr rfl)) (fF (b0 (i:=1) (show ((["part", "kind"]:List Str)++(["count"]:List Str)).Nodup by decide +kernel) (hf:=Or.inr rfl)) lq))))) (fun _ _ _ _=>dn) (fun _ _ _ _=>(av O_is_part hr (e5 (pv 0) (pv 1) (pv 2)))))))))),?_⟩
  cases hk with
  | no =>
   refine⟨_,rfl,_,rfl,aI (aI ?_)⟩
   exact q H (ae.refl H)
  | some a ks hk =>
   obtain⟨d0,ds,rfl⟩:=hd (by intro z;cases z)
   obtain⟨p,xs,rfl,e,r⟩:=aZ.lV hx
   obtain⟨x0,xs,rfl,r0,r⟩:=r.cons_inv
   have hl:=r.len
   refine⟨_,rfl,_,rfl,aT ?_⟩
   refine⟨_,rfl,p,_,rfl,.inr (aG.of e),_,rfl,a,_,rfl,.inr (.inr hk),_,_,rfl,rfl,rfl,_,rfl,?_⟩
   have hh:i4 (.tuple (d0 :: ds)) (some ks) n=(decide (ds.length=ks.length) && eG ds ks n):=rfl
   rw [hh] at q
   by_cases h1:ds.length=ks.length
   rotate_left
   ·refine bM (by rw [decide_eq_false (fun z=>h1 (by have:=V.int.inj z;rw [List.length_cons,List.length_map] at this;omega))];rfl) ?_
    have:=q H (ae.refl H)
    rw [decide_eq_false h1] at this
    exact this
   refine bD (by rw [decide_eq_true (congrArg V.int (by rw [List.length_cons,List.length_map];omega))];rfl) ?_
   rw [decide_eq_true h1] at q
   have hfs:bU ds=true/\ds.length<=1000:=by
    simp only [bb,bU,Bool.and_eq_true] at hf
    have:=of_decide_eq_true hf.1
    rw [List.length_cons] at this
    exact⟨hf.2.2,by omega⟩
   refine⟨_,rfl,_,rfl,p,_,rfl,aG.of e,fun hw=>?_,fun _ t nt=>?_⟩
   ·exfalso
    obtain⟨z,_⟩:=hw
    simp [HT.aX] at z
   have ec:cH (x0 :: xs) (some 1) none=xs:=by simp [cH,HT.aX]
   rw [ec]
   have st:=ae.new (o:=.tup xs) nt
   refine⟨_,rfl,t,a,rfl,⟨_,aG.of ab⟩,⟨_,.inr hk⟩,fun acc na=>?_⟩
   refine rO (K:=K) (a:=t) (b:=a) (xs:=xs) (ys:=ks.map V.str) (fun i zs τ H'=>∃ (c1 c2:Option V),τ = [c1,c2,some (.int (n:Nat))]/\zs=((eJ ds ks n).take i).map V.bl/\H' acc=some (.lst zs)/\H' t=some (.tup xs)/\ae H H') ?_ ?_ ?_ ?_
   ·exact⟨none,none,rfl,rfl,ab,ae.new na _ _ ab,st.trans (ae.new na)⟩
   ·rintro i zs τ H4 hi ⟨c1,c2,rfl,rfl,ha,ht4,s4⟩
    refine⟨aG.of ht4,.inr hk,ha,bc ?_⟩
    rw [List.length_map,List.length_take]
    omega
   ·rintro i x y zs τ H4 u hx4 hy hu ⟨c1,c2,rfl,rfl,ha,ht4,s4⟩
    obtain⟨k,rfl,hk4⟩:∃ k,y=V.str k/\ks[i]? = some k:=by
     rw [List.getElem?_map] at hy
     cases e:ks[i]? with
     | none=>rw [e] at hy;cases hy
     | some k=>rw [e] at hy;exact⟨k,(Option.some.inj hy).symm,rfl⟩
    have hlt:i < ds.length:=by
     have:=List.getElem?_eq_some_iff.mp hx4
     obtain⟨z,_⟩:=this
     omega
    have hd4:ds[i]? = some ds[i]:=List.getElem?_eq_getElem hlt
    obtain⟨x',hx',rx⟩:=r.get hd4
    obtain rfl:x' = x:=Option.some.inj (hx'.symm.trans hx4)
    have su:=ae.new (o:=.tup [x',.str k]) hu
    have s5:=s4.trans su
    refine⟨u,_,rfl,aG.of ab,rfl,_,_,rfl,_,_,rfl,rfl,?_⟩
    refine iw ?_
    refine aI ?_
    refine⟨_,rfl,_,rfl,_,rfl,x',ds[i],k,n,rfl,?_,cM hfs.1 hd4,fun H6 s6=>?_⟩
    ·exact rx.bo s5
    have ha6:=s6 _ _ (su _ _ ha)
    refine⟨ha6,_,_,rfl,?_,ab,?_,?_⟩
    ·have hp:(eJ ds ks n)[i]? = some (bI ds[i] k n):=by
      unfold eJ
      rw [List.getElem?_map,List.getElem?_zip_eq_some (z:=(ds[i],k)) |>.mpr ⟨hd4,hk4⟩]
      rfl
     rw [List.take_add_one,hp,List.map_append]
     rfl
    ·rw [aF (iE (s6 _ _ (su _ _ ht4)) ha6 (by intro z;cases z))]
     exact s6 _ _ (su _ _ ht4)
    ·exact (s5.trans s6).put (st.free na)
   ·rintro zs τ H4 ⟨c1,c2,rfl,rfl,ha,ht4,s4⟩
    have hlen:(eJ ds ks n).length=min xs.length (ks.map V.str).length:=by
     unfold eJ
     rw [List.length_map,List.length_zip,List.length_map,hl]
    rw [<-hlen,List.take_length] at ha
    refine⟨acc,_,rfl,aW.of ha,?_⟩
    rw [jx ds ks n h1]
    exact q H4 s4
theorem mV {f:Addr} {fd:FuncData} (F:bZ K "is_deed" "is_deed" gN f fd) (Z:Bl mg) {aD d0 d1 d2 d3 d4:Addr} (GD:mK K mg aD d0 d1 d2 d3 d4) (yD:(aD == sysModules)=false) (O_has_parts:Own P w K mg base "has_parts" 3 ["thing", "kinds", "count"] (kq K)) (O_first_word:Own P w K mg base "first_word" 1 ["thing"] ix):bg P w K mg base bS 4 f fd ["thing"] gZ:=by
 refine F.ok (k:=3) mR (fun vs H Q E h=>?_) (fun cdv A outer s H vs Q E hr h=>?_)
 ·obtain⟨x,d,rfl,_⟩:=h
  rfl
 ·obtain⟨x,d,rfl,hx,hf,q⟩:=h
  refine⟨_,(ah (ao (av O_has_parts hr (e5 (pv 0) (jw GD.tab yD rfl (av O_first_word hr (ay (pv 0))) ⟨rfl,rfl,rfl,rfl⟩) aa)))),?_⟩
  obtain⟨r,hr',hk⟩:=qv GD (cT d)
  exact⟨_,rfl,⟨_,rfl,x,d,rfl,hx,r,hr',x,d,_,_,0,rfl,hx,hf,hk,jy,q⟩⟩
theorem om {f:Addr} {fd:FuncData} (F:bZ K "is_end" "is_end" iD f fd) (Z:Bl mg) {aE s0 s1 s2 s3:Addr} (GE:oU K mg aE s0 s1 s2 s3) (yE:(aE == sysModules)=false) (O_has_parts:Own P w K mg base "has_parts" 3 ["thing", "kinds", "count"] (kq K)) (O_first_word:Own P w K mg base "first_word" 1 ["thing"] ix):bg P w K mg base bS 4 f fd ["thing", "count"] iU:=by
 refine F.ok (k:=3) oi (fun vs H Q E h=>?_) (fun cdv A outer s H vs Q E hr h=>?_)
 ·obtain⟨x,d,n,rfl,_⟩:=h
  rfl
 ·obtain⟨x,d,n,rfl,hx,hf,q⟩:=h
  refine⟨_,(ah (ao (av O_has_parts hr (e5 (pv 0) (jw GE.tab yE rfl (av O_first_word hr (ay (pv 0))) ⟨rfl,rfl,rfl,rfl⟩) (pv 1))))),?_⟩
  obtain⟨r,hr',hk⟩:=rW GE (cT d)
  exact⟨_,rfl,⟨_,rfl,x,d,rfl,hx,r,hr',_,rfl,x,d,_,_,n,rfl,hx,hf,hk,jy,q⟩⟩
theorem kW {f:Addr} {fd:FuncData} (F:bZ K "is_piece" "is_piece" fN f fd) (Z:Bl mg) {tk_LONGEST_NAME:Tok} (G_LONGEST_NAME:mg "LONGEST_NAME" = some (.int 8 tk_LONGEST_NAME)) {tk_MOST_PIECES:Tok} (G_MOST_PIECES:mg "MOST_PIECES" = some (.int 400 tk_MOST_PIECES)) {tk_MOST_DEEDS:Tok} (G_MOST_DEEDS:mg "MOST_DEEDS" = some (.int 12 tk_MOST_DEEDS)) (O_is_deed:Own P w K mg base "is_deed" 4 ["thing"] gZ) (O_is_end:Own P w K mg base "is_end" 4 ["thing", "count"] iU):bg P w K mg base bS 5 f fd ["thing", "count"] kr:=by
 refine F.ok (k:=4) ff (fun vs H Q E h=>?_) (fun cdv A outer s H vs Q E hr h=>?_)
 ·obtain⟨x,d,n,rfl,_⟩:=h
  rfl
 ·obtain⟨x,d,n,rfl,hx,hf,q⟩:=h
  refine⟨_,(af (aR (PW.pt (bC (bB (bA (ai aV rfl Z.isinstance aC (aA (pv 0) (bf (v:=.ty "tuple") rfl Z.tuple bQ rfl))))) (bV (aw gU (ai ax rfl Z.len aY (ay (pv 0))) aa (aJ _)))))
   (ah (ao br))
   aH)
   (af (iH (pv 0) (nh rfl (fF (b0 (i:=2) ff.nd) (fF (b0 (i:=3) ff.nd) lq))))
   (af (aR (PW.pt (bC (bB (bA (ai aV rfl Z.isinstance aC (aA (pv 2) (bf (v:=.ty "tuple") rfl Z.tuple bQ rfl))))) (bV (aw fG (ai ax rfl Z.len aY (ay (pv 2))) (gS (v:=.int 12) rfl G_MOST_DEEDS ⟨_,rfl⟩) (aJ _)))))
   (ah (ao br))
   aH)
   (ah (ao (gd (ai (eX rfl) rfl Z.all iR (ay (cW ["deed"] [] [] rfl (gg (pv 2)) rfl (by decide +kernel) (by decide +kernel) (by decide +kernel) True.intro (fun _ _ _ _=>(b0 (i:=0) (show ((["deed"]:List Str)++([]:List Str)).Nodup by decide +kernel) (hf:=Or.inr rfl))) (fun _ _ _ _=>dn) (fun _ _ _ _=>(av O_is_deed hr (ay (pv 0))))))) (gc (av O_is_end hr (aA (pv 3) (pv 1)))))))))),?_⟩
  obtain⟨t,ht,hs,hi,hb,hu⟩:=ba (K:=K) hx
  refine⟨_,rfl,_,_,_,_,rfl,ht,hu,_,rfl,?_⟩
  cases h1:cI d with
  | false =>
   refine aI (aI ?_)
   have:=q H (ae.refl H)
   rw [ku h1] at this
   exact this
  | true =>
   refine aT ?_
   obtain⟨p,xs,ds,rfl,rfl,e,r⟩:=cU hx h1
   have hl:=r.len
   refine⟨_,rfl,p,_,rfl,.inr (aG.of e),rfl,_,rfl,?_⟩
   by_cases h2:ds.length=2
   rotate_left
   ·refine bM (by rw [decide_eq_false (fun z=>h2 (by have:=V.int.inj z;omega))];rfl) ?_
    have:=q H (ae.refl H)
    rw [jA h2] at this
    exact this
   refine bD (by rw [decide_eq_true (congrArg V.int (by omega))];rfl) ?_
   obtain⟨d1,d2,rfl⟩:∃ d1 d2,ds = [d1,d2]:=by
    rcases ds with _ | ⟨d1,_ | ⟨d2,_ | ⟨d3,ds⟩⟩⟩
    ·cases h2
    ·cases h2
    ·exact⟨d1,d2,rfl⟩
    ·simp at h2
   obtain⟨x1,xs1,rfl,r1,r⟩:=r.cons_inv
   obtain⟨x2,xs2,rfl,r2,r⟩:=r.cons_inv
   have z:=r.nil_inv
   subst z
   have hf2:bb d1=true/\bb d2=true:=by
    simp only [bb,bU,Bool.and_eq_true] at hf
    exact⟨hf.2.1,hf.2.2.1⟩
   refine⟨_,rfl,p,_,rfl,aG.of e,rfl,_,_,rfl,_,_,rfl,rfl,?_⟩
   obtain⟨t1,ht1,_,_,_,hu1⟩:=ba (K:=K) r1
   refine⟨_,rfl,_,_,_,_,rfl,ht1,hu1,_,rfl,?_⟩
   cases h3:cI d1 with
   | false =>
    refine aI (aI ?_)
    have:=q H (ae.refl H)
    rw [jB h3] at this
    exact this
   | true =>
   refine aT ?_
   obtain⟨p1,ys1,ds1,rfl,rfl,e1,rr1⟩:=cU r1 h3
   have hfs:=rr1.d8 hf2.1
   have hpc:bG (.tuple [.tuple ds1,d2]) n=(decide (ds1.length<=12) && (ds1.all bE && cX d2 n)):=rfl
   rw [hpc] at q
   refine⟨_,rfl,p1,_,rfl,.inr (aG.of e1),_,_,rfl,rfl,_,rfl,?_⟩
   have hl1:=rr1.len
   by_cases h4:ds1.length<=12
   rotate_left
   ·refine bM (decide_eq_true (by omega)) ?_
    have:=q H (ae.refl H)
    rw [decide_eq_false h4] at this
    exact this
   refine bD (decide_eq_false (by omega)) ?_
   rw [decide_eq_true h4] at q
   refine⟨_,rfl,p1,rfl,⟨_,aG.of e1⟩,fun acc na=>?_⟩
   refine j9 (K:=K) (a:=p1) (xs:=ys1) (fun i ys τ H1=>∃ c:Option V,τ = [c]/\ys=((ds1.take i).map bE).map V.bl/\H1 acc=some (.lst ys)/\ae H H1) ?_ ?_ ?_ ?_
   ·exact⟨none,rfl,rfl,ab,ae.new na⟩
   ·rintro i ys τ H1 hi ⟨c,rfl,rfl,ha,s1⟩
    refine⟨aG.of (s1 _ _ e1),ha,bc ?_⟩
    rw [List.length_map,List.length_map,List.length_take]
    have hlen:=rr1.len
    omega
   ·rintro i x' ys τ H1 hxi ⟨c,rfl,rfl,ha,s1⟩
    refine cS ?_
    refine iw ?_
    refine aI ?_
    have hlt:i < ds1.length:=by
     obtain⟨z,_⟩:=List.getElem?_eq_some_iff.mp hxi
     have hlen:=rr1.len
     omega
    have hd4:ds1[i]? = some ds1[i]:=List.getElem?_eq_getElem hlt
    obtain⟨x3,hx3,rx⟩:=rr1.get hd4
    obtain rfl:x3=x':=Option.some.inj (hx3.symm.trans hxi)
    refine⟨_,rfl,x3,ds1[i],rfl,rx.bo s1,cM hfs.2 hd4,fun H6 s6=>?_⟩
    have ha6:=s6 _ _ ha
    refine⟨ha6,_,rfl,?_,ab,(s1.trans s6).put na⟩
    rw [List.take_add_one,hd4,List.map_append,List.map_append]
    rfl
   rintro ys τ H1 ⟨c,rfl,rfl,ha,s1⟩
   rw [List.take_of_length_le (Nat.le_of_eq rr1.len.symm)] at ha
   refine⟨acc,_,rfl,aW.of ha,_,rfl,?_⟩
   rw [show (ds1.map bE).all id=ds1.all bE by rw [List.all_map];rfl]
   cases h5:ds1.all bE with
   | false =>
    refine aT ?_
    have:=q H1 s1
    rw [h5] at this
    exact this
   | true =>
    refine aI ?_
    rw [h5] at q
    exact⟨_,rfl,_,rfl,x2,d2,n,rfl,r2.bo s1,hf2.2,fun H6 s6=>q H6 (s1.trans s6)⟩
theorem mW {f:Addr} {fd:FuncData} (F:bZ K "is_plan" "is_plan" gO f fd) (Z:Bl mg) {tk_LONGEST_NAME:Tok} (G_LONGEST_NAME:mg "LONGEST_NAME" = some (.int 8 tk_LONGEST_NAME)) {tk_MOST_PIECES:Tok} (G_MOST_PIECES:mg "MOST_PIECES" = some (.int 400 tk_MOST_PIECES)) {tk_MOST_DEEDS:Tok} (G_MOST_DEEDS:mg "MOST_DEEDS" = some (.int 12 tk_MOST_DEEDS)) (O_is_piece:Own P w K mg base "is_piece" 5 ["thing", "count"] kr):bg P w K mg base bS 6 f fd ["thing"] hG:=by
 refine F.ok (k:=5) mS (fun vs H Q E h=>?_) (fun cdv A outer s H vs Q E hr h=>?_)
 ·obtain⟨x,d,rfl,_⟩:=h
  rfl
 ·obtain⟨x,d,rfl,hx,hf,q⟩:=h
  refine⟨_,(af (aR (PW.pt (bC (bB (bA (ai aV rfl Z.isinstance aC (aA (pv 0) (bf (v:=.ty "tuple") rfl Z.tuple bQ rfl))))) (bV (bB (j2 iI iI aa (ai (ie (K:=K) rfl) rfl Z.len aY (ay (pv 0))) (gS (v:=.int 400) rfl G_MOST_PIECES ⟨_,rfl⟩))))))
   (ah (ao br))
   aH)
   (ah (ao (ai (eX rfl) rfl Z.all iR (ay (cW ["piece"] ["thing"] [0] rfl (gg (pv 0)) rfl (by decide +kernel) (by decide +kernel) (by decide +kernel) ⟨⟨rfl,.inl rfl,rfl⟩,True.intro⟩ (fun _ _ _ _=>(b0 (i:=0) (show ((["piece"]:List Str)++(["thing"]:List Str)).Nodup by decide +kernel) (hf:=Or.inr rfl))) (fun _ _ _ _=>dn) (fun _ _ _ _=>(av O_is_piece hr (aA (pv 0) (ai (ie (K:=K) rfl) rfl Z.len aY (ay (pv 1)))))))))))),?_⟩
  obtain⟨t,ht,hs,hi,hb,hu⟩:=ba (K:=K) hx
  refine⟨_,rfl,_,_,_,_,rfl,ht,hu,_,rfl,?_⟩
  cases h1:cI d with
  | false =>
   refine aI (aI ?_)
   have:=q H (ae.refl H)
   rw [ma h1] at this
   exact this
  | true =>
   refine aT ?_
   obtain⟨p,xs,ds,rfl,rfl,e,r⟩:=cU hx h1
   have hl:=r.len
   have hfs:=r.d8 hf
   have hpl:dX (.tuple ds)=((decide (1<=ds.length) && decide (ds.length<=400)) && ds.all fun p=>bG p ds.length):=rfl
   rw [hpl] at q
   refine⟨_,rfl,p,_,rfl,.inr (aG.of e),_,_,rfl,rfl,_,rfl,?_⟩
   refine cy (fun h2=>?_) (fun h2=>?_)
   rotate_left
   ·refine⟨_,rfl,aI ?_⟩
    have:=q H (ae.refl H)
    rw [decide_eq_false (fun z:1<=ds.length=>h2 (decide_eq_true (by omega)))] at this
    exact this
   have h2:1<=ds.length:=by have:=of_decide_eq_true h2;omega
   refine⟨_,_,rfl,rfl,_,rfl,?_⟩
   by_cases h3:ds.length<=400
   rotate_left
   ·refine bM (by rw [decide_eq_false (by omega)];rfl) ?_
    have:=q H (ae.refl H)
    rw [decide_eq_true h2,decide_eq_false h3] at this
    exact this
   refine bD (by rw [decide_eq_true (by omega)];rfl) ?_
   rw [decide_eq_true h2,decide_eq_true h3] at q
   refine⟨_,rfl,p,rfl,⟨_,aG.of e⟩,fun acc na=>?_⟩
   refine j9 (K:=K) (a:=p) (xs:=xs) (fun i ys τ H1=>∃ c:Option V,τ = [c,some (.ref p)]/\ys=((ds.take i).map fun p=>bG p ds.length).map V.bl/\H1 acc=some (.lst ys)/\ae H H1) ?_ ?_ ?_ ?_
   ·exact⟨none,rfl,rfl,ab,ae.new na⟩
   ·rintro i ys τ H1 hi ⟨c,rfl,rfl,ha,s1⟩
    refine⟨aG.of (s1 _ _ e),ha,bc ?_⟩
    rw [List.length_map,List.length_map,List.length_take]
    omega
   ·rintro i x' ys τ H1 hxi ⟨c,rfl,rfl,ha,s1⟩
    refine cS ?_
    refine iw ?_
    refine aI ?_
    have hlt:i < ds.length:=by
     obtain⟨z,_⟩:=List.getElem?_eq_some_iff.mp hxi
     omega
    have hd4:ds[i]? = some ds[i]:=List.getElem?_eq_getElem hlt
    obtain⟨x3,hx3,rx⟩:=r.get hd4
    obtain rfl:x3=x':=Option.some.inj (hx3.symm.trans hxi)
    refine⟨_,rfl,_,rfl,p,_,rfl,.inr (aG.of (s1 _ _ e)),x3,ds[i],ds.length,(by rw [hl];rfl),rx.bo s1,cM hfs.2 hd4,fun H6 s6=>?_⟩
    have ha6:=s6 _ _ ha
    refine⟨ha6,_,rfl,?_,ab,(s1.trans s6).put na⟩
    rw [List.take_add_one,hd4,List.map_append,List.map_append]
    rfl
   rintro ys τ H1 ⟨c,rfl,rfl,ha,s1⟩
   rw [List.take_of_length_le (Nat.le_of_eq hl.symm)] at ha
   refine⟨acc,_,rfl,aW.of ha,?_⟩
   rw [show (ds.map fun p=>bG p ds.length).all id=ds.all fun p=>bG p ds.length by rw [List.all_map];rfl]
   exact q H1 s1
theorem jd {f:Addr} {fd:FuncData} (F:bZ K "_law_is_name" "_law_is_name" dH f fd) (Z:Bl mg)  : bg P w K mg base bS 1 f fd ["thing"] fu:=by
 refine F.ok (k:=0) jb (fun vs H Q E h=>?_) (fun cdv A outer s H vs Q E hr h=>?_)
 ·obtain⟨x,d,rfl,_⟩:=h
  rfl
 ·obtain⟨x,d,rfl,hx,hf,q⟩:=h
  refine⟨_,(af (aR (PW.pt (bC (bB (bA (ai aV rfl Z.isinstance aC (aA (pv 0) (bf (v:=.ty "str") rfl Z.str gx rfl))))) (bC (aw eT (ai eD rfl Z.len aY (ay (pv 0))) aa (aJ _)) (bV (aw fG (ai eD rfl Z.len aY (ay (pv 0))) aa (aJ _))))))
   (ah (ao br))
   aH)
   (ah (ao (d6 (rS hr.units) (cW ["sign"] [] [] rfl (nT (pv 0)) rfl (by decide +kernel) (by decide +kernel) (by decide +kernel) True.intro (fun _ _ _ _=>(b0 (i:=0) (show ((["sign"]:List Str)++([]:List Str)).Nodup by decide +kernel) (hf:=Or.inr rfl))) (fun _ _ _ _=>(qg (aw j8 (pv 0) aQ (by with_unfolding_all rfl)))) (fun _ _ _ _=>(pv 0))) (cf cA) (aJ _))))),?_⟩
  obtain⟨t,ht,hs,hi,hb,hu⟩:=ba (K:=K) hx
  refine⟨_,rfl,_,_,_,_,rfl,ht,hs,_,rfl,?_⟩
  cases h1:e7 d with
  | false =>
   refine aI (aI ?_)
   have:=q H (ae.refl H)
   rw [lY h1] at this
   exact this
  | true =>
   refine aT ?_
   obtain⟨y,rfl,rfl⟩:=iT hx h1
   obtain⟨hl,aK⟩:=me hf
   have qn:((decide (1<=y.length) && decide (y.length<=8)) && (sg y).all bH)=false->∀ H1,ae H H1->Q (.bl false) H1:=fun h H1 s1=>by
    have e:dD (.str y)=false:=h
    have:=q H1 s1
    rw [e] at this
    exact this
   refine⟨_,rfl,y,rfl,Nat.le_of_lt (dW (by omega)),_,_,rfl,rfl,_,rfl,?_⟩
   refine cy (fun h2=>?_) (fun h2=>?_)
   ·refine aI (qn ?_ _ (ae.refl _))
    have:=of_decide_eq_true h2
    rw [decide_eq_false (show ¬ 1<=y.length by omega)]
    rfl
   have h2:1<=y.length:=by
    by_cases z:1<=y.length
    ·exact z
    ·exact absurd (decide_eq_true (by omega)) h2
   refine⟨_,rfl,y,rfl,Nat.le_of_lt (dW (by omega)),_,_,rfl,rfl,_,rfl,?_⟩
   refine cy (fun h3=>?_) (fun h3=>?_)
   ·refine qn ?_ _ (ae.refl _)
    have:=of_decide_eq_true h3
    rw [decide_eq_true h2,decide_eq_false (show ¬ y.length<=8 by omega)]
    rfl
   have h3:y.length<=8:=by
    by_cases z:y.length<=8
    ·exact z
    ·exact absurd (decide_eq_true (by omega)) h3
   refine⟨_,rfl,y,rfl,fun acc na=>?_⟩
   refine nU (x:=y) (fun i ys τ H1=>∃ c:Option V,τ = [c]/\ys=(((sg y).take i).filter fun c=>!bH c).map (fun c=>V.str ⟨#[c]⟩)/\H1 acc=some (.lst ys)/\ae H H1) ?_ ?_ ?_ ?_
   ·exact⟨none,rfl,rfl,ab,ae.new na⟩
   ·rintro i ys τ H1 hi ⟨c,rfl,rfl,ha,s1⟩
    refine⟨ha,bc ?_⟩
    rw [List.length_map]
    refine Nat.le_trans (List.length_filter_le ..) ?_
    rw [List.length_take,iS]
    omega
   ·rintro i c ys τ H1 hi ⟨c',rfl,rfl,ha,s1⟩
    have hci:(sg y)[i]? = some c:=by rw [<-hi];exact Array.getElem?_toList
    refine cS ?_
    refine⟨_,rfl,_,_,rfl,rfl,_,rfl,?_⟩
    rw [mM]
    cases hd:bH c with
    | true =>
     refine aT ?_
     refine⟨_,rfl,?_,ha,s1⟩
     rw [List.take_add_one,hci,List.filter_append]
     show _=(_ ++ [c].filter _).map _
     rw [List.filter_cons_of_neg (by simp [hd]),List.filter_nil,List.append_nil]
    | false =>
     refine aI ?_
     refine⟨_,rfl,ha,_,rfl,?_,ab,s1.put na⟩
     rw [List.take_add_one,hci,List.filter_append]
     show _=(_ ++ [c].filter _).map _
     rw [List.filter_cons_of_pos (by simp [hd]),List.filter_nil,List.map_append]
     rfl
   rintro ys τ H1' ⟨c,rfl,rfl,ha,s1'⟩
   rw [show (sg y).take y.cps.size=sg y from List.take_of_length_le (by rw [iS];exact Nat.le_refl _)] at ha
   refine⟨(by show 0<=sizeLine;decide),fun l2 n2=>?_⟩
   have s1:=s1'.trans (ae.new (o:=.lst []) n2)
   have ha1:=ae.new (o:=.lst []) n2 _ _ ha
   have hl2:(upd H1' l2 (.lst [])) l2=some (.lst []):=ab
   generalize (upd H1' l2 (.lst []))=H1 at s1 ha1 hl2
   have lay:(PyData.list (((sg y).filter fun c=>!bH c).map fun c=>PyData.str ⟨#[c]⟩)).canLay0=true:=lX _ fun d hd=>by
    obtain⟨c,hc,rfl⟩:=List.mem_map.mp hd
    exact (nV.one (aK c (List.mem_filter.mp hc).1)).lay
   refine⟨_,.list [],.lst ha1 (km _),.lst hl2 .nil,lay,rfl,(by have:(PyData.list []).depth<=1:=Nat.le_refl 1;omega),?_⟩
   have e:dD (.str y)=(sg y).all bH:=by
    show ((decide (1<=y.length) && decide (y.length<=8)) && (sg y).all bH)=_
    rw [decide_eq_true h2,decide_eq_true h3]
    rfl
   rw [oV,mN,<-e]
   exact q H1 s1
theorem kJ {f:Addr} {fd:FuncData} (F:bZ K "_law_whole" "_law_whole" fg f fd) (Z:Bl mg)  : bg P w K mg base bS 1 f fd ["thing"] eH:=by
 refine F.ok (k:=0) kG (fun vs H Q E h=>?_) (fun cdv A outer s H vs Q E hr h=>?_)
 ·obtain⟨x,d,rfl,_⟩:=h
  rfl
 ·obtain⟨x,d,rfl,hx,q⟩:=h
  refine⟨_,(ah (ao (gd (ai aV rfl Z.isinstance aC (aA (pv 0) (bf (v:=.ty "int") rfl Z.int gw rfl))) (gc (nc (ai aV rfl Z.isinstance aC (aA (pv 0) (bf (v:=.ty "bool") rfl Z.bool i2 rfl)))))))),?_⟩
  obtain⟨t,ht,hs,hi,hb,hu⟩:=ba (K:=K) hx
  refine⟨_,rfl,_,_,_,_,rfl,ht,hi,_,rfl,?_⟩
  rw [ko] at q
  cases h1:L2.intD d with
  | false=>rw [h1] at q;exact aT q
  | true=>rw [h1] at q;exact aI ⟨_,rfl,_,_,_,_,rfl,ht,hb,_,rfl,q⟩
theorem je {f:Addr} {fd:FuncData} (F:bZ K "_law_is_deed" "_law_is_deed" dI f fd) (Z:Bl mg) (O_law_is_name:Own P w K mg base "_law_is_name" 1 ["thing"] fu) (O_law_whole:Own P w K mg base "_law_whole" 1 ["thing"] eH):bg P w K mg base bS 2 f fd ["thing"] gZ:=by
  refine F.ok (k:=1) jc (fun vs H Q E h=>?_) (fun cdv A outer s H vs Q E hr h=>?_)
  · obtain⟨x,d,rfl,_⟩:=h
    rfl
  · obtain⟨x,d,rfl,hx,hf,q⟩:=h
    refine⟨_,(af (aR (PW.pt (bC (bB (bA (ai aV rfl Z.isinstance aC (aA (pv 0) (bf (v:=.ty "tuple") rfl Z.tuple bQ rfl))))) (bC (aw eT (ai ax rfl Z.len aY (ay (pv 0))) aa (aJ _)) (bC (bB (bA (ai aV rfl Z.isinstance aC (aA (aN bO (pv 0) aa) (bf (v:=.ty "str") rfl Z.str gx rfl))))) (bV (bB (bA (av O_law_is_name hr (ay (aN bO (pv 0) aa))))))))))
      (ah (ao br))
      aH)
      (af (aR (aw gu (aN bO (pv 0) aa) (cf (aA aQ aQ)) (by with_unfolding_all rfl))
      (ah (ao (d6 cc (ai ax rfl Z.len aY (ay (pv 0))) aa (aJ _))))
      aH)
      (af (aR (aw gU (ai ax rfl Z.len aY (ay (pv 0))) aa (aJ _))
      (ah (ao br))
      aH)
      (af (aR (aw cc (aN bO (pv 0) aa) aQ (aJ _))
      (ah (ao (av O_law_is_name hr (ay (aN bO (pv 0) aa)))))
      aH)
      (ah (ao (gd (d6 gu (aN bO (pv 0) aa) (cf (aA aQ aQ)) (by with_unfolding_all rfl)) (gc (av O_law_whole hr (ay (aN bO (pv 0) aa))))))))))),?_⟩
    obtain⟨t,ht,hs,hi,hb,hu⟩:=ba (K:=K) hx
    have qn:bE d=false->∀ H1,ae H H1->Q (.bl false) H1:=fun h H1 s1=>by
      have:=q H1 s1
      rw [h] at this
      exact this
    refine⟨_,rfl,_,_,_,_,rfl,ht,hu,_,rfl,?_⟩
    cases h1:cI d with
    | false=>exact aI (aI (qn (qA h1) _ (ae.refl H)))
    | true =>
      refine aT ?_
      obtain⟨p,xs,ds,rfl,rfl,e,r⟩:=cU hx h1
      have hl:=r.len
      have hfs:=(r.d8 hf).2
      refine⟨_,rfl,p,_,rfl,.inr (aG.of e),_,_,rfl,rfl,_,rfl,?_⟩
      by_cases h2:ds.length < 2
      · exact bM (decide_eq_true (by omega)) (aI (qn (o1 h2) _ (ae.refl H)))
      refine bD (decide_eq_false (by omega)) ?_
      rcases ds with _ | ⟨d0,_ | ⟨d1,ds⟩⟩
      · exact absurd (show 0 < 2 by decide) h2
      · exact absurd (show 1 < 2 by decide) h2
      obtain⟨x0,xs0,rfl,r0,r⟩:=r.cons_inv
      obtain⟨x1,xs1,rfl,r1,rt⟩:=r.cons_inv
      have hf1:bb d1=true/\bU ds=true:=by
        simp only [bU,Bool.and_eq_true] at hfs
        exact⟨hfs.2.1,hfs.2.2⟩
      obtain⟨t0,ht0,hs0,_⟩:=ba (K:=K) r0
      refine⟨_,rfl,p,_,0,_,rfl,rfl,aG.of e,di,_,_,_,_,rfl,ht0,hs0,_,rfl,?_⟩
      cases h3:e7 d0 with
      | false=>exact aI (aI (qn (kx h3) _ (ae.refl H)))
      | true =>
      refine aT ?_
      obtain⟨w0,rfl,rfl⟩:=iT r0 h3
      refine⟨_,rfl,p,_,1,_,rfl,rfl,aG.of e,hZ,x1,d1,rfl,r1,hf1.1,fun H1 s1=>⟨_,rfl,?_⟩⟩
      cases h4:dD d1 with
      | false=>exact aI (qn (o2 h4) _ s1)
      | true =>
      refine aT ?_
      have e1:=s1 _ _ e
      have hl1:xs1.length=ds.length:=by simpa using hl
      refine⟨_,rfl,p,_,0,_,rfl,rfl,aG.of e1,di,ln2,fun l2 n2=>?_⟩
      have s2:=s1.trans (ae.new (o:=.lst [.str "read",.str "tell"]) n2)
      have hl2:(upd H1 l2 (.lst [.str "read",.str "tell"])) l2=some (.lst [.str "read",.str "tell"]):=ab
      generalize (upd H1 l2 (.lst [.str "read",.str "tell"]))=H2 at s2 hl2 ⊢
      have e2:=s2 _ _ e
      refine⟨l2,_,rfl,.inl (aW.of hl2),rfl,rfl,_,rfl,?_⟩
      by_cases h5:w0 = "read" \/ w0 = "tell"
      · refine bM ((iV _ _ _).trans (decide_eq_true h5)) ?_
        refine⟨_,rfl,p,_,rfl,.inr (aG.of e2),rfl,?_⟩
        have:=q H2 s2
        rw [i5 h5 h4] at this
        have eq:decide (V.int ((V.str w0 :: x1 :: xs1).length:Nat)=V.int 2)=decide (ds.length=0):=by
          by_cases z:ds.length=0
          · rw [decide_eq_true z];exact decide_eq_true (congrArg V.int (by rw [List.length_cons,List.length_cons];omega))
          · rw [decide_eq_false z];exact decide_eq_false (fun h=>z (by have:=V.int.inj h;rw [List.length_cons,List.length_cons] at this;omega))
        rw [<-eq] at this
        exact this
      refine bD ((iV _ _ _).trans (decide_eq_false h5)) ?_
      refine⟨_,rfl,p,_,rfl,.inr (aG.of e2),rfl,_,rfl,?_⟩
      by_cases h6:ds.length=1
      rotate_left
      · exact bM (by rw [decide_eq_false (fun z=>h6 (by have:=V.int.inj z;rw [List.length_cons,List.length_cons] at this;omega))];rfl) (qn (o3 h5 h6) _ s2)
      refine bD (by rw [decide_eq_true (congrArg V.int (by rw [List.length_cons,List.length_cons];omega))];rfl) ?_
      obtain⟨d2,rfl⟩:∃ d2,ds = [d2]:=List.length_eq_one_iff.mp h6
      obtain⟨x2,xs2,rfl,r2,rn⟩:=rt.cons_inv
      have z:=rn.nil_inv
      subst z
      have hf2:bb d2=true:=by
        have:=hf1.2
        simp only [bU,Bool.and_eq_true] at this
        exact this.1
      refine⟨_,rfl,p,_,0,_,rfl,rfl,aG.of e2,di,rfl,_,rfl,?_⟩
      by_cases h7:w0 = "copy"
      · refine bM (decide_eq_true (congrArg V.str h7)) ?_
        rw [h7,jC h4] at q
        exact⟨_,rfl,p,_,2,_,rfl,rfl,aG.of e2,at2,x2,d2,rfl,r2.bo s2,hf2,fun H6 s6=>q H6 (s2.trans s6)⟩
      refine bD (decide_eq_false (fun z=>h7 (V.str.inj z))) ?_
      refine⟨_,rfl,p,_,0,_,rfl,rfl,aG.of e2,di,ln2,fun l3 n3=>?_⟩
      have s3:=s2.trans (ae.new (o:=.lst [.str "put",.str "add"]) n3)
      have hl3:(upd H2 l3 (.lst [.str "put",.str "add"])) l3=some (.lst [.str "put",.str "add"]):=ab
      generalize (upd H2 l3 (.lst [.str "put",.str "add"]))=H3 at s3 hl3 ⊢
      refine⟨l3,_,rfl,.inl (aW.of hl3),rfl,rfl,_,rfl,?_⟩
      by_cases h8:w0 = "put" \/ w0 = "add"
      · refine bM ((iV _ _ _).trans (decide_eq_true h8)) ?_
        rw [i6 h8 h4] at q
        exact⟨_,rfl,p,_,2,_,rfl,rfl,aG.of (s3 _ _ e),at2,x2,d2,rfl,r2.bo s3,q H3 s3⟩
      · have e0:j6 (V.str w0) [V.str "put",V.str "add"] = false:=(iV _ _ _).trans (decide_eq_false h8)
        refine bD e0 ?_
        exact qn (o4 h5 h7 h8) H3 s3
theorem jI {f:Addr} {fd:FuncData} (F:bZ K "_law_is_end" "_law_is_end" eO f fd) (Z:Bl mg) (O_law_is_name:Own P w K mg base "_law_is_name" 1 ["thing"] fu) (O_law_whole:Own P w K mg base "_law_whole" 1 ["thing"] eH):bg P w K mg base bS 2 f fd ["thing", "count"] iU:=by
  refine F.ok (k:=1) dJ (fun vs H Q E h=>?_) (fun cdv A outer s H vs Q E hr h=>?_)
  · obtain⟨x,d,n,rfl,_⟩:=h
    rfl
  · obtain⟨x,d,n,rfl,hx,hf,q⟩:=h
    refine⟨_,(af (aR (PW.pt (bC (bB (bA (ai aV rfl Z.isinstance aC (aA (pv 0) (bf (v:=.ty "tuple") rfl Z.tuple bQ rfl))))) (bC (aw (jD hr.units) (pv 0) (cu cA) (aJ _)) (bV (bB (bA (ai aV rfl Z.isinstance aC (aA (aN bO (pv 0) aa) (bf (v:=.ty "str") rfl Z.str gx rfl)))))))))
      (ah (ao br))
      aH)
      (af (bw (i:=2) dJ.nd (qt (fH aQ aa (fH aQ aa (fH aQ aa (fH aQ aa qr)))) rfl rfl (List.cons_ne_nil _ _) (by show 4<=15;decide)))
      (af (aR (aw gU (nS (sH hr) (pv 2) (aN bO (pv 0) aa) aa ⟨rfl,rfl,rfl,rfl⟩) (ai ax rfl Z.len aY (ay (pv 0))) (aJ _))
      (ah (ao br))
      aH)
      (af (nK (aR (PW.pt (iG (aw cc (ai ax rfl Z.len aY (ay (pv 0))) aa (aJ _)) (iX (PW.pt (bC (bB (bA (av O_law_is_name hr (ay (aN bO (pv 0) aa))))) (bV (bB (bA (av O_law_whole hr (ay (aN bO (pv 0) aa)))))))))))
      (ah (ao br))
      aH))
      (af (gi PassesOwn.never rfl (gg (aN bF (cf (aA (bP b9 (pv 0) (bY aa) b8) (bP b9 (pv 0) (bY aa) b8))) (cK gr rfl Z.int gw (ay (d6 cc (ai ax rfl Z.len aY (ay (pv 0))) aa (aJ _)))))) (b0 (i:=3) dJ.nd)
      (ah (aR (PW.pt (bC (bB (bA (av O_law_whole hr (ay (pv 3))))) (bC (aw eT (pv 3) aa (aJ _)) (bV (aw sA (pv 3) (pv 1) (aJ _))))))
      (ah (ao br))
      aH)))
      (ah (ao br))))))),?_⟩
    obtain⟨t,ht,hs,hi,hb,hu⟩:=ba (K:=K) hx
    have qn:cX d n=false->∀ H1,ae H H1->Q (.bl false) H1:=fun h H1 s1=>by
      have:=q H1 s1
      rw [h] at this
      exact this
    refine⟨_,rfl,_,_,_,_,rfl,ht,hu,_,rfl,?_⟩
    cases h1:cI d with
    | false=>exact aI (aI (qn (sf h1) _ (ae.refl H)))
    | true =>
    refine aT ?_
    obtain⟨p,xs,ds,rfl,rfl,e,r⟩:=cU hx h1
    have hfs:=r.d8 hf
    refine⟨_,rfl,(by show 0<=sizeLine;decide),fun t0 nt0=>?_⟩
    have s1:=ae.new (o:=.tup []) nt0
    have ht0:(upd H t0 (.tup [])) t0=some (.tup []):=ab
    generalize (upd H t0 (.tup []))=H1 at s1 ht0 ⊢
    refine⟨p,t0,xs,rfl,rfl,aG.of (s1 _ _ e),aG.of ht0,_,rfl,?_⟩
    cases r with
    | nil=>exact aI (aI (qn rfl _ s1))
    | @cons x0 xs0 d0 ds r0 rt =>
    refine aT ?_
    obtain⟨t1,ht1,hs1,_⟩:=ba (K:=K) (r0.bo s1)
    refine⟨_,rfl,p,_,0,_,rfl,rfl,aG.of (s1 _ _ e),di,_,_,_,_,rfl,ht1,hs1,_,rfl,?_⟩
    cases h3:e7 d0 with
    | false=>exact aI (qn (qG h3) _ s1)
    | true =>
    refine aT ?_
    obtain⟨w0,rfl,rfl⟩:=iT r0 h3
    clear hs1 ht1 hs hi hb hu h3 hx ht
    refine fun nd nnd=>⟨ab,[((Sum.inr ("stop" : Str):Key),V.int 1),(Sum.inr ("go" : Str),V.int 2),(Sum.inr ("less" : Str),V.int 5),(Sum.inr ("is" : Str),V.int 5)],rfl,(by decide),?_⟩
    have hnd:(upd (upd H1 nd (.dK [])) nd (.dK (cB [] [((Sum.inr ("stop" : Str):Key),V.int 1),(Sum.inr ("go" : Str),V.int 2),(Sum.inr ("less" : Str),V.int 5),(Sum.inr ("is" : Str),V.int 5)]))) nd=some (.dK (cB [] [((Sum.inr ("stop" : Str):Key),V.int 1),(Sum.inr ("go" : Str),V.int 2),(Sum.inr ("less" : Str),V.int 5),(Sum.inr ("is" : Str),V.int 5)])):=ab
    have s2:ae H (upd (upd H1 nd (.dK [])) nd (.dK (cB [] [((Sum.inr ("stop" : Str):Key),V.int 1),(Sum.inr ("go" : Str),V.int 2),(Sum.inr ("less" : Str),V.int 5),(Sum.inr ("is" : Str),V.int 5)]))):=s1.trans ((ae.new nnd).put nnd)
    have hget:(dG (cB [] [((Sum.inr ("stop" : Str):Key),V.int 1),(Sum.inr ("go" : Str),V.int 2),(Sum.inr ("less" : Str),V.int 5),(Sum.inr ("is" : Str),V.int 5)]) (Sum.inr w0:Key)).getD (.int 0)=.int (fA w0:Nat):=qI w0
    generalize (upd (upd H1 nd (.dK [])) nd (.dK (cB [] [((Sum.inr ("stop" : Str):Key),V.int 1),(Sum.inr ("go" : Str),V.int 2),(Sum.inr ("less" : Str),V.int 5),(Sum.inr ("is" : Str),V.int 5)])))=H2 at hnd s2 ⊢
    generalize (cB [] [((Sum.inr ("stop" : Str):Key),V.int 1),(Sum.inr ("go" : Str),V.int 2),(Sum.inr ("less" : Str),V.int 5),(Sum.inr ("is" : Str),V.int 5)])=kd at hnd hget
    have e2:=s2 _ _ e
    refine⟨_,rfl,nd,rfl,.inl ⟨_,.inl hnd⟩,_,rfl,p,_,0,_,rfl,rfl,aG.of e2,di,_,_,ke.k (k:=Sum.inr w0) hnd,hget,_,rfl,p,_,rfl,.inr (aG.of e2),rfl,_,rfl,?_⟩
    have hl0:=rt.len
    by_cases h4:fA w0=ds.length+1
    rotate_left
    · refine bM ?_ (qn (qH h4) _ s2)
      rw [decide_eq_false (fun z=>h4 (by have:=V.int.inj z;rw [List.length_cons] at this;omega))]
      rfl
    refine bD ?_ ?_
    · rw [decide_eq_true (congrArg V.int (by rw [List.length_cons];omega))]
      rfl
    refine⟨fun σ' H'=>σ' = [some (.ref p),some (.int (n:Nat)),some (.ref nd),none]/\ae H H'/\cX (.tuple (.str w0 :: ds)) n=(if ds.length+1=5 then ds.drop 2 else ds).all (fun d=>eY d n),?_,?_⟩
    · refine⟨_,rfl,p,_,rfl,.inr (aG.of e2),rfl,_,rfl,?_⟩
      by_cases h5:ds.length+1=5
      rotate_left
      · refine bD (decide_eq_false (fun z=>h5 (by have:=V.int.inj z;rw [List.length_cons] at this;omega))) ?_
        exact aT ⟨rfl,s2,by rw [iz h4 h5,if_neg h5]⟩
      · refine bM (decide_eq_true (congrArg V.int (by rw [List.length_cons];omega))) ?_
        obtain⟨d1,d2,d3,d4,rfl⟩:∃ d1 d2 d3 d4,ds = [d1,d2,d3,d4]:=by
          rcases ds with _ | ⟨d1,_ | ⟨d2,_ | ⟨d3,_ | ⟨d4,_ | ⟨d5,ds⟩⟩⟩⟩⟩
          · cases h5
          · cases h5
          · cases h5
          · cases h5
          · exact⟨d1,d2,d3,d4,rfl⟩
          · simp at h5
        obtain⟨x1,xs1,rfl,r1,rt⟩:=rt.cons_inv
        obtain⟨x2,xs2,rfl,r2,rt⟩:=rt.cons_inv
        have hf1:bb d1=true:=by
          have:=hfs.2
          simp only [bU,Bool.and_eq_true] at this
          exact this.2.1
        refine⟨_,rfl,p,_,1,_,rfl,rfl,aG.of e2,hZ,x1,d1,rfl,r1.bo s2,hf1,fun H3 s3=>⟨_,rfl,?_⟩⟩
        have s3:=s2.trans s3
        have he5:=kB (d1:=d1) (d2:=d2) (d3:=d3) (d4:=d4) (n:=n) h4
        cases h6:dD d1 with
        | false=>exact aI (aI (qn (by rw [he5,h6];rfl) _ s3))
        | true =>
        refine aT ?_
        refine⟨_,rfl,p,_,2,_,rfl,rfl,aG.of (s3 _ _ e),at2,x2,d2,rfl,r2.bo s3,_,rfl,?_⟩
        cases h7:cL d2 with
        | false=>exact aI (qn (by rw [he5,h6,h7];rfl) _ s3)
        | true=>exact aT ⟨rfl,s3,by rw [he5,h6,h7];rfl⟩
    rintro σ' H3 ⟨rfl,s3,hes⟩
    refine⟨_,rfl,_,rfl,p,_,rfl,s3 _ _ e,fun t1 H4 ht1 s4=>?_⟩
    have s4:=s3.trans s4
    rw [show cH (V.str w0 :: xs0) (some 1) none=xs0 from du (k:=1) (by rw [List.length_cons];omega)] at ht1
    refine⟨_,rfl,_,rfl,p,_,rfl,s4 _ _ e,fun t3 H5 ht3 s5=>?_⟩
    have ht1:=s5 _ _ ht1
    have s5:=s4.trans s5
    refine⟨ln2,fun l nl=>?_⟩
    have sl:=ae.new (o:=.lst [.ref t1,.ref t3]) nl
    have hl:(upd H5 l (.lst [.ref t1,.ref t3])) l=some (.lst [.ref t1,.ref t3]):=ab
    have s6:=s5.trans sl
    have ht1:=sl _ _ ht1
    have ht3:=sl _ _ ht3
    generalize (upd H5 l (.lst [.ref t1,.ref t3]))=H6 at sl hl s6 ht1 ht3 ⊢
    clear sl nl
    refine⟨_,rfl,p,_,rfl,.inr (aG.of (s6 _ _ e)),rfl,?_⟩
    obtain⟨tt,ys,hat,htt,hrr⟩:∃ (tt:Addr) (ys:List V),dh [V.ref t1,V.ref t3] (if decide (V.int ((V.str w0 :: xs0).length:Nat)=V.int 5)=true then 1 else 0)=some (.ref tt)/\H6 tt=some (.tup ys)/\au H ys (if ds.length+1=5 then ds.drop 2 else ds):=by
      by_cases h5:ds.length+1=5
      · refine⟨t3,xs0.drop 2,?_,?_,?_⟩
        · rw [if_pos (decide_eq_true (congrArg V.int (by rw [List.length_cons];omega)))];rfl
        · rw [show cH (V.str w0 :: xs0) (some 3) none=xs0.drop 2 from du (xs:=V.str w0 :: xs0) (k:=3) (by rw [List.length_cons];omega)] at ht3
          exact ht3
        · rw [if_pos h5]
          exact rt.eW 2
      · refine⟨t1,xs0,?_,ht1,?_⟩
        · rw [if_neg (by rw [decide_eq_false (fun z=>h5 (by have:=V.int.inj z;rw [List.length_cons] at this;omega))];decide)];rfl
        · rw [if_neg h5]
          exact rt
    generalize (if ds.length+1=5 then ds.drop 2 else ds)=es at hes hrr
    refine .inr ⟨_,rfl,l,_,_,_,rfl,rfl,aW.of hl,hat,?_⟩
    refine⟨tt,rfl,⟨_,aG.of htt⟩,lu (K:=K) (a:=tt) (xs:=ys) (fun i σ H'=>∃ (u:Option V),σ = [some (.ref p),some (.int (n:Nat)),some (.ref nd),u]/\(∀ j < i,∀ d,es[j]? = some d->eY d n=true)/\ae H6 H') ?_ ?_ ?_ ?_⟩
    · exact⟨none,rfl,(fun j hj=>absurd hj (Nat.not_lt_zero j)),ae.refl H6⟩
    · rintro i σ H7 hi ⟨u,rfl,g1,g2⟩
      exact aG.of (g2 _ _ htt)
    · rintro i y σ H7 hy ⟨u,rfl,g1,g2⟩
      have hlt:i < es.length:=by
        obtain⟨z,_⟩:=List.getElem?_eq_some_iff.mp hy
        have hlen:=hrr.len
        omega
      have hd4:es[i]? = some es[i]:=List.getElem?_eq_getElem hlt
      obtain⟨x3,hx3,rx⟩:=hrr.get hd4
      obtain rfl:x3=y:=Option.some.inj (hx3.symm.trans hy)
      have s7:=s6.trans g2
      have no:eY es[i] n=false->Q (.bl false) H7:=fun z=>qn (by rw [hes];exact gK hd4 z) _ s7
      refine cS ?_
      refine⟨_,rfl,x3,es[i],rfl,rx.bo s7,_,rfl,?_⟩
      cases h8:cL es[i] with
      | false=>exact aI (aI (no (n5 h8)))
      | true =>
      refine aT ?_
      obtain⟨k,rfl,hk⟩:=nX rx h8
      have hpc:eY es[i] n=(decide (0<=k) && decide (k < (n:Int))):=by rw [iA,hk]
      refine⟨_,rfl,_,_,rfl,rfl,_,rfl,?_⟩
      by_cases h9:k < 0
      · exact bM (decide_eq_true h9) (aI (no (by rw [hpc,decide_eq_false (by omega)];rfl)))
      refine bD (decide_eq_false h9) ?_
      refine⟨_,rfl,_,rfl,_,_,rfl,rfl,_,rfl,?_⟩
      by_cases h10:k < n
      · refine bD (decide_eq_false (by omega)) ?_
        refine⟨_,rfl,fun j hj d hd=>?_,g2⟩
        rcases Nat.lt_succ_iff_lt_or_eq.mp hj with hj | rfl
        · exact g1 j hj d hd
        · rw [hd4] at hd
          cases hd
          rw [hpc,decide_eq_true (by omega),decide_eq_true h10]
          rfl
      · exact bM (decide_eq_true (by omega)) (no (by rw [hpc,decide_eq_false h10,Bool.and_false]))
    · rintro σ H7 ⟨u,rfl,g1,g2⟩
      have:=q H7 (s6.trans g2)
      rw [hes,ig (fun j hj d hd=>g1 j (by rw [hrr.len];exact hj) d hd)] at this
      exact this
theorem jf {f:Addr} {fd:FuncData} (F:bZ K "_law_is_plan" "_law_is_plan" dM f fd) (Z:Bl mg) (O_law_is_deed:Own P w K mg base "_law_is_deed" 2 ["thing"] gZ) (O_law_is_end:Own P w K mg base "_law_is_end" 2 ["thing", "count"] iU):bg P w K mg base bS 3 f fd ["thing"] hG:=by
  refine F.ok (k:=2) fB (fun vs H Q E h=>?_) (fun cdv A outer s H vs Q E hr h=>?_)
  · obtain⟨x,d,rfl,_⟩:=h
    rfl
  · obtain⟨x,d,rfl,hx,hf,q⟩:=h
    refine⟨_,(af (aR (PW.pt (bC (bB (bA (ai aV rfl Z.isinstance aC (aA (pv 0) (bf (v:=.ty "tuple") rfl Z.tuple bQ rfl))))) (bC (aw eT (ai ax rfl Z.len aY (ay (pv 0))) aa (aJ _)) (bV (aw fG (ai ax rfl Z.len aY (ay (pv 0))) aa (aJ _))))))
      (ah (ao br))
      aH)
      (af (gi PassesOwn.never rfl (gg (pv 0)) (b0 (i:=1) fB.nd)
      (af (aR (PW.pt (bC (bB (bA (ai aV rfl Z.isinstance aC (aA (pv 1) (bf (v:=.ty "tuple") rfl Z.tuple bQ rfl))))) (bC (aw gU (ai ax rfl Z.len aY (ay (pv 1))) aa (aJ _)) (bV (bB (bA (ai aV rfl Z.isinstance aC (aA (aN bO (pv 1) aa) (bf (v:=.ty "tuple") rfl Z.tuple bQ rfl)))))))))
      (ah (ao br))
      aH)
      (af (aR (PW.pt (bC (aw fG (ai ax rfl Z.len aY (ay (aN bO (pv 1) aa))) aa (aJ _)) (bV (aw gu br (cW ["deed"] [] [] rfl (gg (aN bO (pv 1) aa)) rfl (by decide +kernel) (by decide +kernel) (by decide +kernel) True.intro (fun _ _ _ _=>(b0 (i:=0) (show ((["deed"]:List Str)++([]:List Str)).Nodup by decide +kernel) (hf:=Or.inr rfl))) (fun _ _ _ _=>dn) (fun _ _ _ _=>(av O_law_is_deed hr (ay (pv 0))))) (by with_unfolding_all rfl)))))
      (ah (ao br))
      aH)
      (ah (aR (bB (bA (av O_law_is_end hr (aA (aN bO (pv 1) aa) (ai ax rfl Z.len aY (ay (pv 0)))))))
      (ah (ao br))
      aH)))))
      (ah (ao br)))),?_⟩
    obtain⟨t,ht,hs,hi,hb,hu⟩:=ba (K:=K) hx
    have qn:dX d=false->∀ H1,ae H H1->Q (.bl false) H1:=fun h H1 s1=>by
      have:=q H1 s1
      rw [h] at this
      exact this
    refine⟨_,rfl,_,_,_,_,rfl,ht,hu,_,rfl,?_⟩
    cases h1:cI d with
    | false=>exact aI (aI (qn (ma h1) _ (ae.refl H)))
    | true =>
    refine aT ?_
    obtain⟨p,xs,ds,rfl,rfl,e,r⟩:=cU hx h1
    have hl:=r.len
    have hfs:=r.d8 hf
    clear hs hi hb hu ht
    refine⟨_,rfl,p,_,rfl,.inr (aG.of e),_,_,rfl,rfl,_,rfl,?_⟩
    by_cases h2:ds.length < 1
    · exact bM (decide_eq_true (by omega)) (aI (qn (iB (by omega)) _ (ae.refl H)))
    refine bD (decide_eq_false (by omega)) ?_
    refine⟨_,rfl,p,_,rfl,.inr (aG.of e),_,_,rfl,rfl,_,rfl,?_⟩
    by_cases h3:ds.length > 400
    · exact bM (decide_eq_true (by omega)) (qn (iB (by omega)) _ (ae.refl H))
    refine bD (decide_eq_false (by omega)) ?_
    have hpl:=mj (ds:=ds) ⟨by omega,by omega⟩
    refine⟨_,rfl,p,rfl,⟨_,aG.of e⟩,lu (K:=K) (a:=p) (xs:=xs) (fun i σ H'=>∃ (u:Option V),σ = [some (.ref p),u]/\(∀ j < i,∀ d,ds[j]? = some d->bG d ds.length=true)/\ae H H') ?_ ?_ ?_ ?_⟩
    · exact⟨none,rfl,(fun j hj=>absurd hj (Nat.not_lt_zero j)),ae.refl H⟩
    · rintro i σ H7 hi ⟨u,rfl,g1,g2⟩
      exact aG.of (g2 _ _ e)
    · rintro i y σ H7 hy ⟨u,rfl,g1,g2⟩
      have hlt:i < ds.length:=by
        obtain⟨z,_⟩:=List.getElem?_eq_some_iff.mp hy
        omega
      have hd4:ds[i]? = some ds[i]:=List.getElem?_eq_getElem hlt
      obtain⟨x3,hx3,rx⟩:=r.get hd4
      obtain rfl:x3=y:=Option.some.inj (hx3.symm.trans hy)
      have hf3:=cM hfs.2 hd4
      have no:bG ds[i] ds.length=false->∀ H8,ae H7 H8->Q (.bl false) H8:=fun z H8 s8=>qn (by rw [hpl];exact gK (f:=fun p=>bG p ds.length) hd4 z) _ (g2.trans s8)
      have go:bG ds[i] ds.length=true->∀ j < i+1,∀ d,ds[j]? = some d->bG d ds.length=true:=fun z j hj d hd=>by
        rcases Nat.lt_succ_iff_lt_or_eq.mp hj with hj | rfl
        · exact g1 j hj d hd
        · rw [hd4] at hd
          cases hd
          exact z
      clear g1 hx3
      generalize ds[i] = pc at *
      have rx:=rx.bo g2
      obtain⟨t1,ht1,_,_,_,hu1⟩:=ba (K:=K) rx
      refine cS ?_
      refine⟨_,rfl,_,_,_,_,rfl,ht1,hu1,_,rfl,?_⟩
      cases h4:cI pc with
      | false=>exact aI (aI (no (ku h4) _ (ae.refl _)))
      | true =>
      refine aT ?_
      obtain⟨p1,ys,es,rfl,rfl,e1,r1⟩:=cU rx h4
      have hl1:=r1.len
      refine⟨_,rfl,p1,_,rfl,.inr (aG.of e1),rfl,_,rfl,?_⟩
      by_cases h5:es.length=2
      rotate_left
      · refine bM ?_ (aI (no (jA h5) _ (ae.refl _)))
        rw [decide_eq_false (fun z=>h5 (by have:=V.int.inj z;omega))]
        rfl
      refine bD (by rw [decide_eq_true (congrArg V.int (by omega))];rfl) ?_
      obtain⟨d1,d2,rfl⟩:∃ d1 d2,es = [d1,d2]:=by
        rcases es with _ | ⟨d1,_ | ⟨d2,_ | ⟨d3,es⟩⟩⟩
        · cases h5
        · cases h5
        · exact⟨d1,d2,rfl⟩
        · simp at h5
      obtain⟨x1,xs1,rfl,ra,rt⟩:=r1.cons_inv
      obtain⟨x2,xs2,rfl,r2,rt⟩:=rt.cons_inv
      have z:=rt.nil_inv
      subst z
      have hf2:bb d1=true/\bb d2=true:=by
        simp only [bb,bU,Bool.and_eq_true] at hf3
        exact⟨hf3.2.1,hf3.2.2.1⟩
      obtain⟨t2,ht2,_,_,_,hu2⟩:=ba (K:=K) ra
      refine⟨_,rfl,p1,_,0,_,rfl,rfl,aG.of e1,di,_,_,_,_,rfl,ht2,hu2,_,rfl,?_⟩
      cases h6:cI d1 with
      | false=>exact aI (no (jB h6) _ (ae.refl _))
      | true =>
      refine aT ?_
      obtain⟨p2,zs,fs,rfl,rfl,e3,r3⟩:=cU ra h6
      have hl3:=r3.len
      have hf4:=r3.d8 hf2.1
      have hpc:bG (.tuple [.tuple fs,d2]) ds.length=(decide (fs.length<=12) && (fs.all bE && cX d2 ds.length)):=rfl
      refine⟨_,rfl,p1,_,0,_,rfl,rfl,aG.of e1,di,p2,_,rfl,.inr (aG.of e3),_,_,rfl,rfl,_,rfl,?_⟩
      by_cases h7:fs.length > 12
      · exact bM (decide_eq_true (by omega)) (aI (no (by rw [hpc,decide_eq_false (by omega)];rfl) _ (ae.refl _)))
      refine bD (decide_eq_false (by omega)) ?_
      refine⟨_,rfl,p1,_,0,_,rfl,rfl,aG.of e1,di,p2,rfl,⟨_,aG.of e3⟩,fun acc na=>?_⟩
      refine j9 (K:=K) (a:=p2) (xs:=zs) (fun i ys τ H1=>∃ c:Option V,τ = [c]/\ys=((fs.take i).map bE).map V.bl/\H1 acc=some (.lst ys)/\ae H7 H1) ?_ ?_ ?_ ?_
      · exact⟨none,rfl,rfl,ab,ae.new na⟩
      · rintro i ys τ H1 hi ⟨c,rfl,rfl,ha,s1⟩
        refine⟨aG.of (s1 _ _ e3),ha,bc ?_⟩
        rw [List.length_map,List.length_map,List.length_take]
        omega
      · rintro i x' ys τ H1 hxi ⟨c,rfl,rfl,ha,s1⟩
        refine cS ?_
        refine iw ?_
        refine aI ?_
        have hlt:i < fs.length:=by
          obtain⟨z,_⟩:=List.getElem?_eq_some_iff.mp hxi
          omega
        have hd5:fs[i]? = some fs[i]:=List.getElem?_eq_getElem hlt
        obtain⟨x3,hx3,rx⟩:=r3.get hd5
        obtain rfl:x3=x':=Option.some.inj (hx3.symm.trans hxi)
        refine⟨_,rfl,x3,fs[i],rfl,rx.bo s1,cM hf4.2 hd5,fun H6 s6=>?_⟩
        have ha6:=s6 _ _ ha
        refine⟨ha6,_,rfl,?_,ab,(s1.trans s6).put na⟩
        rw [List.take_add_one,hd5,List.map_append,List.map_append]
        rfl
      rintro ys τ H8 ⟨c,rfl,rfl,ha,s8⟩
      rw [List.take_of_length_le (Nat.le_of_eq r3.len.symm)] at ha
      refine⟨acc,_,rfl,.inl (aW.of ha),rfl,?_,_,rfl,?_⟩
      · rw [List.all_eq_true]
        intro v hv
        obtain⟨b,_,rfl⟩:=List.mem_map.mp hv
        rfl
      have hin:j6 (.bl false) ((fs.map bE).map V.bl) = !fs.all bE:=by rw [n9,List.all_map];rfl
      cases h8:fs.all bE with
      | false=>exact bM (hin.trans (by rw [h8];rfl)) (no (by rw [hpc,h8,Bool.false_and,Bool.and_false]) _ s8)
      | true =>
      refine bD (hin.trans (by rw [h8];rfl)) ?_
      refine⟨_,rfl,p1,_,1,_,rfl,rfl,aG.of (s8 _ _ e1),hZ,_,rfl,p,_,rfl,.inr (aG.of ((g2.trans s8) _ _ e)),x2,d2,ds.length,(by rw [hl];rfl),r2.bo s8,hf2.2,fun H9 s9=>⟨_,rfl,?_⟩⟩
      have s9:=s8.trans s9
      cases h9:cX d2 ds.length with
      | false=>exact aI (no (by rw [hpc,h9,Bool.and_false,Bool.and_false]) _ s9)
      | true=>exact aT ⟨_,rfl,go (by rw [hpc,h8,h9,decide_eq_true (by omega)];rfl),g2.trans s9⟩
    · rintro σ H7 ⟨u,rfl,g1,g2⟩
      have:=q H7 g2
      rw [hpl,ig (f:=fun p=>bG p ds.length) (fun j hj d hd=>g1 j (by rw [hl];exact hj) d hd)] at this
      exact this
theorem mX {f:Addr} {fd:FuncData} (F:bZ K "_law_bag" "_law_bag" gP f fd) (Z:Bl mg)  : bg P w K mg base bS 1 f fd ["script", "k"] (pO K):=by
 refine F.ok (k:=0) fO (fun vs H Q E h=>?_) (fun cdv A outer s H vs Q E hr h=>?_)
 ·obtain⟨a,ns,k,rfl,_⟩:=h
  rfl
 ·obtain⟨a,ns,k,rfl,hS,hk,q⟩:=h
  refine⟨_,(af (bw (i:=2) fO.nd aa)
   (af (aR (aw eT (pv 1) (ai ax rfl Z.len aY (ay (pv 0))) (aJ _))
   (ah (bw (i:=2) fO.nd (aL en (aN bF (pv 0) (pv 1)) (aL i1 (aL er aa aa) (aL er aa aa)))))
   aH)
   (af (aR (aw eT (pv 2) (aL er aa aa) (aJ _))
   (ah (ao (cf (aA aa (aL cb aa (aL en (aL cb (aL fm (pv 2) aa) (aL fm aa (pv 1))) aa))))))
   aH)
   (ah (ao (cf (aA (pv 2) (aL cb aa (aL en (aL cb (pv 2) (pv 1)) aa))))))))),?_⟩
  refine⟨_,rfl,_,rfl,_,_,rfl,.inl hS,_,_,rfl,rfl,_,rfl,?_⟩
  refine cy (fun hc=>?_) (fun hc=>?_)
  ·have hl:k < ((ns.map V.int).length:Nat):=of_decide_eq_true hc
   obtain⟨v,hv,hm⟩:=mD hk hl
   obtain⟨z,_,rfl⟩:=List.mem_map.mp hm
   refine⟨_,rfl,_,rfl,_,_,_,_,rfl,rfl,hS,hv,10,60,rfl,rfl,⟨by decide,by decide,by decide⟩,10,60,rfl,rfl,⟨by decide,by decide,by decide⟩,_,_,rfl,rfl,(by unfold IntMulOk;decide +kernel),_,_,rfl,rfl,(show (0:Int) < 10 ^ (60:Int).toNat * 10 ^ (60:Int).toNat by decide +kernel),?_⟩
   refine⟨_,rfl,10,18,rfl,rfl,⟨by decide,by decide,by decide⟩,_,_,rfl,rfl,_,rfl,?_⟩
   refine cy (fun hd=>?_) (fun hd=>?_)
   ·refine⟨_,rfl,_,_,rfl,rfl,.inr ⟨by decide,by decide⟩,_,rfl,_,_,rfl,rfl,.inl ⟨by decide,by decide⟩,_,_,rfl,rfl,_,_,rfl,rfl,(show (0:Int) < 2147483646 by decide),_,_,rfl,rfl,ln2,fun p hp=>?_⟩
    exact q p _ hp ⟨_,_,ab,by omega,by omega⟩ (ae.new hp)
   ·refine⟨_,rfl,_,rfl,_,rfl,_,_,rfl,rfl,_,_,rfl,rfl,(show (0:Int) < 2147483646 by decide),_,_,rfl,rfl,ln2,fun p hp=>?_⟩
    exact q p _ hp ⟨_,_,ab,by omega,by omega⟩ (ae.new hp)
  ·refine⟨_,rfl,10,18,rfl,rfl,⟨by decide,by decide,by decide⟩,_,_,rfl,rfl,_,rfl,?_⟩
   refine cy (fun hd=>?_) (fun hd=>?_)
   ·refine⟨_,rfl,_,_,rfl,rfl,.inr ⟨by decide,by decide⟩,_,rfl,_,_,rfl,rfl,.inl ⟨by decide,by decide⟩,_,_,rfl,rfl,_,_,rfl,rfl,(show (0:Int) < 2147483646 by decide),_,_,rfl,rfl,ln2,fun p hp=>?_⟩
    exact q p _ hp ⟨_,_,ab,by omega,by omega⟩ (ae.new hp)
   ·refine⟨_,rfl,_,rfl,_,rfl,_,_,rfl,rfl,_,_,rfl,rfl,(show (0:Int) < 2147483646 by decide),_,_,rfl,rfl,ln2,fun p hp=>?_⟩
    exact q p _ hp ⟨_,_,ab,by omega,by omega⟩ (ae.new hp)
theorem kX {f:Addr} {fd:FuncData} (F:bZ K "_law_take" "_law_take" fP f fd) (Z:Bl mg)  : bg P w K mg base bS 1 f fd ["bag", "many"] cR:=by
 refine F.ok (k:=0) ij (fun vs H Q E h=>?_) (fun cdv A outer s H vs Q E hr h=>?_)
 ·obtain⟨b,m,rfl,_⟩:=h
  rfl
 ·obtain⟨b,m,rfl,⟨x,y,hb,h0,h1⟩,hm,q⟩:=h
  refine⟨_,(af (aR (aw fG (aN bF (pv 0) aa) aa (aJ _))
   (af (bw (i:=2) ij.nd (aL en (aN bF (pv 0) aa) (pv 1)))
   (af (iH (aL oN (aN bF (pv 0) aa) (pv 1)) (jX (pv 0) aa set_list))
   (ah (ao (pv 2)))))
   aH)
   (af (iH (aL en (aL fm (aN bF (pv 0) aa) aa) aa) (jX (pv 0) aa set_list))
   (ah (ao (aL en (aL lB (aL en (aL fm (aN bF (pv 0) aa) (aN bF (pv 0) aa)) aa) aa) (pv 1)))))),?_⟩
  refine⟨_,rfl,b,_,0,_,rfl,rfl,aW.of hb,di,_,_,rfl,rfl,_,rfl,?_⟩
  refine cy (fun hc=>?_) (fun hc=>?_)
  ·refine⟨_,rfl,b,_,0,_,rfl,rfl,aW.of hb,di,_,rfl,_,_,rfl,rfl,hm.1,?_⟩
   refine⟨_,rfl,b,_,0,_,rfl,rfl,aW.of hb,di,_,rfl,_,_,rfl,rfl,hm,_,rfl,b,_,0,0,rfl,rfl,hb,rfl,?_⟩
   refine⟨_,rfl,?_⟩
   exact q _ _ (Int.emod_nonneg _ (by have:=hm.1;omega)) (Int.emod_lt_of_pos _ hm.1) ⟨_,_,ab,h0,h1⟩ Fix.pL
  ·refine⟨_,rfl,b,_,1,_,rfl,rfl,aW.of hb,hZ,_,_,rfl,rfl,.inr ⟨by decide,by decide⟩,_,_,rfl,rfl,(show (0:Int) < 2147483647 by decide),_,rfl,b,_,1,1,rfl,rfl,hb,rfl,?_⟩
   refine⟨_,rfl,b,_,1,_,rfl,rfl,aW.of ab,hZ,_,rfl,b,_,1,_,rfl,rfl,aW.of ab,hZ,_,_,rfl,rfl,.inl ⟨by omega,by omega⟩,_,_,rfl,rfl,(show (0:Int) < 2147483629 by decide),_,_,rfl,rfl,⟨by decide,by decide⟩,_,rfl,_,_,rfl,rfl,hm.1,?_⟩
   exact q _ _ (Int.emod_nonneg _ (by have:=hm.1;omega)) (Int.emod_lt_of_pos _ hm.1) ⟨_,_,ab,by omega,by omega⟩ Fix.pL
theorem kY {f:Addr} {fd:FuncData} (F:bZ K "_law_leaf" "_law_leaf" fQ f fd) (Z:Bl mg) (O_law_take:Own P w K mg base "_law_take" 1 ["bag", "many"] cR):bg P w K mg base bS 2 f fd ["bag", "count"] mn:=by
 refine F.ur (k:=1) fh (fun vs H Q E h=>?_) (fun cdv A outer s H vs Q E hr h=>?_)
 ·obtain⟨b,c,rfl,_⟩:=h
  rfl
 ·obtain⟨b,c,rfl,hB,q⟩:=h
  refine⟨_,(gJ (nZ (i:=2) fh.nd (i7 (aB bx (aB bx (aB bx (aB bx (aB bx (aB bx (aB bx (aB bx (aB bx (aB bx (aB bx (aB bx (aB bx (aB bx (aB bx cP)))))))))))))))))
   (gJ (nZ (i:=2) fh.nd (eM rE (mi 2) (i7 (aB cx (aB (mi 1) (aB (rZ q8 cx) (aB (eM gn (mi 1) cx) (aB n4 (aB n4 (aB qD (aB (hJ cP) (aB (i7 cP) (aB (hJ (aB bx cP)) (aB (hJ (aB bx (aB cx cP))) (aB (hJ (aB bx (aB bx cP))) cP)))))))))))))))
   (gJ (pd (se PySem.F.plainAttrs_list PySem.F.slot_list_append PySem.F.type_list_append eV (mi 2) (aB (eM i1 (eM i1 (eM er cx cx) (eM er cx cx)) (eM er cx cx)) cP)))
   (o9 (qC (qE bF (mi 2) (sd O_law_take hr (aB (mi 0) (aB cx cP))))))))),?_⟩
  refine⟨(by show 15<=sizeLine;decide),fun l1 n1=>?_⟩
  have F1:Fix b H (upd H l1 (.lst [V.str "put",V.str "copy",V.str "add",V.str "read",V.str "tell",V.str "stop",V.str "go",V.str "less",V.str "is",V.str "",V.str "ninesigns",V.str "a",V.str "A",V.str "a b",V.str "stops"])):=Fix.new n1
  have B1:=hB.new (o:=.lst [V.str "put",V.str "copy",V.str "add",V.str "read",V.str "tell",V.str "stop",V.str "go",V.str "less",V.str "is",V.str "",V.str "ninesigns",V.str "a",V.str "A",V.str "a b",V.str "stops"]) n1
  have hl1:(upd H l1 (.lst [V.str "put",V.str "copy",V.str "add",V.str "read",V.str "tell",V.str "stop",V.str "go",V.str "less",V.str "is",V.str "",V.str "ninesigns",V.str "a",V.str "A",V.str "a b",V.str "stops"])) l1=some (.lst [V.str "put",V.str "copy",V.str "add",V.str "read",V.str "tell",V.str "stop",V.str "go",V.str "less",V.str "is",V.str "",V.str "ninesigns",V.str "a",V.str "A",V.str "a b",V.str "stops"]):=ab
  have hl1b:=hB.cw n1
  generalize (upd H l1 (.lst [V.str "put",V.str "copy",V.str "add",V.str "read",V.str "tell",V.str "stop",V.str "go",V.str "less",V.str "is",V.str "",V.str "ninesigns",V.str "a",V.str "A",V.str "a b",V.str "stops"]))=H1 at F1 B1 hl1 ⊢
  refine⟨_,rfl,_,rfl,_,rfl,_,rfl,_,_,rfl,rfl,(by show 0<=sizeLine;decide),fun t0 m0=>⟨(by show 0<=sizeLine;decide),fun e0 m1=>⟨pM,fun t1 m2=>⟨ln2,fun t2 m3=>⟨ln2,fun t3 m4=>?_⟩⟩⟩⟩⟩
  have ht0:(upd (upd (upd (upd (upd H1 t0 (.tup [])) e0 (.lst [])) t1 (.tup [.str "stop"])) t2 (.tup [.str "go",.int 0])) t3 (.tup [.str "read",.str "a"])) t0=some (.tup []):=((((ae.new m1).trans (ae.new m2)).trans (ae.new m3)).trans (ae.new m4)) _ _ ab
  have he0:(upd (upd (upd (upd (upd H1 t0 (.tup [])) e0 (.lst [])) t1 (.tup [.str "stop"])) t2 (.tup [.str "go",.int 0])) t3 (.tup [.str "read",.str "a"])) e0=some (.lst []):=(((ae.new m2).trans (ae.new m3)).trans (ae.new m4)) _ _ ab
  have ht1:(upd (upd (upd (upd (upd H1 t0 (.tup [])) e0 (.lst [])) t1 (.tup [.str "stop"])) t2 (.tup [.str "go",.int 0])) t3 (.tup [.str "read",.str "a"])) t1=some (.tup [.str "stop"]):=((ae.new m3).trans (ae.new m4)) _ _ ab
  have ht2:(upd (upd (upd (upd (upd H1 t0 (.tup [])) e0 (.lst [])) t1 (.tup [.str "stop"])) t2 (.tup [.str "go",.int 0])) t3 (.tup [.str "read",.str "a"])) t2=some (.tup [.str "go",.int 0]):=(ae.new m4) _ _ ab
  have ht3:(upd (upd (upd (upd (upd H1 t0 (.tup [])) e0 (.lst [])) t1 (.tup [.str "stop"])) t2 (.tup [.str "go",.int 0])) t3 (.tup [.str "read",.str "a"])) t3=some (.tup [.str "read",.str "a"]):=ab
  have S2:ae H1 (upd (upd (upd (upd (upd H1 t0 (.tup [])) e0 (.lst [])) t1 (.tup [.str "stop"])) t2 (.tup [.str "go",.int 0])) t3 (.tup [.str "read",.str "a"])):=((((ae.new m0).trans (ae.new m1)).trans (ae.new m2)).trans (ae.new m3)).trans (ae.new m4)
  have ne0:e0 ≠ b:=(B1.new (o:=.tup []) m0).cw m1
  clear m0 m1 m2 m3 m4
  generalize (upd (upd (upd (upd (upd H1 t0 (.tup [])) e0 (.lst [])) t1 (.tup [.str "stop"])) t2 (.tup [.str "go",.int 0])) t3 (.tup [.str "read",.str "a"]))=H2 at ht0 he0 ht1 ht2 ht3 S2 ⊢
  have B2:=B1.same S2
  have nt0:=B2.cQ ht0
  have nt1:=B2.cQ ht1
  have nt2:=B2.cQ ht2
  have nt3:=B2.cQ ht3
  refine⟨(by show 12<=sizeLine;decide),fun l2 n2=>?_⟩
  have S3:=ae.new (o:=.lst [V.int 0,V.int c,V.int (-1),V.int (c - 1),V.bl true,V.bl false,V.aO,V.ref t0,V.ref e0,V.ref t1,V.ref t2,V.ref t3]) n2
  have hl2:(upd H2 l2 (.lst [V.int 0,V.int c,V.int (-1),V.int (c - 1),V.bl true,V.bl false,V.aO,V.ref t0,V.ref e0,V.ref t1,V.ref t2,V.ref t3])) l2=some (.lst [V.int 0,V.int c,V.int (-1),V.int (c - 1),V.bl true,V.bl false,V.aO,V.ref t0,V.ref e0,V.ref t1,V.ref t2,V.ref t3]):=ab
  generalize (upd H2 l2 (.lst [V.int 0,V.int c,V.int (-1),V.int (c - 1),V.bl true,V.bl false,V.aO,V.ref t0,V.ref e0,V.ref t1,V.ref t2,V.ref t3]))=H3 at S3 hl2 ⊢
  refine⟨l1,l2,_,_,rfl,rfl,S3 _ _ (S2 _ _ hl1),hl2,(by show 27<=sizeLine;decide),fun l3 n3=>?_⟩
  have S4:=ae.new (o:=.lst ([V.str "put",V.str "copy",V.str "add",V.str "read",V.str "tell",V.str "stop",V.str "go",V.str "less",V.str "is",V.str "",V.str "ninesigns",V.str "a",V.str "A",V.str "a b",V.str "stops"] ++ [V.int 0,V.int c,V.int (-1),V.int (c - 1),V.bl true,V.bl false,V.aO,V.ref t0,V.ref e0,V.ref t1,V.ref t2,V.ref t3])) n3
  have n3b:=(B2.same S3).cw n3
  have hl3:(upd H3 l3 (.lst ([V.str "put",V.str "copy",V.str "add",V.str "read",V.str "tell",V.str "stop",V.str "go",V.str "less",V.str "is",V.str "",V.str "ninesigns",V.str "a",V.str "A",V.str "a b",V.str "stops"] ++ [V.int 0,V.int c,V.int (-1),V.int (c - 1),V.bl true,V.bl false,V.aO,V.ref t0,V.ref e0,V.ref t1,V.ref t2,V.ref t3]))) l3=some (.lst ([V.str "put",V.str "copy",V.str "add",V.str "read",V.str "tell",V.str "stop",V.str "go",V.str "less",V.str "is",V.str "",V.str "ninesigns",V.str "a",V.str "A",V.str "a b",V.str "stops"] ++ [V.int 0,V.int c,V.int (-1),V.int (c - 1),V.bl true,V.bl false,V.aO,V.ref t0,V.ref e0,V.ref t1,V.ref t2,V.ref t3])):=ab
  generalize (upd H3 l3 (.lst ([V.str "put",V.str "copy",V.str "add",V.str "read",V.str "tell",V.str "stop",V.str "go",V.str "less",V.str "is",V.str "",V.str "ninesigns",V.str "a",V.str "A",V.str "a b",V.str "stops"] ++ [V.int 0,V.int c,V.int (-1),V.int (c - 1),V.bl true,V.bl false,V.aO,V.ref t0,V.ref e0,V.ref t1,V.ref t2,V.ref t3])))=H4 at S4 hl3 ⊢
  have SA:=(S2.trans S3).trans S4
  have SB:=S3.trans S4
  refine⟨_,rfl,.inl ⟨rfl,_,aW.of hl3⟩,10,60,rfl,rfl,⟨by decide,by decide,by decide⟩,10,60,rfl,rfl,⟨by decide,by decide,by decide⟩,_,_,rfl,rfl,(by unfold IntMulOk;decide +kernel),10,60,rfl,rfl,⟨by decide,by decide,by decide⟩,_,_,rfl,rfl,(by unfold IntMulOk;decide +kernel),l3,_,_,rfl,rfl,hl3,dW (Nat.le_of_ble_eq_true rfl),?_⟩
  have hl5:(upd H4 l3 (.lst (([V.str "put",V.str "copy",V.str "add",V.str "read",V.str "tell",V.str "stop",V.str "go",V.str "less",V.str "is",V.str "",V.str "ninesigns",V.str "a",V.str "A",V.str "a b",V.str "stops"] ++ [V.int 0,V.int c,V.int (-1),V.int (c - 1),V.bl true,V.bl false,V.aO,V.ref t0,V.ref e0,V.ref t1,V.ref t2,V.ref t3]) ++ [V.int (10 ^ (60:Int).toNat * 10 ^ (60:Int).toNat * 10 ^ (60:Int).toNat)]))) l3=some (.lst (([V.str "put",V.str "copy",V.str "add",V.str "read",V.str "tell",V.str "stop",V.str "go",V.str "less",V.str "is",V.str "",V.str "ninesigns",V.str "a",V.str "A",V.str "a b",V.str "stops"] ++ [V.int 0,V.int c,V.int (-1),V.int (c - 1),V.bl true,V.bl false,V.aO,V.ref t0,V.ref e0,V.ref t1,V.ref t2,V.ref t3]) ++ [V.int (10 ^ (60:Int).toNat * 10 ^ (60:Int).toNat * 10 ^ (60:Int).toNat)])):=ab
  have S5:ae H3 (upd H4 l3 (.lst (([V.str "put",V.str "copy",V.str "add",V.str "read",V.str "tell",V.str "stop",V.str "go",V.str "less",V.str "is",V.str "",V.str "ninesigns",V.str "a",V.str "A",V.str "a b",V.str "stops"] ++ [V.int 0,V.int c,V.int (-1),V.int (c - 1),V.bl true,V.bl false,V.aO,V.ref t0,V.ref e0,V.ref t1,V.ref t2,V.ref t3]) ++ [V.int (10 ^ (60:Int).toNat * 10 ^ (60:Int).toNat * 10 ^ (60:Int).toNat)]))):=S4.put n3
  generalize (upd H4 l3 (.lst (([V.str "put",V.str "copy",V.str "add",V.str "read",V.str "tell",V.str "stop",V.str "go",V.str "less",V.str "is",V.str "",V.str "ninesigns",V.str "a",V.str "A",V.str "a b",V.str "stops"] ++ [V.int 0,V.int c,V.int (-1),V.int (c - 1),V.bl true,V.bl false,V.aO,V.ref t0,V.ref e0,V.ref t1,V.ref t2,V.ref t3]) ++ [V.int (10 ^ (60:Int).toNat * 10 ^ (60:Int).toNat * 10 ^ (60:Int).toNat)])))=H5 at hl5 S5 ⊢
  have S15:=(S2.trans S3).trans S5
  have S25:=S3.trans S5
  refine⟨_,rfl,_,rfl,b,28,rfl,B1.same S15,⟨by decide,by decide +kernel⟩,fun r H6 r0 r1 B6 X6=>?_⟩
  have kp:∀ a o,a ≠ b->H2 a=some o->H6 a=some o:=fun a o na h=>X6 a o (S25 _ _ h) na
  have rd:au H6 (([V.str "put",V.str "copy",V.str "add",V.str "read",V.str "tell",V.str "stop",V.str "go",V.str "less",V.str "is",V.str "",V.str "ninesigns",V.str "a",V.str "A",V.str "a b",V.str "stops"] ++ [V.int 0,V.int c,V.int (-1),V.int (c - 1),V.bl true,V.bl false,V.aO,V.ref t0,V.ref e0,V.ref t1,V.ref t2,V.ref t3]) ++ [V.int (10 ^ (60:Int).toNat * 10 ^ (60:Int).toNat * 10 ^ (60:Int).toNat)]) [PyData.str "put",PyData.str "copy",PyData.str "add",PyData.str "read",PyData.str "tell",PyData.str "stop",PyData.str "go",PyData.str "less",PyData.str "is",PyData.str "",PyData.str "ninesigns",PyData.str "a",PyData.str "A",PyData.str "a b",PyData.str "stops",.int 0,.int c,.int (-1),.int (c - 1),.bool true,.bool false,.none,.tuple [],.list [],.tuple [.str "stop"],.tuple [.str "go",.int 0],.tuple [.str "read",.str "a"],.int (10 ^ (60:Int).toNat * 10 ^ (60:Int).toNat * 10 ^ (60:Int).toNat)]:=(.cons (.str _) (.cons (.str _) (.cons (.str _) (.cons (.str _) (.cons (.str _) (.cons (.str _) (.cons (.str _) (.cons (.str _) (.cons (.str _) (.cons (.str _) (.cons (.str _) (.cons (.str _) (.cons (.str _) (.cons (.str _) (.cons (.str _) (.cons (.int _) (.cons (.int _) (.cons (.int _) (.cons (.int _) (.cons (.bl _) (.cons (.bl _) (.cons .aO (.cons (.tup (kp _ _ nt0 ht0) .nil) (.cons (.lst (kp _ _ ne0 he0) .nil) (.cons (.tup (kp _ _ nt1 ht1) (.cons (.str _) .nil)) (.cons (.tup (kp _ _ nt2 ht2) (.cons (.str _) (.cons (.int _) .nil))) (.cons (.tup (kp _ _ nt3 ht3) (.cons (.str _) (.cons (.str _) .nil))) (.cons (.int _) .nil))))))))))))))))))))))))))))
  have hfew:bU [PyData.str "put",PyData.str "copy",PyData.str "add",PyData.str "read",PyData.str "tell",PyData.str "stop",PyData.str "go",PyData.str "less",PyData.str "is",PyData.str "",PyData.str "ninesigns",PyData.str "a",PyData.str "A",PyData.str "a b",PyData.str "stops",.int 0,.int c,.int (-1),.int (c - 1),.bool true,.bool false,.none,.tuple [],.list [],.tuple [.str "stop"],.tuple [.str "go",.int 0],.tuple [.str "read",.str "a"],.int (10 ^ (60:Int).toNat * 10 ^ (60:Int).toNat * 10 ^ (60:Int).toNat)] = true:=by first | rfl | kernel_rfl
  obtain⟨j,rfl⟩:∃ j:Nat,r=j:=⟨r.toNat,by omega⟩
  have hj:j < [PyData.str "put",PyData.str "copy",PyData.str "add",PyData.str "read",PyData.str "tell",PyData.str "stop",PyData.str "go",PyData.str "less",PyData.str "is",PyData.str "",PyData.str "ninesigns",PyData.str "a",PyData.str "A",PyData.str "a b",PyData.str "stops",.int 0,.int c,.int (-1),.int (c - 1),.bool true,.bool false,.none,.tuple [],.list [],.tuple [.str "stop"],.tuple [.str "go",.int 0],.tuple [.str "read",.str "a"],.int (10 ^ (60:Int).toNat * 10 ^ (60:Int).toNat * 10 ^ (60:Int).toNat)].length:=by show j < 28;omega
  have hd:[PyData.str "put",PyData.str "copy",PyData.str "add",PyData.str "read",PyData.str "tell",PyData.str "stop",PyData.str "go",PyData.str "less",PyData.str "is",PyData.str "",PyData.str "ninesigns",PyData.str "a",PyData.str "A",PyData.str "a b",PyData.str "stops",.int 0,.int c,.int (-1),.int (c - 1),.bool true,.bool false,.none,.tuple [],.list [],.tuple [.str "stop"],.tuple [.str "go",.int 0],.tuple [.str "read",.str "a"],.int (10 ^ (60:Int).toNat * 10 ^ (60:Int).toNat * 10 ^ (60:Int).toNat)][j]? = some [PyData.str "put",PyData.str "copy",PyData.str "add",PyData.str "read",PyData.str "tell",PyData.str "stop",PyData.str "go",PyData.str "less",PyData.str "is",PyData.str "",PyData.str "ninesigns",PyData.str "a",PyData.str "A",PyData.str "a b",PyData.str "stops",.int 0,.int c,.int (-1),.int (c - 1),.bool true,.bool false,.none,.tuple [],.list [],.tuple [.str "stop"],.tuple [.str "go",.int 0],.tuple [.str "read",.str "a"],.int (10 ^ (60:Int).toNat * 10 ^ (60:Int).toNat * 10 ^ (60:Int).toNat)][j]:=List.getElem?_eq_getElem hj
  obtain⟨x,hx,rx⟩:=rd.get hd
  have hfx:=cM hfew hd
  generalize [PyData.str "put",PyData.str "copy",PyData.str "add",PyData.str "read",PyData.str "tell",PyData.str "stop",PyData.str "go",PyData.str "less",PyData.str "is",PyData.str "",PyData.str "ninesigns",PyData.str "a",PyData.str "A",PyData.str "a b",PyData.str "stops",.int 0,.int c,.int (-1),.int (c - 1),.bool true,.bool false,.none,.tuple [],.list [],.tuple [.str "stop"],.tuple [.str "go",.int 0],.tuple [.str "read",.str "a"],.int (10 ^ (60:Int).toNat * 10 ^ (60:Int).toNat * 10 ^ (60:Int).toNat)][j] = dd at rx hfx
  refine⟨l3,_,_,_,rfl,rfl,aW.of (X6 _ _ hl5 n3b),b3 hx,?_⟩
  exact q x dd H6 rx hfx B6 ((F1.trans (Fix.of_same S15)).trans X6)
theorem cF {f:Addr} {fd:FuncData} (F:bZ K "_law_spoilt" "_law_spoilt" eQ f fd) (Z:Bl mg) {n:Nat} (O_law_take:Own P w K mg base "_law_take" 1 ["bag", "many"] cR) (O_law_leaf:Own P w K mg base "_law_leaf" 2 ["bag", "count"] mn) (O_law_spoilt:Own P w K mg base "_law_spoilt" (n+2) ["bag", "thing", "count"] (eZ n)):bg P w K mg base bS (n+3) f fd ["bag", "thing", "count"] (eZ (n+1)):=by
  refine F.ok (k:=(n+2)) dN (fun vs H Q E h=>?_) (fun cdv A outer s H vs Q E hr h=>?_)
  · obtain⟨b,x,d,c,rfl,_⟩:=h
    rfl
  · obtain⟨b,x,d,c,rfl,hB,hx,htr,q⟩:=h
    refine⟨_,(af (nK (aR (PW.pt (bC (bB (bA (ai aV rfl Z.isinstance aC (aA (pv 1) (bf (v:=.ty "tuple") rfl Z.tuple bQ rfl))))) (bC (aw (jD hr.units) (pv 1) (cu cA) (aJ _)) (bV (aw cc (av O_law_take hr (aA (pv 0) aa) (by omega)) aa (aJ _))))))
      (af (aR (PW.pt (iG (bA (ai aV rfl Z.isinstance aC (aA (pv 1) (bf (v:=.ty "tuple") rfl Z.tuple bQ rfl)))) (iX (aw cc (av O_law_take hr (aA (pv 0) aa) (by omega)) aa (aJ _)))))
      (ah (ao (cK gv rfl Z.list lK (ay (pv 1)))))
      aH)
      (ah (ao (av O_law_leaf hr (aA (pv 0) (pv 2)) (by omega)))))
      aH))
      (af (bw (i:=3) dN.nd (av O_law_take hr (aA (pv 0) (ai ax rfl Z.len aY (ay (pv 1)))) (by omega)))
      (af (bw (i:=4) dN.nd (av O_law_take hr (aA (pv 0) aa) (by omega)))
      (af (aR (aw cc (pv 4) aa (aJ _))
      (ah (ao (aL dr (bP b9 (pv 1) b8 (bY (pv 3))) (bP b9 (pv 1) (bY (aL cb (pv 3) aa)) b8))))
      aH)
      (af (aR (aw cc (pv 4) aa (aJ _))
      (ah (ao (aL dr (aL dr (bP b9 (pv 1) b8 (bY (pv 3))) (bP b9 (pv 1) (bY (pv 3)) (bY (aL cb (pv 3) aa)))) (bP b9 (pv 1) (bY (pv 3)) b8))))
      aH)
      (af (aR (aw cc (pv 4) aa (aJ _))
      (ah (ao (aL dr (aL dr (bP b9 (pv 1) b8 (bY (pv 3))) (cu (ay (av O_law_leaf hr (aA (pv 0) (pv 2)) (by omega))))) (bP b9 (pv 1) (bY (pv 3)) b8))))
      aH)
      (ah (ao (aL dr (aL dr (bP b9 (pv 1) b8 (bY (pv 3))) (cu (ay (av O_law_spoilt hr (e5 (pv 0) (aN bO (pv 1) (pv 3)) (pv 2)) (by omega))))) (bP b9 (pv 1) (bY (aL cb (pv 3) aa)) b8)))))))))),?_⟩
    obtain⟨t,ht,hs,hi,hb,hu⟩:=ba (K:=K) hx
    refine⟨fun σ' H'=>σ' = [some (.ref b),some x,some (.int c),none,none]/\bL H' b/\Fix b H H'/\∃ p xs ds,x=.ref p/\d=.tuple ds/\H p=some (.tup xs)/\au H xs ds/\ds ≠ []/\ds.length<=999/\∀ e ∈ ds,cJ n e,?_,?_⟩
    · refine⟨_,rfl,_,_,_,_,rfl,ht,hu,_,rfl,?_⟩
      cases h1:cI d with
      | false =>
        refine aI (aI ?_)
        refine⟨_,rfl,_,_,_,_,rfl,ht,hu,_,rfl,?_⟩
        rw [h1]
        refine aT (aT ?_)
        exact⟨_,rfl,_,rfl,b,c,rfl,hB,q⟩
      | true =>
      refine aT ?_
      obtain⟨p,xs,ds,rfl,rfl,e,r0D⟩:=cU hx h1
      have nb:=hB.cQ e
      rcases htr with htr | ⟨ds',e',hl,htr⟩
      · exact htr.elim
      cases e'
      have hfe:∀ e ∈ ds,bb e=true:=fun e he=>fK (htr e he)
      have nols:bK ds=true:=dY fun e he=>dA (htr e he)
      refine⟨_,rfl,(by show 0<=sizeLine;decide),fun t0 nt0=>?_⟩
      have s1:=ae.new (o:=.tup []) nt0
      have ht0:(upd H t0 (.tup [])) t0=some (.tup []):=ab
      have B1:=hB.new (o:=.tup []) nt0
      have F1:Fix b H (upd H t0 (.tup [])):=Fix.new nt0
      generalize (upd H t0 (.tup []))=H1 at s1 ht0 B1 F1 ⊢
      refine⟨p,t0,xs,rfl,rfl,aG.of (s1 _ _ e),aG.of ht0,_,rfl,?_⟩
      cases hne:xs.isEmpty with
      | true =>
        refine aI (aI ?_)
        obtain⟨tB,htB,_,_,_,huB⟩:=ba (K:=K) (hx.bo s1)
        refine⟨_,rfl,_,_,_,_,rfl,htB,huB,_,rfl,aI ?_⟩
        refine⟨_,rfl,b,3,rfl,B1,⟨by decide,by decide +kernel⟩,fun r H2 r0 r1 B2 X2=>⟨rfl,_,rfl,?_⟩⟩
        refine cy (fun hc=>?_) (fun hc=>?_)
        · refine⟨_,rfl,p,_,rfl,.inr (aG.of (X2 _ _ (F1 _ _ e nb) nb)),fun l nl=>?_⟩
          exact q (.ref l) (.list ds) _ (.lst ab ((r0D.fix hB (F1.trans X2) nols).same (ae.new nl) nols)) (ml (by omega) hfe) (B2.new nl) ((F1.trans X2).trans (Fix.new nl))
        · exact⟨_,rfl,_,rfl,b,c,rfl,B2,fun x' d' H3 rx fx B3 X3=>q x' d' H3 rx fx B3 ((F1.trans X2).trans X3)⟩
      | false =>
        refine aT ?_
        refine⟨_,rfl,b,6,rfl,B1,⟨by decide,by decide +kernel⟩,fun r H9 r0 r1 B9 X9=>⟨rfl,_,rfl,?_⟩⟩
        have F1:=F1.trans X9
        have B1:=B9
        refine cy (fun hc=>?_) (fun hc=>?_)
        · obtain⟨tB,htB,_,_,_,huB⟩:=ba (K:=K) (hx.fix hB F1 nols)
          refine⟨_,rfl,_,_,_,_,rfl,htB,huB,_,rfl,aI ?_⟩
          refine⟨_,rfl,b,3,rfl,B1,⟨by decide,by decide +kernel⟩,fun r H2 r0 r1 B2 X2=>⟨rfl,_,rfl,?_⟩⟩
          refine cy (fun hc=>?_) (fun hc=>?_)
          · refine⟨_,rfl,p,_,rfl,.inr (aG.of (X2 _ _ (F1 _ _ e nb) nb)),fun l nl=>?_⟩
            exact q (.ref l) (.list ds) _ (.lst ab ((r0D.fix hB (F1.trans X2) nols).same (ae.new nl) nols)) (ml (by omega) hfe) (B2.new nl) ((F1.trans X2).trans (Fix.new nl))
          · exact⟨_,rfl,_,rfl,b,c,rfl,B2,fun x' d' H3 rx fx B3 X3=>q x' d' H3 rx fx B3 ((F1.trans X2).trans X3)⟩
        · refine⟨rfl,B1,F1,p,xs,ds,rfl,rfl,e,r0D,?_,hl,htr⟩
          intro z
          subst z
          cases r0D
          cases hne
    rintro σ' H1 ⟨rfl,B1,F1,p,xs,ds,rfl,rfl,e,r0D,hds,hl,htr⟩
    clear ht hs hi hb hu hx
    have hxl:=r0D.len
    have hpos:0 < ds.length:=List.length_pos_iff.mpr hds
    have hfe:∀ e ∈ ds,bb e=true:=fun e he=>fK (htr e he)
    have nols:bK ds=true:=dY fun e he=>dA (htr e he)
    have nb:=hB.cQ e
    refine⟨_,rfl,_,rfl,p,_,rfl,.inr (aG.of (F1 _ _ e nb)),b,_,rfl,B1,⟨by omega,dg (by omega) (by omega)⟩,fun r H2 r0 r1 B2 X2=>?_⟩
    have F2:=F1.trans X2
    obtain⟨k,rfl⟩:∃ k:Nat,r=k:=⟨r.toNat,by omega⟩
    have hk:k < xs.length:=by omega
    refine⟨_,rfl,b,8,rfl,B2,⟨by decide,by decide +kernel⟩,fun y H3 y0 y1 B3 X3=>?_⟩
    have F3:=F2.trans X3
    have e3:=F3 _ _ e nb
    have r3:=r0D.fix hB F3 nols
    have fin:∀ (t:Addr) (H8:Hp) (ys:List V) (es:List PyData),H8 t=some (.tup ys)->au H8 ys es->es.length<=1000->(∀ e ∈ es,bb e=true)->bL H8 b->Fix b H3 H8->Q (.ref t) H8:=fun t H8 ys es h1 h2 h3 h4 h5 h6=>q (.ref t) (.tuple es) H8 (.tup h1 h2) (i9 h3 h4) h5 (F3.trans h6)
    have mt:∀ (m:Nat) (e:PyData),e ∈ ds.take m->bb e=true:=fun m e he=>hfe _ (List.mem_of_mem_take he)
    have md:∀ (m:Nat) (e:PyData),e ∈ ds.drop m->bb e=true:=fun m e he=>hfe _ (List.mem_of_mem_drop he)
    refine⟨_,rfl,rfl,_,rfl,?_⟩
    refine cy (fun hc=>?_) (fun hc=>?_)
    · refine⟨_,rfl,_,rfl,(k:Int),rfl,p,_,rfl,e3,fun p1 H6 hp1 s6=>?_⟩
      rw [fz (by omega)] at hp1
      refine⟨_,rfl,_,rfl,_,_,rfl,rfl,((k+1:Nat):Int),rfl,p,_,rfl,s6 _ _ e3,fun p2 H7 hp2 s7=>?_⟩
      rw [du (by omega)] at hp2
      refine⟨p1,p2,_,_,rfl,rfl,s7 _ _ hp1,hp2,(by rw [List.length_take,List.length_drop];exact Nat.le_of_lt (bc (by omega))),fun t H8 ht s8=>?_⟩
      have s:=(s6.trans s7).trans s8
      refine fin t H8 _ _ ht (au.ja ((r3.eW (k+1)).bo s) ((r3.hR k).bo s)) (by rw [List.length_append,List.length_take,List.length_drop];omega) (fun e he=>?_) (B3.same s) (Fix.of_same s)
      rcases List.mem_append.mp he with he | he
      · exact mt _ _ he
      · exact md _ _ he
    refine⟨_,rfl,rfl,_,rfl,?_⟩
    refine cy (fun hc=>?_) (fun hc=>?_)
    · refine⟨_,rfl,_,rfl,(k:Int),rfl,p,_,rfl,e3,fun p1 H6 hp1 s6=>?_⟩
      rw [fz (by omega)] at hp1
      refine⟨_,rfl,_,rfl,(k:Int),rfl,_,rfl,_,_,rfl,rfl,((k+1:Nat):Int),rfl,p,_,rfl,s6 _ _ e3,fun p2 H7 hp2 s7=>?_⟩
      rw [pe hk] at hp2
      refine⟨p1,p2,_,_,rfl,rfl,s7 _ _ hp1,hp2,(by rw [List.length_take,List.length_take,List.length_drop];exact Nat.le_of_lt (bc (by omega))),fun t H8 ht s8=>?_⟩
      have s:=(s6.trans s7).trans s8
      refine⟨_,rfl,_,rfl,(k:Int),rfl,p,_,rfl,s _ _ e3,fun p3 H9 hp3 s9=>?_⟩
      rw [du (by omega)] at hp3
      refine⟨t,p3,_,_,rfl,rfl,s9 _ _ ht,hp3,(by rw [List.length_append,List.length_take,List.length_take,List.length_drop];exact Nat.le_of_lt (bc (by omega))),fun u H10 hu s10=>?_⟩
      have s:=(s.trans s9).trans s10
      refine fin u H10 _ _ hu (au.ja ((r3.eW k).bo s) (au.ja (((r3.eW k).hR 1).bo s) ((r3.hR k).bo s))) (by rw [List.length_append,List.length_append,List.length_take,List.length_take,List.length_drop];omega) (fun e he=>?_) (B3.same s) (Fix.of_same s)
      rcases List.mem_append.mp he with he | he
      · rcases List.mem_append.mp he with he | he
        · exact mt _ _ he
        · exact md _ _ (List.mem_of_mem_take he)
      · exact md _ _ he
    refine⟨_,rfl,rfl,_,rfl,?_⟩
    refine cy (fun hc=>?_) (fun hc=>?_)
    · refine⟨_,rfl,_,rfl,(k:Int),rfl,p,_,rfl,e3,fun p1 H6 hp1 s6=>?_⟩
      rw [fz (by omega)] at hp1
      refine⟨_,rfl,_,rfl,b,c,rfl,B3.same s6,fun x' d' H7 rx fx B7 X7=>⟨pM,fun t1 n1=>?_⟩⟩
      have F7:=(Fix.of_same (b:=b) s6).trans X7
      have hp1:=X7 _ _ hp1 ((B3.same s6).cQ hp1)
      have s7:=ae.new (o:=.tup [x']) n1
      refine⟨p1,t1,_,_,rfl,rfl,s7 _ _ hp1,ab,(by rw [List.length_take];show _+1<=sizeLine;exact Nat.le_of_lt (bc (by omega))),fun t H8 ht s8=>?_⟩
      have s:=s7.trans s8
      have F8:=F7.trans (Fix.of_same s)
      refine⟨_,rfl,_,rfl,(k:Int),rfl,p,_,rfl,F8 _ _ e3 nb,fun p3 H9 hp3 s9=>?_⟩
      rw [du (by omega)] at hp3
      refine⟨t,p3,_,_,rfl,rfl,s9 _ _ ht,hp3,(by rw [List.length_append,List.length_take,List.length_drop];show _+1+_<=sizeLine;exact Nat.le_of_lt (bc (by omega))),fun u H10 hu s10=>?_⟩
      have s910:=s9.trans s10
      have F10:=F8.trans (Fix.of_same s910)
      have r10:=r3.fix B3 F10 nols
      refine fin u H10 _ _ hu (au.ja (r10.eW k) (au.app (r10.hR k) (rx.bo (s.trans s910)))) (by rw [List.length_append,List.length_append,List.length_take,List.length_drop];show _+1+_<=1000;omega) (fun e he=>?_) ((B7.same s).same s910) F10
      rcases List.mem_append.mp he with he | he
      · rcases List.mem_append.mp he with he | he
        · exact mt _ _ he
        · rw [List.mem_singleton.mp he];exact fx
      · exact md _ _ he
    · have hd4:ds[k]? = some ds[k]:=List.getElem?_eq_getElem (by omega)
      obtain⟨xk,hxk,rk⟩:=r0D.get hd4
      refine⟨_,rfl,_,rfl,(k:Int),rfl,p,_,rfl,e3,fun p1 H6 hp1 s6=>?_⟩
      rw [fz (by omega)] at hp1
      have tk:=htr _ (List.mem_of_getElem? hd4)
      refine⟨_,rfl,_,rfl,_,rfl,p,_,_,_,rfl,rfl,aG.of (s6 _ _ e3),b3 hxk,_,rfl,b,xk,ds[k],c,rfl,B3.same s6,(rk.fix hB F3 (dA tk)).bo s6,tk,fun x' d' H7 rx fx B7 X7=>⟨pM,fun t1 n1=>?_⟩⟩
      have F7:=(Fix.of_same (b:=b) s6).trans X7
      have hp1:=X7 _ _ hp1 ((B3.same s6).cQ hp1)
      have s7:=ae.new (o:=.tup [x']) n1
      refine⟨p1,t1,_,_,rfl,rfl,s7 _ _ hp1,ab,(by rw [List.length_take];show _+1<=sizeLine;exact Nat.le_of_lt (bc (by omega))),fun t H8 ht s8=>?_⟩
      have s:=s7.trans s8
      have F8:=F7.trans (Fix.of_same s)
      refine⟨_,rfl,_,rfl,_,_,rfl,rfl,((k+1:Nat):Int),rfl,p,_,rfl,F8 _ _ e3 nb,fun p3 H9 hp3 s9=>?_⟩
      rw [du (by omega)] at hp3
      refine⟨t,p3,_,_,rfl,rfl,s9 _ _ ht,hp3,(by rw [List.length_append,List.length_take,List.length_drop];show _+1+_<=sizeLine;exact Nat.le_of_lt (bc (by omega))),fun u H10 hu s10=>?_⟩
      have s910:=s9.trans s10
      have F10:=F8.trans (Fix.of_same s910)
      have r10:=r3.fix B3 F10 nols
      refine fin u H10 _ _ hu (au.ja (r10.eW (k+1)) (au.app (r10.hR k) (rx.bo (s.trans s910)))) (by rw [List.length_append,List.length_append,List.length_take,List.length_drop];show _+1+_<=1000;omega) (fun e he=>?_) ((B7.same s).same s910) F10
      rcases List.mem_append.mp he with he | he
      · rcases List.mem_append.mp he with he | he
        · exact mt _ _ he
        · rw [List.mem_singleton.mp he];exact fx
      · exact md _ _ he
theorem kK {f:Addr} {fd:FuncData} (F:bZ K "_law_names" "_law_names" fi f fd) (Z:Bl mg) (O_law_take:Own P w K mg base "_law_take" 1 ["bag", "many"] cR):bg P w K mg base bS 2 f fd ["bag"] lS:=by
  refine F.ok (k:=1) bX (fun vs H Q E h=>?_) (fun cdv A outer s H vs Q E hr h=>?_)
  · obtain⟨b,rfl,_⟩:=h
    rfl
  · obtain⟨b,rfl,hB,q⟩:=h
    refine⟨_,(af (bw (i:=1) bX.nd aQ)
      (af (bw (i:=2) bX.nd (aL cb aa (av O_law_take hr (aA (pv 0) aa))))
      (af (oO (i:=3) ["k"] ["letters", "bag"] [1,0] rfl bX.nd rfl rfl rfl (dC rfl Z.range (ay (aL cb aa (av O_law_take hr (aA (pv 0) aa))))) rfl (by decide +kernel) (by decide +kernel) (by decide +kernel) ⟨⟨rfl,.inl rfl,rfl⟩,⟨⟨rfl,.inl rfl,rfl⟩,True.intro⟩⟩ (fun _ _ _ _=>(b0 (i:=0) (show ((["k"]:List Str)++(["letters", "bag"]:List Str)).Nodup by decide +kernel) (hf:=Or.inr rfl))) (fun _ _ _ _=>dn) (fun _ _ _ _=>(aN nA (pv 1) (av O_law_take hr (aA (pv 2) aa)))))
      (af (bw (i:=4) bX.nd (av O_law_take hr (aA (pv 0) (ai ax rfl Z.len aY (ay (pv 3))))))
      (af (bw (i:=5) bX.nd (cf cA))
      (af (gi PassesOwn.never rfl (dC rfl Z.range (ay (pv 2))) (b0 (i:=6) bX.nd)
      (af (bw (i:=7) bX.nd (cK gv rfl Z.list lK (ay (pv 3))))
      (af (iH (aN nA (pv 1) (av O_law_take hr (aA (pv 0) aa))) (jX (pv 7) (pv 4) set_list))
      (ah (aR (aw j7 (iM PySem.F.plainAttrs_str PySem.F.slot_str_join PySem.F.type_str_join lR aQ (ay (pv 7))) (pv 5) (by with_unfolding_all rfl))
      (ah (iY (iM PySem.F.plainAttrs_list PySem.F.slot_list_append PySem.F.type_list_append eV (pv 5) (ay (iM PySem.F.plainAttrs_str PySem.F.slot_str_join PySem.F.type_str_join lR aQ (ay (pv 7)))))))
      aH)))))
      (ah (ao (pv 5))))))))),?_⟩
    refine⟨_,rfl,b,4,rfl,hB,⟨by decide,by decide +kernel⟩,fun m H1 m0 m1 B1 X1=>⟨_,_,rfl,rfl,?_⟩⟩
    refine⟨_,rfl,b,8,rfl,B1,⟨by decide,by decide +kernel⟩,fun k H2 k0 k1 B2 X2=>⟨_,_,rfl,rfl,_,rfl,(by omega),(by omega),fun acc na=>?_⟩⟩
    refine ka (lo:=0) (fun i ys τ H'=>∃ (v:Option V) (cs:List Nat),τ = [v,some (.str iQ),some (.ref b)]/\ys=(cs.map one).map V.str/\cs.length=i/\(∀ c ∈ cs,97<=c/\c<=122)/\H' acc=some (.lst ys)/\bL H' b/\Fix b H2 H') ?_ ?_ ?_ ?_
    · exact⟨none,[],rfl,rfl,rfl,(fun _ h=>nomatch h),ab,B2.new na,Fix.new na⟩
    · rintro i ys τ H' hi ⟨v,cs,rfl,rfl,hl,_,ha,_⟩
      refine⟨ha,?_⟩
      rw [List.length_map,List.length_map]
      exact bc (by omega)
    · rintro i ys τ H' hi ⟨v,cs,rfl,rfl,hl,hc,ha,B',X'⟩
      refine cS ?_
      refine iw ?_
      refine aI ?_
      refine⟨_,rfl,_,rfl,b,26,rfl,B',⟨by decide,by decide +kernel⟩,fun r H3 r0 r1 B3 X3=>?_⟩
      obtain⟨c,hat,c0,c1⟩:=nR r0 r1
      have hab:acc ≠ b:=B2.cw na
      have ha3:=X3 acc _ ha hab
      refine⟨iQ,r,c,rfl,rfl,lU,hat,ha3,_,cs ++ [c],rfl,?_,?_,?_,ab,?_,?_⟩
      · rw [List.map_append,List.map_append];rfl
      · rw [List.length_append,hl];rfl
      · intro d hd
        rcases List.mem_append.mp hd with hd | hd
        · exact hc d hd
        · rw [List.mem_singleton.mp hd];exact⟨c0,c1⟩
      · obtain⟨x,y,e,z⟩:=B3
        exact⟨x,y,by rw [aF hab.symm];exact e,z⟩
      · intro d o hd nd
        rw [aF (bp hd na)]
        exact (X'.trans X3) d o hd nd
    · rintro ys τ H3 ⟨v,cs,rfl,rfl,hl,hc,ha,B3,X3⟩
      have hab:acc ≠ b:=B2.cw na
      have hl1:1<=cs.length:=by omega
      have hl8:cs.length<=8:=by omega
      have F3:Fix b H H3:=(X1.trans X2).trans X3
      have el:(((cs.map one).map V.str).length:Int)=cs.length:=by simp
      refine⟨_,rfl,_,rfl,acc,_,rfl,.inl (aW.of ha),b,_,rfl,B3,⟨by omega,dg (by omega) (by omega)⟩,fun at_ H4 t0 t1 B4 X4=>?_⟩
      refine⟨(by show 0<=sizeLine;decide),fun nl nn=>?_⟩
      have hnb:nl ≠ b:=B4.cw nn
      have ha4:H4 acc=some (.lst ((cs.map one).map V.str)):=X4 acc _ ha hab
      have hna:nl ≠ acc:=fun z=>by rw [z,ha4] at nn;cases nn
      have F4:Fix b H H4:=F3.trans X4
      refine⟨_,rfl,_,rfl,(by omega),(by omega),gm (lo:=0) (fun i σ H'=>∃ (u1 u2:Option V) (xs:List Str),σ = [some (.ref b),some (.str iQ),some (.int (1+m)),some (.ref acc),some (.int at_),some (.ref nl),u1,u2] /\
        H' nl=some (.lst (xs.map V.str))/\xs.length<=i/\(0 < i->xs ≠ [])/\(∀ x ∈ xs,cg x)/\H' acc=some (.lst ((cs.map one).map V.str))/\bL H' b/\Fix b H H') ?_ ?_ ?_⟩
      · exact⟨_,_,[],rfl,ab,Nat.le_refl _,(fun h=>absurd h (Nat.lt_irrefl _)),(fun _ h=>nomatch h),(by rw [aF hna.symm];exact ha4),B4.new nn,F4.trans (Fix.new nn)⟩
      · rintro i σ H' hi ⟨u1,u2,xs,rfl,hn,hx,hx0,aK,ha',B',X'⟩
        refine⟨_,rfl,acc,_,rfl,.inl (aW.of ha'),fun nm mm=>?_⟩
        have nmb:nm ≠ b:=B'.cw mm
        have nma:nm ≠ acc:=fun z=>by rw [z,ha'] at mm;cases mm
        have nmn:nm ≠ nl:=fun z=>by rw [z,hn] at mm;cases mm
        refine⟨_,rfl,_,rfl,b,26,rfl,B'.new mm,⟨by decide,by decide +kernel⟩,fun r H5 r0 r1 B5 X5=>?_⟩
        obtain⟨c,hat,c0,c1⟩:=nR r0 r1
        have h5:H5 nm=some (.lst ((cs.map one).map V.str)):=X5 nm _ ab nmb
        have hn5:H5 nl=some (.lst (xs.map V.str)):=X5 nl _ (by rw [aF nmn.symm];exact hn) hnb
        have ha5:H5 acc=some (.lst ((cs.map one).map V.str)):=X5 acc _ (by rw [aF nma.symm];exact ha') hab
        obtain⟨j,rfl⟩:∃ j:Nat,at_=j:=⟨at_.toNat,by omega⟩
        have hj:j < cs.length:=by omega
        have hix:iK ((cs.map one).map V.str).length (j:Int)=some j:=by
          unfold iK
          rw [if_pos (by omega),if_pos (by rw [el];omega)]
          simp
        refine⟨iQ,r,c,rfl,rfl,lU,hat,_,rfl,_,rfl,nm,_,(j:Int),j,rfl,rfl,h5,hix,?_⟩
        have eset:((cs.map one).map V.str).set j (.str ⟨#[c]⟩)=((cs.set j c).map one).map V.str:=by
          rw [List.map_set,List.map_set];rfl
        rw [eset]
        have hc':∀ d ∈ cs.set j c,97<=d/\d<=122:=fun d hd=>by
          rcases List.mem_or_eq_of_mem_set hd with hd | hd
          · exact hc d hd
          · rw [hd];exact⟨c0,c1⟩
        have hjl:(((cs.set j c).map one).map (·.length)).sum+((cs.set j c).map one).length * (Str.ofString "").length<=16777216:=by
          have e1:(Str.ofString "").length=0:=by decide +kernel
          have e2:∀ l:List Nat,((l.map one).map (·.length)).sum=l.length:=by
            intro l
            induction l with
            | nil=>rfl
            | cons a l ih=>simp only [List.map_cons,List.sum_cons,ih,List.length_cons];show 1+l.length=_;omega
          rw [e1,e2,List.length_set]
          omega
        have nk:cg (Txt.join (Str.ofString "") ((cs.set j c).map one)):=by
          rw [oT]
          have ej:=L2.join_ones (cs.set j c)
          have eL:(Txt.join Str.empty ((cs.set j c).map one)).length=(cs.set j c).length:=by
            have:=congrArg List.length ej
            rw [Array.length_toList] at this
            exact this
          refine⟨?_,?_,?_⟩
          · rw [eL,List.length_set];exact hl1
          · rw [eL,List.length_set];exact hl8
          · rw [ej];exact hc'
        have n6:upd H5 nm (.lst (((cs.set j c).map one).map V.str)) nl=some (.lst (xs.map V.str)):=by rw [aF nmn.symm];exact hn5
        have a6:upd H5 nm (.lst (((cs.set j c).map one).map V.str)) acc=some (.lst ((cs.map one).map V.str)):=by rw [aF nma.symm];exact ha5
        have B6:bL (upd H5 nm (.lst (((cs.set j c).map one).map V.str))) b:=by
          obtain⟨x,y,e,z⟩:=B5
          exact⟨x,y,by rw [aF nmb.symm];exact e,z⟩
        have F6:Fix b H (upd H5 nm (.lst (((cs.set j c).map one).map V.str))):=fun d o hd nd=>by
          have h1:=X' d o hd nd
          have nd':d ≠ nm:=fun z=>by rw [z,mm] at h1;cases h1
          rw [aF nd']
          exact X5 d o (by rw [aF nd'];exact h1) nd
        have flat:(xs.map V.str).all dQ=true:=by
          rw [List.all_eq_true]
          intro v hv
          obtain⟨x,_,rfl⟩:=List.mem_map.mp hv
          rfl
        refine⟨rfl,_,rfl,_,nm,_,rfl,rfl,aW.of ab,hjl,_,rfl,nl,_,rfl,.inl (aW.of n6),rfl,flat,_,rfl,?_⟩
        refine cy (fun hin=>?_) (fun hin=>?_)
        · refine⟨_,rfl,.inl ⟨rfl,_,aW.of n6⟩,rfl,_,rfl,_,nm,_,rfl,rfl,aW.of ab,hjl,nl,_,_,rfl,rfl,n6,?_,?_⟩
          · rw [List.length_map]
            have:i < 4:=by omega
            exact bc (by omega)
          · refine⟨_,_,xs ++ [_],rfl,(by rw [ab,List.map_append];rfl),(by rw [List.length_append];exact Nat.succ_le_succ hx),(fun _=>by simp),?_,(by rw [aF hna.symm];exact a6),?_,?_⟩
            · intro x hxm
              rcases List.mem_append.mp hxm with hxm | hxm
              · exact aK x hxm
              · rw [List.mem_singleton.mp hxm];exact nk
            · obtain⟨x,y,e,z⟩:=B6
              exact⟨x,y,by rw [aF hnb.symm];exact e,z⟩
            · intro d o hd nd
              have h1:=F6 d o hd nd
              have nd':d ≠ nl:=fun z=>by
                have h2:=F4 d o hd nd
                rw [z,nn] at h2
                cases h2
              rw [aF nd']
              exact h1
        · have hx':xs ≠ []:=by
            intro e
            subst e
            exact hin rfl
          exact⟨_,_,xs,rfl,n6,Nat.le_succ_of_le hx,fun _=>hx',aK,a6,B6,F6⟩
      · rintro σ H' ⟨u1,u2,xs,rfl,hn,hx,hx0,aK,ha',B',X'⟩
        refine⟨_,rfl,?_⟩
        have hm:(1+m).toNat<=4:=by omega
        have hm0:0 < (1+m).toNat:=by omega
        exact q nl xs H' ⟨hn,hnb,hx0 hm0,by omega,aK⟩ (Nat.le_trans hx hm) B' X'
theorem jJ {f:Addr} {fd:FuncData} (F:bZ K "_law_number" "_law_number" eR f fd) (Z:Bl mg) (O_law_take:Own P w K mg base "_law_take" 1 ["bag", "many"] cR):bg P w K mg base bS 2 f fd ["bag"] ir:=by
 refine F.ok (k:=1) jG (fun vs H Q E h=>?_) (fun cdv A outer s H vs Q E hr h=>?_)
 ·obtain⟨b,rfl,_⟩:=h
  rfl
 ·obtain⟨b,rfl,hB,q⟩:=h
  refine⟨_,(af (aR (aw cc (av O_law_take hr (aA (pv 0) aa)) aa (aJ _))
   (ah (ao (aL fm (aL gn (aL gn (aL er aa aa) aa) (av O_law_take hr (aA (pv 0) aa))) (aL gn aa (aL fm aa (av O_law_take hr (aA (pv 0) aa)))))))
   aH)
   (ah (ao (aL gn (av O_law_take hr (aA (pv 0) aa)) aa)))),?_⟩
  refine⟨_,rfl,b,8,rfl,hB,⟨by decide,by decide +kernel⟩,fun r H1 r0 r1 B1 X1=>⟨rfl,_,rfl,?_⟩⟩
  refine cy (fun hc=>?_) (fun hc=>?_)
  ·refine⟨10,40,rfl,rfl,⟨by decide,by decide,by decide⟩,_,_,rfl,rfl,?_⟩
   refine⟨_,rfl,b,3,rfl,B1,⟨by decide,by decide +kernel⟩,fun r2 H2 r20 r21 B2 X2=>⟨_,_,rfl,rfl,?_⟩⟩
   refine⟨_,rfl,b,2,rfl,B2,⟨by decide,by decide +kernel⟩,fun r3 H3 r30 r31 B3 X3=>?_⟩
   refine⟨_,_,rfl,rfl,.inl ⟨by decide,by decide⟩,_,_,rfl,rfl,_,_,rfl,rfl,.inr ⟨by omega,by omega⟩,?_⟩
   refine q _ H3 ?_ B3 ((X1.trans X2).trans X3)
   have e:(10:Int) ^ (40:Int).toNat=10 ^ 40:=by decide +kernel
   rw [e]
   obtain rfl | rfl:r3=0\/r3=1:=by omega
   ·rw [show (1:Int) - 2 * 0=1 by decide,Int.mul_one];unfold fI;omega
   ·rw [show (1:Int) - 2 * 1 = -1 by decide,Int.mul_neg,Int.mul_one];unfold fI;omega
  ·refine⟨_,rfl,b,8,rfl,B1,⟨by decide,by decide +kernel⟩,fun r2 H2 r20 r21 B2 X2=>⟨_,_,rfl,rfl,?_⟩⟩
   exact q _ H2 (by unfold fI;omega) B2 (X1.trans X2)
theorem kZ {f:Addr} {fd:FuncData} (F:bZ K "_law_deed" "_law_deed" fR f fd) (Z:Bl mg) (O_law_take:Own P w K mg base "_law_take" 1 ["bag", "many"] cR) (O_law_number:Own P w K mg base "_law_number" 2 ["bag"] ir):bg P w K mg base bS 3 f fd ["bag", "names"] nO:=by
 refine F.ok (k:=2) fj (fun vs H Q E h=>?_) (fun cdv A outer s H vs Q E hr h=>?_)
 ·obtain⟨b,l,xs,rfl,_⟩:=h
  rfl
 ·obtain⟨b,l,xs,rfl,hB,hN,q⟩:=h
  refine⟨_,(af (bw (i:=2) fj.nd (aN bF (cf (bt aQ (bt aQ (bt aQ (bt aQ (bt aQ (bt aQ (bt aQ cA)))))))) (av O_law_take hr (aA (pv 0) aa))))
   (af (bw (i:=3) fj.nd (aN bF (pv 1) (av O_law_take hr (aA (pv 0) (ai ax rfl Z.len aY (ay (pv 1)))))))
   (af (aR (aw cc (pv 2) aQ (aJ _))
   (ah (ao (cu (e5 (pv 2) (pv 3) (aN bF (pv 1) (av O_law_take hr (aA (pv 0) (ai ax rfl Z.len aY (ay (pv 1))))))))))
   aH)
   (af (aR (PW.pt (bC (aw cc (pv 2) aQ (aJ _)) (bV (aw cc (pv 2) aQ (aJ _)))))
   (ah (ao (cu (e5 (pv 2) (pv 3) (av O_law_number hr (ay (pv 0)))))))
   aH)
   (ah (ao (cu (aA (pv 2) (pv 3))))))))),?_⟩
  refine⟨um,fun l0 m0=>?_⟩
  refine⟨_,rfl,b,7,rfl,hB.new m0,⟨by decide,by decide +kernel⟩,fun r H1 r0 r1 B1 X1=>?_⟩
  have h0:H1 l0=some (.lst [.str "put",.str "copy",.str "add",.str "read",.str "tell",.str "tell",.str "add"]):=X1 l0 _ ab (hB.cw m0)
  have F1:Fix b H H1:=(Fix.new m0).trans X1
  have N1:=hN.fix F1
  have hw:∃ w:Str,(w = "put" \/ w = "copy" \/ w = "add" \/ w = "read" \/ w = "tell")/\dh [V.str "put",.str "copy",.str "add",.str "read",.str "tell",.str "tell",.str "add"] r=some (V.str w):=by
   obtain rfl | rfl | rfl | rfl | rfl | rfl | rfl:r=0\/r=1\/r=2\/r=3\/r=4\/r=5\/r=6:=by omega
   ·exact⟨_,.inl rfl,b3 (j:=0) rfl⟩
   ·exact⟨_,.inr (.inl rfl),b3 (j:=1) rfl⟩
   ·exact⟨_,.inr (.inr (.inl rfl)),b3 (j:=2) rfl⟩
   ·exact⟨_,.inr (.inr (.inr (.inl rfl))),b3 (j:=3) rfl⟩
   ·exact⟨_,.inr (.inr (.inr (.inr rfl))),b3 (j:=4) rfl⟩
   ·exact⟨_,.inr (.inr (.inr (.inr rfl))),b3 (j:=5) rfl⟩
   ·exact⟨_,.inr (.inr (.inl rfl)),b3 (j:=6) rfl⟩
  obtain⟨w,hw,hat⟩:=hw
  refine⟨l0,_,r,_,rfl,rfl,aW.of h0,hat,?_⟩
  obtain⟨p0,p1⟩:=N1.pos
  refine⟨_,rfl,_,rfl,_,rfl,l,_,rfl,.inl (aW.of N1.at_),b,_,rfl,B1,⟨p0,dg p0 p1⟩,fun r2 H2 r20 r21 B2 X2=>?_⟩
  have N2:=N1.fix X2
  obtain⟨x,hx,hxm⟩:=iu r20 r21
  refine⟨l,_,r2,_,rfl,rfl,aW.of N2.at_,hx,?_⟩
  refine⟨_,rfl,rfl,_,rfl,?_⟩
  rcases hw with rfl | rfl | rfl | rfl | rfl
  ·
   rw [show decide (V.str "put" = V.str "copy")=false by decide +kernel]
   refine aT ⟨_,rfl,rfl,_,rfl,?_⟩
   rw [show decide (V.str "put" = V.str "put")=true by decide +kernel]
   refine aI (aI ⟨_,rfl,_,rfl,_,rfl,b,rfl,B2,fun n H3 nk B3 X3=>⟨pN,fun t mt=>?_⟩⟩)
   exact q _ (.put x n) _ (.tup ab (.cons (.str _) (.cons (.str _) (.cons (.int _) .nil)))) ⟨hxm,nk⟩ (B3.new mt) (((F1.trans X2).trans X3).trans (Fix.new mt))
  ·
   rw [show decide (V.str "copy" = V.str "copy")=true by decide +kernel]
   obtain⟨p0,p1⟩:=N2.pos
   refine aI ⟨_,rfl,_,rfl,_,rfl,_,rfl,_,rfl,l,_,rfl,.inl (aW.of N2.at_),b,_,rfl,B2,⟨p0,dg p0 p1⟩,fun r3 H3 r30 r31 B3 X3=>?_⟩
   have N3:=N2.fix X3
   obtain⟨y,hy,hym⟩:=iu r30 r31
   refine⟨l,_,r3,_,rfl,rfl,aW.of N3.at_,hy,pN,fun t mt=>?_⟩
   exact q _ (.copy x y) _ (.tup ab (.cons (.str _) (.cons (.str _) (.cons (.str _) .nil)))) ⟨hxm,hym⟩ (B3.new mt) (((F1.trans X2).trans X3).trans (Fix.new mt))
  ·
   rw [show decide (V.str "add" = V.str "copy")=false by decide +kernel]
   refine aT ⟨_,rfl,rfl,_,rfl,?_⟩
   rw [show decide (V.str "add" = V.str "put")=false by decide +kernel]
   refine aT ⟨_,rfl,rfl,_,rfl,?_⟩
   rw [show decide (V.str "add" = V.str "add")=true by decide +kernel]
   refine aI ⟨_,rfl,_,rfl,_,rfl,b,rfl,B2,fun n H3 nk B3 X3=>⟨pN,fun t mt=>?_⟩⟩
   exact q _ (.add x n) _ (.tup ab (.cons (.str _) (.cons (.str _) (.cons (.int _) .nil)))) ⟨hxm,nk⟩ (B3.new mt) (((F1.trans X2).trans X3).trans (Fix.new mt))
  ·
   rw [show decide (V.str "read" = V.str "copy")=false by decide +kernel]
   refine aT ⟨_,rfl,rfl,_,rfl,?_⟩
   rw [show decide (V.str "read" = V.str "put")=false by decide +kernel]
   refine aT ⟨_,rfl,rfl,_,rfl,?_⟩
   rw [show decide (V.str "read" = V.str "add")=false by decide +kernel]
   refine aT ⟨_,rfl,_,rfl,ln2,fun t mt=>?_⟩
   exact q _ (.read x) _ (.tup ab (.cons (.str _) (.cons (.str _) .nil))) hxm (B2.new mt) ((F1.trans X2).trans (Fix.new mt))
  ·
   rw [show decide (V.str "tell" = V.str "copy")=false by decide +kernel]
   refine aT ⟨_,rfl,rfl,_,rfl,?_⟩
   rw [show decide (V.str "tell" = V.str "put")=false by decide +kernel]
   refine aT ⟨_,rfl,rfl,_,rfl,?_⟩
   rw [show decide (V.str "tell" = V.str "add")=false by decide +kernel]
   refine aT ⟨_,rfl,_,rfl,ln2,fun t mt=>?_⟩
   exact q _ (.tell x) _ (.tup ab (.cons (.str _) (.cons (.str _) .nil))) hxm (B2.new mt) ((F1.trans X2).trans (Fix.new mt))
theorem mY {f:Addr} {fd:FuncData} (F:bZ K "_law_end" "_law_end" gQ f fd) (Z:Bl mg) (O_law_take:Own P w K mg base "_law_take" 1 ["bag", "many"] cR) (O_law_number:Own P w K mg base "_law_number" 2 ["bag"] ir):bg P w K mg base bS 3 f fd ["bag", "names", "count"] nP:=by
 refine F.ok (k:=2) dZ (fun vs H Q E h=>?_) (fun cdv A outer s H vs Q E hr h=>?_)
 ·obtain⟨b,l,xs,c,rfl,_⟩:=h
  rfl
 ·obtain⟨b,l,xs,c,rfl,hB,hN,c0,c1,q⟩:=h
  refine⟨_,(af (bw (i:=3) dZ.nd (av O_law_take hr (aA (pv 0) aa)))
   (af (aR (aw cc (pv 3) aa (aJ _))
   (ah (ao (cu (ay aQ))))
   aH)
   (af (aR (aw eT (pv 3) aa (aJ _))
   (ah (ao (cu (aA aQ (av O_law_take hr (aA (pv 0) (pv 2)))))))
   aH)
   (af (bw (i:=4) dZ.nd (aN bF (cf (aA aQ aQ)) (aL lB (av O_law_take hr (aA (pv 0) aa)) aa)))
   (af (bw (i:=5) dZ.nd (aN bF (pv 1) (av O_law_take hr (aA (pv 0) (ai ax rfl Z.len aY (ay (pv 1)))))))
   (ah (ao (cu (bt (pv 4) (bt (pv 5) (bt (av O_law_number hr (ay (pv 0))) (bt (av O_law_take hr (aA (pv 0) (pv 2))) (bt (av O_law_take hr (aA (pv 0) (pv 2))) cA))))))))))))),?_⟩
  have ck:(0:Int) < (c:Int)/\(c:Int).natAbs.log2 < 9000:=⟨by omega,dg (by omega) (by omega)⟩
  refine⟨_,rfl,b,9,rfl,hB,⟨by decide,by decide +kernel⟩,fun r H1 r0 r1 B1 X1=>?_⟩
  refine⟨_,rfl,rfl,_,rfl,?_⟩
  refine cy (fun hc=>?_) (fun hc=>?_)
  ·refine⟨pM,fun t mt=>?_⟩
   exact q _ .stop _ (.tup ab (.cons (.str _) .nil)) True.intro (B1.new mt) (X1.trans (Fix.new mt))
  refine⟨_,rfl,_,_,rfl,rfl,_,rfl,?_⟩
  refine cy (fun hd=>?_) (fun hd=>?_)
  ·refine⟨_,rfl,_,rfl,b,_,rfl,B1,ck,fun p H2 p0 p1 B2 X2=>⟨ln2,fun t mt=>?_⟩⟩
   obtain⟨k,rfl⟩:∃ k:Nat,p=k:=⟨p.toNat,by omega⟩
   exact q _ (.go k) _ (.tup ab (.cons (.str _) (.cons (.int _) .nil))) (show k < c by omega) (B2.new mt) ((X1.trans X2).trans (Fix.new mt))
  ·refine⟨ln2,fun l0 m0=>?_⟩
   refine⟨_,rfl,b,3,rfl,B1.new m0,⟨by decide,by decide +kernel⟩,fun z H2 z0 z1 B2 X2=>⟨_,_,rfl,rfl,⟨by decide,by decide⟩,?_⟩⟩
   have h0:H2 l0=some (.lst [.str "less",.str "is"]):=X2 l0 _ ab (B1.cw m0)
   have hw:∃ w:Bool,dh [V.str "less",V.str "is"] (z / 2)=some (V.str (wT w)):=by
    obtain h | h:z / 2=0\/z / 2=1:=by omega
    ·rw [h];exact⟨true,di⟩
    ·rw [h];exact⟨false,hZ⟩
   obtain⟨w,hat⟩:=hw
   refine⟨l0,_,_,_,rfl,rfl,aW.of h0,hat,?_⟩
   have F2:Fix b H H2:=(X1.trans (Fix.new m0)).trans X2
   have N2:=hN.fix F2
   obtain⟨p0,p1⟩:=N2.pos
   refine⟨_,rfl,_,rfl,_,rfl,l,_,rfl,.inl (aW.of N2.at_),b,_,rfl,B2,⟨p0,dg p0 p1⟩,fun r3 H3 r30 r31 B3 X3=>?_⟩
   have N3:=N2.fix X3
   obtain⟨x,hx,hxm⟩:=iu r30 r31
   refine⟨l,_,r3,_,rfl,rfl,aW.of N3.at_,hx,?_⟩
   refine⟨_,rfl,_,rfl,_,rfl,b,rfl,B3,fun n H4 nk B4 X4=>?_⟩
   refine⟨_,rfl,_,rfl,b,_,rfl,B4,ck,fun p H5 p0 p1 B5 X5=>?_⟩
   refine⟨_,rfl,_,rfl,b,_,rfl,B5,ck,fun p' H6 p0' p1' B6 X6=>⟨uk,fun t mt=>?_⟩⟩
   obtain⟨k,rfl⟩:∃ k:Nat,p=k:=⟨p.toNat,by omega⟩
   obtain⟨k',rfl⟩:∃ k:Nat,p' = k:=⟨p'.toNat,by omega⟩
   exact q _ (.nN w x n k k') _ (.tup ab (.cons (.str _) (.cons (.str _) (.cons (.int _) (.cons (.int _) (.cons (.int _) .nil)))))) ⟨hxm,nk,by omega,by omega⟩ (B6.new mt) ((((F2.trans X3).trans X4).trans (X5.trans X6)).trans (Fix.new mt))
theorem lg {f:Addr} {fd:FuncData} (F:bZ K "_law_plan" "_law_plan" fS f fd) (Z:Bl mg) (O_law_take:Own P w K mg base "_law_take" 1 ["bag", "many"] cR) (O_law_names:Own P w K mg base "_law_names" 2 ["bag"] lS) (O_law_deed:Own P w K mg base "_law_deed" 3 ["bag", "names"] nO) (O_law_end:Own P w K mg base "_law_end" 3 ["bag", "names", "count"] nP):bg P w K mg base bS 4 f fd ["bag", "count", "most"] nQ:=by
  refine F.ok (k:=3) cG (fun vs H Q E h=>?_) (fun cdv A outer s H vs Q E hr h=>?_)
  · obtain⟨b,c,m,rfl,_⟩:=h
    rfl
  · obtain⟨b,c,m,rfl,hB,c0,c1,hm,q⟩:=h
    refine⟨_,(af (bw (i:=3) cG.nd (av O_law_names hr (ay (pv 0))))
      (af (bw (i:=4) cG.nd (cf cA))
      (af (gi PassesOwn.never rfl (dC rfl Z.range (ay (pv 1))) (b0 (i:=5) cG.nd)
      (af (bw (i:=6) cG.nd (av O_law_take hr (aA (pv 0) (aL cb (pv 2) aa))))
      (af (bw (i:=7) cG.nd (av O_law_end hr (e5 (pv 0) (pv 3) (pv 1))))
      (ah (iY (iM PySem.F.plainAttrs_list PySem.F.slot_list_append PySem.F.type_list_append eV (pv 4) (ay (cu (aA (cK fU rfl Z.tuple bQ (ay (cW ["j"] ["bag", "names"] [0,3] rfl (dC rfl Z.range (ay (pv 6))) rfl (by decide +kernel) (by decide +kernel) (by decide +kernel) ⟨⟨rfl,.inl rfl,rfl⟩,⟨⟨rfl,.inl rfl,rfl⟩,True.intro⟩⟩ (fun _ _ _ _=>(b0 (i:=0) (show ((["j"]:List Str)++(["bag", "names"]:List Str)).Nodup by decide +kernel) (hf:=Or.inr rfl))) (fun _ _ _ _=>dn) (fun _ _ _ _=>(av O_law_deed hr (aA (pv 1) (pv 2))))))) (pv 7))))))))))
      (ah (ao (cK fU rfl Z.tuple bQ (ay (pv 4)))))))),?_⟩
    refine⟨_,rfl,b,rfl,hB,fun l xs H1 N1 x4 B1 X1=>?_⟩
    refine⟨(by show 0<=sizeLine;decide),fun pl pn=>?_⟩
    have hpb:pl ≠ b:=B1.cw pn
    refine⟨_,rfl,_,rfl,(by omega),(by omega),gm (lo:=0) (fun i σ H'=>∃ (u1 u2 u3:Option V) (ps:List Piece) (vs:List V),σ = [some (.ref b),some (.int c),some (.int m),some (.ref l),some (.ref pl),u1,u2,u3] /\
      H' pl=some (.lst vs)/\au H' vs (ps.map cC)/\ps.length=i/\(∀ p ∈ ps,(p.1.length<=m/\∀ d ∈ p.1,eF xs d)/\gY xs c p.2)/\cN H' b l xs/\bL H' b/\Fix b H H'/\(∀ d o,H1 d=some o->d ≠ b->H' d=some o)) ?_ ?_ ?_⟩
    · exact⟨_,_,_,[],[],rfl,ab,.nil,rfl,(fun _ h=>nomatch h),N1.fix (Fix.new pn),B1.new pn,X1.trans (Fix.new pn),Fix.new pn⟩
    · rintro i σ H' hi ⟨u1,u2,u3,ps,vs,rfl,hp,hr,hl,aK,N',B',X',Y'⟩
      refine⟨_,rfl,_,rfl,_,_,rfl,rfl,b,_,rfl,B',⟨by omega,dg (by omega) (by omega)⟩,fun k H2 k0 k1 B2 X2=>?_⟩
      have N2:=N'.fix X2
      refine⟨_,rfl,_,rfl,_,rfl,b,l,xs,c,rfl,B2,N2,c0,(by omega),fun ev e H3 re ek B3 X3=>?_⟩
      have N3:=N2.fix X3
      have hp3:H3 pl=some (.lst vs):=(X2.trans X3) pl _ hp hpb
      have hr3:au H3 vs (ps.map cC):=hr.fix B' (X2.trans X3) (bR ps)
      refine⟨_,rfl,.inl ⟨rfl,_,aW.of hp3⟩,_,rfl,_,rfl,(by omega),(by omega),fun acc na=>?_⟩
      have hab:acc ≠ b:=B3.cw na
      refine ka (lo:=0) (fun i ys τ H'=>∃ (v:Option V) (ds:List gC),τ = [v,some (.ref b),some (.ref l)]/\au H' ys (ds.map cV)/\ds.length=i/\(∀ d ∈ ds,eF xs d)/\H' acc=some (.lst ys)/\bL H' b/\Fix b H3 H') ?_ ?_ ?_ ?_
      · exact⟨none,[],rfl,.nil,rfl,(fun _ h=>nomatch h),ab,B3.new na,Fix.new na⟩
      · rintro i' ys τ H4 hi' ⟨v,ds,rfl,rds,hl',_,ha,_⟩
        refine⟨ha,?_⟩
        rw [rds.len,List.length_map]
        exact bc (by omega)
      · rintro i' ys τ H4 hi' ⟨v,ds,rfl,rds,hl',hdk,ha,B4,X4⟩
        refine cS ?_
        refine iw ?_
        refine aI ?_
        refine⟨_,rfl,_,rfl,b,l,xs,rfl,B4,N3.fix X4,fun dv d H5 rd dk B5 X5=>?_⟩
        have ha5:=X5 acc _ ha hab
        refine⟨ha5,_,ds ++ [d],rfl,?_,(by rw [List.length_append,hl'];rfl),?_,ab,?_,?_⟩
        · rw [List.map_append]
          refine au.app ((rds.fix B4 X5 (cD ds)).put ha5 (cD ds)) ?_
          exact rd.cq (fun p zs e=>by rw [aF (iE e ha5 (by intro z;cases z))];exact e) (ib d)
        · intro d' hd
          rcases List.mem_append.mp hd with hd | hd
          · exact hdk d' hd
          · rw [List.mem_singleton.mp hd];exact dk
        · obtain⟨x,y,e,z⟩:=B5
          exact⟨x,y,by rw [aF hab.symm];exact e,z⟩
        · intro d' o hd nd
          rw [aF (bp hd na)]
          exact (X4.trans X5) d' o hd nd
      · rintro ys τ H4 ⟨v,ds,rfl,rds,hl',hdk,ha,B4,X4⟩
        refine⟨acc,ys,rfl,.inl ⟨aW.of ha,fun tp tn=>?_⟩⟩
        refine⟨_,rfl,ln2,fun pc pcn=>?_⟩
        have S6:ae H4 (upd (upd H4 tp (.tup ys)) pc (.tup [.ref tp,ev])):=(ae.new tn).trans (ae.new pcn)
        have hp6:(upd (upd H4 tp (.tup ys)) pc (.tup [.ref tp,ev])) pl=some (.lst vs):=S6 _ _ (X4 pl _ hp3 hpb)
        refine⟨pl,_,_,rfl,rfl,hp6,?_,?_⟩
        · rw [hr.len,List.length_map,hl]
          exact bc (by omega)
        have hpiece:aZ (upd (upd H4 tp (.tup ys)) pc (.tup [.ref tp,ev])) (.ref pc) (cC (ds,e)):=by
          refine .tup ab (.cons (.tup (ae.new pcn _ _ ab) (rds.same S6 (cD ds))) (.cons ?_ .nil))
          exact (re.fix B3 X4 (fJ e)).same S6 (fJ e)
        have F6:Fix b H (upd (upd H4 tp (.tup ys)) pc (.tup [.ref tp,ev])):=((X'.trans (X2.trans X3)).trans X4).trans (Fix.of_same S6)
        have plH:∀ d o,H1 d=some o->d ≠ b->d ≠ pl:=fun d o hd nd z=>by rw [z,pn] at hd;cases hd
        refine⟨_,_,_,ps ++ [(ds,e)],vs ++ [.ref pc],rfl,ab,?_,(by rw [List.length_append,hl];rfl),?_,?_,?_,?_,?_⟩
        · rw [List.map_append]
          refine au.app (((hr3.fix B3 X4 (bR ps)).same S6 (bR ps)).put hp6 (bR ps)) ?_
          exact hpiece.cq (fun p zs e=>by rw [aF (iE e hp6 (by intro z;cases z))];exact e) (gF (ds,e))
        · intro p hpm
          rcases List.mem_append.mp hpm with hpm | hpm
          · exact aK p hpm
          · rw [List.mem_singleton.mp hpm]
            exact⟨⟨by show ds.length<=m;omega,hdk⟩,ek⟩
        · have hll:l ≠ pl:=fun z=>by
            have:=N1.at_
            rw [z,pn] at this
            cases this
          have N6:=(N3.fix X4).fix (Fix.of_same (b:=b) S6)
          exact⟨by rw [aF hll];exact N6.at_,N6.ne,N6.mH,N6.jt,N6.ok⟩
        · obtain⟨x,y,e',z⟩:=B4.same S6
          exact⟨x,y,by rw [aF hpb.symm];exact e',z⟩
        · intro d o hd nd
          have h1:=X1 d o hd nd
          rw [aF (plH d o h1 nd)]
          exact F6 d o hd nd
        · intro d o hd nd
          rw [aF (plH d o hd nd)]
          exact S6 d o (X4 d o ((X2.trans X3) d o (Y' d o hd nd) nd) nd)
    · rintro σ H' ⟨u1,u2,u3,ps,vs,rfl,hp,hr,hl,aK,N',B',X',Y'⟩
      have hl':ps.length=c:=by rw [hl];omega
      refine⟨_,rfl,pl,_,rfl,.inl ⟨aW.of hp,fun tp tn=>?_⟩⟩
      refine q (.ref tp) xs ps _ (.tup ab (hr.same (ae.new tn) (bR ps))) hl' ⟨fun p hpm=>(aK p hpm).1,fun p hpm=>?_⟩ ⟨N'.ok,x4⟩ (B'.new tn) (X'.trans (Fix.new tn))
      rw [hl']
      exact (aK p hpm).2
theorem kL {f:Addr} {fd:FuncData} (F:bZ K "_law_count" "_law_count" fk f fd) (Z:Bl mg) (O_law_take:Own P w K mg base "_law_take" 1 ["bag", "many"] cR):bg P w K mg base bS 2 f fd ["bag", "most"] lT:=by
 refine F.ok (k:=1) kH (fun vs H Q E h=>?_) (fun cdv A outer s H vs Q E hr h=>?_)
 ·obtain⟨b,m,rfl,_⟩:=h
  rfl
 ·obtain⟨b,m,rfl,hB,m0,m1,q⟩:=h
  refine⟨_,(ah (ao (aN bF (cf (e5 (aL cb aa (av O_law_take hr (aA (pv 0) (pv 1)))) (aL cb aa (av O_law_take hr (aA (pv 0) (ai (jj rfl) rfl Z.min nG (aA aa (pv 1)))))) (pv 1))) (av O_law_take hr (aA (pv 0) aa))))),?_⟩
  refine⟨_,rfl,_,rfl,b,_,rfl,hB,⟨by omega,dg (by omega) (by omega)⟩,fun r H1 r0 r1 B1 X1=>⟨_,_,rfl,rfl,?_⟩⟩
  refine⟨_,rfl,_,rfl,_,_,rfl,b,_,rfl,B1,⟨(by split <;> omega),dg (by split <;> omega) (by split <;> omega)⟩,fun r2 H2 r20 r21 B2 X2=>⟨_,_,rfl,rfl,?_⟩⟩
  refine⟨_,rfl,pN,fun l0 n0=>?_⟩
  refine⟨_,rfl,b,3,rfl,B2.new n0,⟨by decide,by decide +kernel⟩,fun z H3 z0 z1 B3 X3=>?_⟩
  have h0:H3 l0=some (.lst [.int (1+r),.int (1+r2),.int m]):=X3 l0 _ ab (B2.cw n0)
  have hr2:r2 < 4:=by
   have:=r21
   split at this <;> omega
  have F3:Fix b H H3:=((X1.trans X2).trans (Fix.new n0)).trans X3
  obtain rfl | rfl | rfl:z=0\/z=1\/z=2:=by omega
  ·refine⟨l0,_,0,_,rfl,rfl,aW.of h0,di,?_⟩
   have e:(1+r)=(((1+r).toNat:Nat):Int):=by omega
   rw [e]
   exact q _ H3 (by omega) (by omega) B3 F3
  ·refine⟨l0,_,1,_,rfl,rfl,aW.of h0,hZ,?_⟩
   have e:(1+r2)=(((1+r2).toNat:Nat):Int):=by omega
   rw [e]
   exact q _ H3 (by omega) (by omega) B3 F3
  ·refine⟨l0,_,2,_,rfl,rfl,aW.of h0,at2,?_⟩
   exact q _ H3 m0 (by omega) B3 F3
theorem si {f:Addr} {fd:FuncData} (F:bZ K "law" "law" hU f fd) (Z:Bl mg) (O_law_bag:Own P w K mg base "_law_bag" 1 ["script", "k"] (pO K)) (O_law_take:Own P w K mg base "_law_take" 1 ["bag", "many"] cR) (O_law_plan:Own P w K mg base "_law_plan" 4 ["bag", "count", "most"] nQ) (O_law_count:Own P w K mg base "_law_count" 2 ["bag", "most"] lT) (O_law_spoilt:Own P w K mg base "_law_spoilt" 7 ["bag", "thing", "count"] (eZ 5)) (O_law_is_plan:Own P w K mg base "_law_is_plan" 3 ["thing"] hG) (O_is_plan:Own P w K mg base "is_plan" 6 ["thing"] hG):bg P w K mg base bS 9 f fd ["script"] (jL K):=by
 refine F.ok (k:=8) dE (fun vs H Q E h=>?_) (fun cdv A outer s H vs Q E hr h=>?_)
 ·obtain⟨a,ns,rfl,_⟩:=h
  rfl
 ·obtain⟨a,ns,rfl,hS,hlen,q⟩:=h
  refine⟨_,(af (bw (i:=1) dE.nd (av O_law_bag hr (aA (pv 0) aa)))
   (af (bw (i:=2) dE.nd (aN bF (cf (aA (av O_law_count hr (aA (pv 1) aa)) aa)) (cK gr rfl Z.int gw (ay (d6 cc (av O_law_take hr (aA (pv 1) aa)) aa (aJ _))))))
   (af (bw (i:=3) dE.nd (av O_law_plan hr (e5 (pv 1) (pv 2) (aN bF (cf (aA aa aa)) (cK gr rfl Z.int gw (ay (d6 fG (pv 2) aa (aJ _))))))))
   (af (aR (PW.pt (bC (aw gB (av O_is_plan hr (ay (pv 3))) br (aJ _)) (bV (aw gB (av O_is_plan hr (ay (cu cA))) br (aJ _)))))
   (ah (ao br))
   aH)
   (af (aR (aw gB (av O_is_plan hr (ay (aL qB (bP b9 (pv 3) b8 (bY aa)) aa))) br (aJ _))
   (ah (ao br))
   aH)
   (af (gi PassesOwn.never rfl (dC rfl Z.range (ay (aL cb aa (ai (jj rfl) rfl Z.min nG (aA (ai ax rfl Z.len aY (ay (pv 0))) aa))))) (b0 (i:=4) dE.nd)
   (af (bw (i:=1) dE.nd (av O_law_bag hr (aA (pv 0) (pv 4))))
   (af (bw (i:=5) dE.nd (av O_law_spoilt hr (e5 (pv 1) (pv 3) (pv 2))))
   (af (bw (i:=6) dE.nd (av O_is_plan hr (ay (pv 5))))
   (ah (aR (PW.pt (bC (bB (bA (ai aV rfl Z.isinstance aC (aA (pv 6) (bf (v:=.ty "bool") rfl Z.bool i2 rfl))))) (bV (aw gU (pv 6) (av O_law_is_plan hr (ay (pv 5))) (aJ _)))))
   (ah (ao br))
   aH))))))
   (ah (ao br)))))))),?_⟩
  refine⟨_,rfl,a,ns,0,rfl,hS,(by decide),fun b H1 nb B1 s1=>?_⟩
  refine⟨_,rfl,b,40,rfl,B1,(by omega),(by omega),fun c H2 c0 c1 B2 X2=>?_⟩
  refine⟨ln2,fun l0 n0=>?_⟩
  have h0:(upd H2 l0 (.lst [.int c,.int 400])) l0=some (.lst [.int c,.int 400]):=ab
  refine⟨_,rfl,b,8,rfl,B2.new n0,⟨by decide,by decide +kernel⟩,fun z H3 z0 z1 B3 X3=>⟨rfl,?_⟩⟩
  have h0:=X3 _ _ h0 (B2.cw n0)
  obtain⟨g,hg,hg2⟩:∃ g:Nat,dh [V.int c,V.int 400] (if decide (V.int z=V.int 0)=true then 1 else 0)=some (V.int g)/\(0 < g/\g<=400):=by
   cases decide (V.int z=V.int 0)
   ·exact⟨c,di,by omega⟩
   ·exact⟨400,hZ,by omega⟩
  refine .inr ⟨_,rfl,l0,_,_,_,rfl,rfl,aW.of h0,hg,?_⟩
  refine⟨_,rfl,_,rfl,ln2,fun l1 n1=>?_⟩
  have h1:(upd H3 l1 (.lst [.int 12,.int 2])) l1=some (.lst [.int 12,.int 2]):=ab
  refine⟨_,rfl,_,_,rfl,rfl,?_⟩
  obtain⟨g2,hgg,hgg2⟩:∃ g2:Nat,dh [V.int 12,V.int 2] (if decide ((40:Int) < (g:Int))=true then 1 else 0)=some (V.int g2)/\g2<=12:=by
   cases decide ((40:Int) < (g:Int))
   ·exact⟨12,di,by omega⟩
   ·exact⟨2,hZ,by omega⟩
  refine .inr ⟨_,rfl,l1,_,_,_,rfl,rfl,aW.of h1,hgg,?_⟩
  refine⟨b,g,g2,rfl,B3.new n1,hg2.1,(by omega),(by omega),fun plv xs ps H4 r4 hc4 pok xok B4 X4=>?_⟩
  have s4:ae H H4:=ae.nH s1 nb (((X2.trans (Fix.new n0)).trans X3).trans ((Fix.new n1).trans X4))
  have hpl:dX (dU ps)=true:=pB xok.1 pok hgg2 (by omega) (by omega)
  have htr:cJ 5 (dU ps):=oh xok.1 pok hgg2 (by omega)
  have nol:=kR ps
  have hfw:=fK htr
  have hp1:0 < ps.length:=by omega
  clear B4 B3 B2 B1 X2 X3 X4 h0 h1 hg hgg n0 n1 nb s1 pok xok
  refine⟨_,rfl,plv,dU ps,rfl,r4,hfw,fun H5 s5=>⟨_,true,rfl,rfl,_,rfl,bD (by rw [hpl];rfl) ?_⟩⟩
  refine⟨(by show 0<=sizeLine;decide),fun t0 nt0=>⟨.ref t0,.tuple [],rfl,.tup ab .nil,rfl,fun H6 s6=>⟨_,false,rfl,rfl,_,rfl,bD rfl ?_⟩⟩⟩
  have s46:=s5.trans ((ae.new nt0).trans s6)
  have r6:=r4.same s46 nol
  obtain⟨pp,vs,rfl,e6,rvs⟩:=aZ.lV r6
  have hvl:vs.length=ps.length:=by have:=rvs.len;rw [List.length_map] at this;exact this
  refine⟨_,rfl,_,rfl,pp,_,rfl,e6,fun p1 H7 hp1' s7=>?_⟩
  rw [show cH vs none (some 1)=vs.take 1 from fz (k:=1) (by omega)] at hp1'
  obtain⟨p0,pr,rfl⟩:∃ p0 pr,ps=p0 :: pr:=List.exists_cons_of_length_pos hp1
  obtain⟨v0,vr,rfl,rv0,rvr⟩:=au.cons_inv rvs
  refine⟨p1,401,[v0],rfl,rfl,hp1',(List.cons_ne_nil _ _),(by decide),(by decide),(by show 1<=3;decide),fun p2 H8 hp2 s8=>?_⟩
  have hf0:bb (cC p0)=true:=by
   have:=hfw
   simp only [dU,List.map_cons,bb,bU,Bool.and_eq_true] at this
   exact this.2.1
  refine⟨.ref p2,.tuple (List.replicate 401 (cC p0)),rfl,.tup hp2 (au.sh (rv0.bo (s7.trans s8)) 401),i9 (by rw [List.length_replicate];decide) (fun e he=>by rw [List.eq_of_mem_replicate he];exact hf0),fun H9 s9=>⟨_,false,rfl,rfl,_,rfl,bD ?_ ?_⟩⟩
  ·rw [iB (by rw [List.length_replicate];decide)]
   rfl
  have s99:=(s7.trans s8).trans s9
  have r9:=r6.same s99 nol
  have sH9:=(s4.trans s46).trans s99
  refine⟨_,rfl,a,_,rfl,.inl (sH9.seq hS),_,_,rfl,_,_,rfl,rfl,_,rfl,(by split <;> (try rw [List.length_map]) <;> omega),(by split <;> (try rw [List.length_map]) <;> omega),gm (lo:=0) (fun i σ H'=>∃ (u0 u1 u2 u3:Option V),σ = [some (.ref a),u0,some (.int (g:Nat)),some (.ref pp),u1,u2,u3]/\ae H9 H') ?_ ?_ ?_⟩
  ·exact⟨_,_,_,_,rfl,ae.refl H9⟩
  ·rintro i σ H10 hi ⟨u0,u1,u2,u3,rfl,g1⟩
   refine cS ?_
   refine⟨_,rfl,_,rfl,a,ns,(0+(i:Int)),rfl,(sH9.trans g1).seq hS,(by omega),fun b H11 nb B11 s11=>?_⟩
   refine⟨_,rfl,_,rfl,_,rfl,b,.ref pp,dU (p0 :: pr),g,rfl,B11,r9.same (g1.trans s11) nol,htr,fun x' d' H12 rx fx B12 X12=>?_⟩
   have s12:=g1.trans (ae.nH s11 nb X12)
   refine⟨_,rfl,x',d',rfl,rx,fx,fun H13 s13=>?_⟩
   obtain⟨tB,htB,_,_,hbB,_⟩:=ba (K:=K) (H:=H13) (aZ.bl (dX d'))
   refine⟨_,rfl,_,_,_,_,rfl,htB,hbB,_,rfl,aT ?_⟩
   refine⟨_,rfl,_,rfl,x',d',rfl,rx.bo s13,fx,fun H14 s14=>⟨rfl,_,rfl,bD (by rw [decide_eq_true rfl];rfl) ?_⟩⟩
   exact⟨_,_,_,_,rfl,(s12.trans s13).trans s14⟩
  ·rintro σ H10 ⟨u0,u1,u2,u3,rfl,g1⟩
   exact q _
end
theorem all_mk {l:PySem.W.OpenLaw} {w:World} {K:PySem.W.Frag} {h:Heap} {mg:Str->Option Value} {fa:Addr} (X:K.In h) (G:h.Ns mainGlobals mg) (hfa:mg "law" = some (.ref fa))
  {f0 f1 f2 f3 f4 f5 f6 f7 f8 f9 f10 f11 f12 f13 f14 f15 f16 f17 f18 f19 f20 f21 f22 f23 f24:Addr} {g0 g1 g2 g3 g4 g5 g6 g7 g8 g9 g10 g11 g12 g13 g14 g15 g16 g17 g18 g19 g20 g21 g22 g23 g24:FuncData}
  {tk_LONGEST_NAME:Tok}
  {tk_MOST_PIECES:Tok}
  {tk_MOST_DEEDS:Tok}
  {aE:Addr} {epE:Nat} {s0:Addr} {hsE0:Int} {tkE0:Tok} {dcE0:Option Addr} {nnE0:Nat} {slE0:Array (Option Value)}  {s1:Addr} {hsE1:Int} {tkE1:Tok} {dcE1:Option Addr} {nnE1:Nat} {slE1:Array (Option Value)} {ttE1_0:Tok} {s2:Addr} {hsE2:Int} {tkE2:Tok} {dcE2:Option Addr} {nnE2:Nat} {slE2:Array (Option Value)} {ttE2_0:Tok} {ttE2_1:Tok} {ttE2_2:Tok} {ttE2_3:Tok} {s3:Addr} {hsE3:Int} {tkE3:Tok} {dcE3:Option Addr} {nnE3:Nat} {slE3:Array (Option Value)} {ttE3_0:Tok} {ttE3_1:Tok} {ttE3_2:Tok} {ttE3_3:Tok}
  {aD:Addr} {epD:Nat} {d0:Addr} {hsD0:Int} {tkD0:Tok} {dcD0:Option Addr} {nnD0:Nat} {slD0:Array (Option Value)} {ttD0_0:Tok} {ttD0_1:Tok} {d1:Addr} {hsD1:Int} {tkD1:Tok} {dcD1:Option Addr} {nnD1:Nat} {slD1:Array (Option Value)} {ttD1_0:Tok} {ttD1_1:Tok} {d2:Addr} {hsD2:Int} {tkD2:Tok} {dcD2:Option Addr} {nnD2:Nat} {slD2:Array (Option Value)} {ttD2_0:Tok} {ttD2_1:Tok} {d3:Addr} {hsD3:Int} {tkD3:Tok} {dcD3:Option Addr} {nnD3:Nat} {slD3:Array (Option Value)} {ttD3_0:Tok} {d4:Addr} {hsD4:Int} {tkD4:Tok} {dcD4:Option Addr} {nnD4:Nat} {slD4:Array (Option Value)} {ttD4_0:Tok}
  (z_len:PySem.W.nsIn K mainGlobals "len" = some none)
  (z_min:PySem.W.nsIn K mainGlobals "min" = some none)
  (z_range:PySem.W.nsIn K mainGlobals "range" = some none)
  (z_isinstance:PySem.W.nsIn K mainGlobals "isinstance" = some none)
  (z_bool:PySem.W.nsIn K mainGlobals "bool" = some none)
  (z_int:PySem.W.nsIn K mainGlobals "int" = some none)
  (z_str:PySem.W.nsIn K mainGlobals "str" = some none)
  (z_tuple:PySem.W.nsIn K mainGlobals "tuple" = some none)
  (z_all:PySem.W.nsIn K mainGlobals "all" = some none)
  (z_zip:PySem.W.nsIn K mainGlobals "zip" = some none)
  (z_list:PySem.W.nsIn K mainGlobals "list" = some none)
  (g_LONGEST_NAME:PySem.W.nsIn K mainGlobals "LONGEST_NAME" = some (some (.int 8 tk_LONGEST_NAME)))
  (g_MOST_PIECES:PySem.W.nsIn K mainGlobals "MOST_PIECES" = some (some (.int 400 tk_MOST_PIECES)))
  (g_MOST_DEEDS:PySem.W.nsIn K mainGlobals "MOST_DEEDS" = some (some (.int 12 tk_MOST_DEEDS)))
  (gE:PySem.W.nsIn K mainGlobals "END_PARTS" = some (some (.ref aE))) (lE:K.lookup aE=some ⟨.type "dict",none,.dict #[⟨hsE0,.str "stop" tkE0,.ref s0⟩,⟨hsE1,.str "go" tkE1,.ref s1⟩,⟨hsE2,.str "less" tkE2,.ref s2⟩,⟨hsE3,.str "is" tkE3,.ref s3⟩] epE,#[]⟩) (qE0:K.lookup s0=some ⟨.type "tuple",dcE0,.seq #[] nnE0,slE0⟩) (qE1:K.lookup s1=some ⟨.type "tuple",dcE1,.seq #[.str "piece" ttE1_0] nnE1,slE1⟩) (qE2:K.lookup s2=some ⟨.type "tuple",dcE2,.seq #[.str "name" ttE2_0,.str "number" ttE2_1,.str "piece" ttE2_2,.str "piece" ttE2_3] nnE2,slE2⟩) (qE3:K.lookup s3=some ⟨.type "tuple",dcE3,.seq #[.str "name" ttE3_0,.str "number" ttE3_1,.str "piece" ttE3_2,.str "piece" ttE3_3] nnE3,slE3⟩)
  (yE:(aE == sysModules)=false)
  (gD:PySem.W.nsIn K mainGlobals "DEED_PARTS" = some (some (.ref aD))) (lD:K.lookup aD=some ⟨.type "dict",none,.dict #[⟨hsD0,.str "put" tkD0,.ref d0⟩,⟨hsD1,.str "copy" tkD1,.ref d1⟩,⟨hsD2,.str "add" tkD2,.ref d2⟩,⟨hsD3,.str "read" tkD3,.ref d3⟩,⟨hsD4,.str "tell" tkD4,.ref d4⟩] epD,#[]⟩) (qD0:K.lookup d0=some ⟨.type "tuple",dcD0,.seq #[.str "name" ttD0_0,.str "number" ttD0_1] nnD0,slD0⟩) (qD1:K.lookup d1=some ⟨.type "tuple",dcD1,.seq #[.str "name" ttD1_0,.str "name" ttD1_1] nnD1,slD1⟩) (qD2:K.lookup d2=some ⟨.type "tuple",dcD2,.seq #[.str "name" ttD2_0,.str "number" ttD2_1] nnD2,slD2⟩) (qD3:K.lookup d3=some ⟨.type "tuple",dcD3,.seq #[.str "name" ttD3_0] nnD3,slD3⟩) (qD4:K.lookup d4=some ⟨.type "tuple",dcD4,.seq #[.str "name" ttD4_0] nnD4,slD4⟩)
  (yD:(aD == sysModules)=false)
  (D0:bu K "is_whole" fM f0 g0)
  (D1:bu K "is_name" gL f1 g1)
  (D2:bu K "is_part" gM f2 g2)
  (D3:bu K "first_word" eN f3 g3)
  (D4:bu K "has_parts" fe f4 g4)
  (D5:bu K "is_deed" gN f5 g5)
  (D6:bu K "is_end" iD f6 g6)
  (D7:bu K "is_piece" fN f7 g7)
  (D8:bu K "is_plan" gO f8 g8)
  (D9:bu K "_law_is_name" dH f9 g9)
  (D10:bu K "_law_whole" fg f10 g10)
  (D11:bu K "_law_is_deed" dI f11 g11)
  (D12:bu K "_law_is_end" eO f12 g12)
  (D13:bu K "_law_is_plan" dM f13 g13)
  (D14:bu K "_law_bag" gP f14 g14)
  (D15:bu K "_law_take" fP f15 g15)
  (D16:bu K "_law_leaf" fQ f16 g16)
  (D17:bu K "_law_spoilt" eQ f17 g17)
  (D18:bu K "_law_names" fi f18 g18)
  (D19:bu K "_law_number" eR f19 g19)
  (D20:bu K "_law_deed" fR f20 g20)
  (D21:bu K "_law_end" gQ f21 g21)
  (D22:bu K "_law_plan" fS f22 g22)
  (D23:bu K "_law_count" fk f23 g23)
  (D24:bu K "law" hU f24 g24) :
  ∃ fd:FuncData,(∀ (s:Shared) (v:Value),BindsTo s fd ⟨[v],[]⟩ [("script",v)])/\∀ base:Heap,K.In base->base.Ns mainGlobals mg->bg l.prog w K mg base bS 9 fa fd ["script"] (jL K):=by
 have e:=hfa.symm.trans (PySem.W.mg_of X G D24.a)
 cases e
 have Z:Bl mg:=⟨PySem.W.mg_none_of X G z_len,PySem.W.mg_none_of X G z_min,PySem.W.mg_none_of X G z_range,PySem.W.mg_none_of X G z_isinstance,PySem.W.mg_none_of X G z_bool,PySem.W.mg_none_of X G z_int,PySem.W.mg_none_of X G z_str,PySem.W.mg_none_of X G z_tuple,PySem.W.mg_none_of X G z_all,PySem.W.mg_none_of X G z_zip,PySem.W.mg_none_of X G z_list⟩
 have G_LONGEST_NAME:mg "LONGEST_NAME" = some (.int 8 tk_LONGEST_NAME):=PySem.W.mg_of X G g_LONGEST_NAME
 have G_MOST_PIECES:mg "MOST_PIECES" = some (.int 400 tk_MOST_PIECES):=PySem.W.mg_of X G g_MOST_PIECES
 have G_MOST_DEEDS:mg "MOST_DEEDS" = some (.int 12 tk_MOST_DEEDS):=PySem.W.mg_of X G g_MOST_DEEDS
 have GE:oU K mg aE s0 s1 s2 s3:=⟨⟨PySem.W.mg_of X G gE,_,_,lE,(.cons rfl rfl (.cons rfl rfl (.cons rfl rfl (.cons rfl rfl .nil))))⟩,⟨_,_,_,qE0,rfl,rfl,(by show 0<=sizeLine;decide),.nil⟩,⟨_,_,_,qE1,rfl,rfl,(by show 1<=sizeLine;decide),(.cons ⟨_,rfl⟩ .nil)⟩,⟨_,_,_,qE2,rfl,rfl,(by show 4<=sizeLine;decide),(.cons ⟨_,rfl⟩ (.cons ⟨_,rfl⟩ (.cons ⟨_,rfl⟩ (.cons ⟨_,rfl⟩ .nil))))⟩,⟨_,_,_,qE3,rfl,rfl,(by show 4<=sizeLine;decide),(.cons ⟨_,rfl⟩ (.cons ⟨_,rfl⟩ (.cons ⟨_,rfl⟩ (.cons ⟨_,rfl⟩ .nil))))⟩⟩
 have GD:mK K mg aD d0 d1 d2 d3 d4:=⟨⟨PySem.W.mg_of X G gD,_,_,lD,(.cons rfl rfl (.cons rfl rfl (.cons rfl rfl (.cons rfl rfl (.cons rfl rfl .nil)))))⟩,⟨_,_,_,qD0,rfl,rfl,(by show 2<=sizeLine;decide),(.cons ⟨_,rfl⟩ (.cons ⟨_,rfl⟩ .nil))⟩,⟨_,_,_,qD1,rfl,rfl,(by show 2<=sizeLine;decide),(.cons ⟨_,rfl⟩ (.cons ⟨_,rfl⟩ .nil))⟩,⟨_,_,_,qD2,rfl,rfl,(by show 2<=sizeLine;decide),(.cons ⟨_,rfl⟩ (.cons ⟨_,rfl⟩ .nil))⟩,⟨_,_,_,qD3,rfl,rfl,(by show 1<=sizeLine;decide),(.cons ⟨_,rfl⟩ .nil)⟩,⟨_,_,_,qD4,rfl,rfl,(by show 1<=sizeLine;decide),(.cons ⟨_,rfl⟩ .nil)⟩⟩
 obtain⟨oc,od,kV,dc,pm,an,cd,ct,sl,rfl,lk,hcd⟩:=D24.F.ex
 refine⟨PySem.W.fnOf "law" "law" (cv hU) (b4 hU) (ar hU) .none kV dc pm an cd ct,fun s v=>.of_eq rfl,fun base _ _=>?_⟩
 have O_is_whole:=aU l.prog w base X G D0 (kU D0.F Z) (gG fun _ _ _ _ _ _ _=>rfl)
 have O_is_name:=aU l.prog w base X G D1 (mT D1.F Z G_LONGEST_NAME G_MOST_PIECES G_MOST_DEEDS) (gG fun _ _ _ _ _ _ _=>rfl)
 have O_is_part:=aU l.prog w base X G D2 (mU D2.F Z O_is_whole O_is_name) (ic fun _ _ _ _ _ _ _ _ _=>rfl)
 have O_first_word:=aU l.prog w base X G D3 (jH D3.F Z) (gG fun _ _ _ _ _ _ _=>rfl)
 have O_has_parts:=aU l.prog w base X G D4 (kI D4.F Z O_is_part) (ic fun _ _ _ _ _ _ _ _ _=>rfl)
 have O_is_deed:=aU l.prog w base X G D5 (mV D5.F Z GD yD O_has_parts O_first_word) (gG fun _ _ _ _ _ _ _=>rfl)
 have O_is_end:=aU l.prog w base X G D6 (om D6.F Z GE yE O_has_parts O_first_word) (jv fun _ _ _ _ _ _ _ _=>rfl)
 have O_is_piece:=aU l.prog w base X G D7 (kW D7.F Z G_LONGEST_NAME G_MOST_PIECES G_MOST_DEEDS O_is_deed O_is_end) (jv fun _ _ _ _ _ _ _ _=>rfl)
 have O_is_plan:=aU l.prog w base X G D8 (mW D8.F Z G_LONGEST_NAME G_MOST_PIECES G_MOST_DEEDS O_is_piece) (gG fun _ _ _ _ _ _ _=>rfl)
 have O_law_is_name:=aU l.prog w base X G D9 (jd D9.F Z) (gG fun _ _ _ _ _ _ _=>rfl)
 have O_law_whole:=aU l.prog w base X G D10 (kJ D10.F Z) (gG fun _ _ _ _ _ _ _=>rfl)
 have O_law_is_deed:=aU l.prog w base X G D11 (je D11.F Z O_law_is_name O_law_whole) (gG fun _ _ _ _ _ _ _=>rfl)
 have O_law_is_end:=aU l.prog w base X G D12 (jI D12.F Z O_law_is_name O_law_whole) (jv fun _ _ _ _ _ _ _ _=>rfl)
 have O_law_is_plan:=aU l.prog w base X G D13 (jf D13.F Z O_law_is_deed O_law_is_end) (gG fun _ _ _ _ _ _ _=>rfl)
 have O_law_bag:=aU l.prog w base X G D14 (mX D14.F Z) (jv fun _ _ _ _ _ _ _ _=>rfl)
 have O_law_take:=aU l.prog w base X G D15 (kX D15.F Z) (jv fun _ _ _ _ _ _ _ _=>rfl)
 have O_law_leaf:=aU l.prog w base X G D16 (kY D16.F Z O_law_take) (jv fun _ _ _ _ _ _ _ _=>rfl)
 have O_law_spoilt:=aU l.prog w base X G D17 (k:=2) (kC) (ic fun _ _ _ _ _ _ _ _ _=>rfl)
 have O_law_spoilt:=aU l.prog w base X G D17 (cF D17.F Z O_law_take O_law_leaf O_law_spoilt) (ic fun _ _ _ _ _ _ _ _ _=>rfl)
 have O_law_spoilt:=aU l.prog w base X G D17 (cF D17.F Z O_law_take O_law_leaf O_law_spoilt) (ic fun _ _ _ _ _ _ _ _ _=>rfl)
 have O_law_spoilt:=aU l.prog w base X G D17 (cF D17.F Z O_law_take O_law_leaf O_law_spoilt) (ic fun _ _ _ _ _ _ _ _ _=>rfl)
 have O_law_spoilt:=aU l.prog w base X G D17 (cF D17.F Z O_law_take O_law_leaf O_law_spoilt) (ic fun _ _ _ _ _ _ _ _ _=>rfl)
 have O_law_spoilt:=aU l.prog w base X G D17 (cF D17.F Z O_law_take O_law_leaf O_law_spoilt) (ic fun _ _ _ _ _ _ _ _ _=>rfl)
 have O_law_names:=aU l.prog w base X G D18 (kK D18.F Z O_law_take) (gG fun _ _ _ _ _ _ _=>rfl)
 have O_law_number:=aU l.prog w base X G D19 (jJ D19.F Z O_law_take) (gG fun _ _ _ _ _ _ _=>rfl)
 have O_law_deed:=aU l.prog w base X G D20 (kZ D20.F Z O_law_take O_law_number) (jv fun _ _ _ _ _ _ _ _=>rfl)
 have O_law_end:=aU l.prog w base X G D21 (mY D21.F Z O_law_take O_law_number) (ic fun _ _ _ _ _ _ _ _ _=>rfl)
 have O_law_plan:=aU l.prog w base X G D22 (lg D22.F Z O_law_take O_law_names O_law_deed O_law_end) (ic fun _ _ _ _ _ _ _ _ _=>rfl)
 have O_law_count:=aU l.prog w base X G D23 (kL D23.F Z O_law_take) (jv fun _ _ _ _ _ _ _ _=>rfl)
 exact si D24.F Z O_law_bag O_law_take O_law_plan O_law_count O_law_spoilt O_law_is_plan O_is_plan
theorem walk {l:PySem.W.OpenLaw} {q:Program} {loose:List Str} {XP:(Str->Option Value)->Heap->Prop} {YP:World->Heap->Prop} {d:DefRec} {K:Params->PySem.W.Frag} (hn:l.most=some 63) (hdf:d.params.defaults = [])
  (hY:∀ (w:World) (h:Heap),YP w h->(K w.params).In h)
  (F:∀ (w:World) (mg:Str->Option Value) (fa:Addr) (h:Heap),(K w.params).In h->h.Ns mainGlobals mg->mg d.name=some (.ref fa) ->
   ∃ fd:FuncData,(∀ (s:Shared) (u:Value),BindsTo s fd ⟨[u],[]⟩ [("script",u)])/\∀ base:Heap,(K w.params).In base->base.Ns mainGlobals mg->bg l.prog w (K w.params) mg base bS 9 fa fd ["script"] (jL (K w.params))) :
  PySem.W.WalkO q loose XP YP l.row.toRowW d [] (fun f vs=>PySem.call f vs) :=
 L2.qf (n:=63) (k:=9) (x := "script") (CX:=fun _=>bS) (sp:=fun w=>jL (K w.params)) hn (by decide) hdf ⟨rfl,by decide,by decide⟩ hY F (fun _ _ a ns hl _ hS=>⟨a,ns,rfl,hS,hl,fun _=>rfl⟩) fun _ _ _ _ _ z=>z
end My
theorem PySem.W.Fast.tw2701877604666345616:True:=trivial
theorem PySem.W.Fast.tw13652869321165280515:True:=trivial
theorem PySem.W.Fast.tw5655036447737686645:True:=trivial
theorem PySem.W.Fast.tw18008647966771822805:True:=trivial
theorem PySem.W.Fast.tw9160324798466384311:True:=trivial
theorem PySem.W.Fast.tw5822889762033780954:True:=trivial
theorem PySem.W.Fast.tw8189616168641398549:True:=trivial
theorem PySem.W.Fast.tw18207962742908854239:True:=trivial
theorem PySem.W.Fast.tw9306102245058636153:True:=trivial
theorem PySem.W.Fast.tw15211444947089830620:True:=trivial
theorem PySem.W.Fast.tw10922961692730948153:True:=trivial
theorem PySem.W.Fast.tw4024368455529478316:True:=trivial
theorem PySem.W.Fast.tw88602685989999812:True:=trivial
theorem PySem.W.Fast.tw16448749047313626562:True:=trivial
theorem PySem.W.Fast.tw508139284395780387:True:=trivial
theorem PySem.W.Fast.tw8077980751707100938:True:=trivial
theorem PySem.W.Fast.tw8697714805926693070:True:=trivial
theorem PySem.W.Fast.tw11238249762158583129:True:=trivial
theorem PySem.W.Fast.tw5126900567628572235:True:=trivial
theorem PySem.W.Fast.tw6197792978439332094:True:=trivial
theorem PySem.W.Fast.tw7027289878092317308:True:=trivial
theorem PySem.W.Fast.tw13835765251199799889:True:=trivial
theorem PySem.W.Fast.tw5846487935723621115:True:=trivial
theorem PySem.W.Fast.tw5983096414009337901:True:=trivial
theorem PySem.W.Fast.tw11312323943645896800:True:=trivial
theorem PySem.W.Fast.tw6627844283092012120:True:=trivial
theorem PySem.W.Fast.tw485488500067450478:True:=trivial
theorem PySem.W.Fast.tw1491999898662771469:True:=trivial
theorem PySem.W.Fast.tw9170797761016225035:True:=trivial
theorem PySem.W.Fast.tw4553670301141893348:True:=trivial
theorem PySem.W.Fast.tw11566993395590509487:True:=trivial
theorem PySem.W.Fast.tw11772601982648278590:True:=trivial
theorem PySem.W.Fast.tw9171329926413264501:True:=trivial
theorem PySem.W.Fast.tw5481385845259378126:True:=trivial
theorem PySem.W.Fast.tw5239153298922658068:True:=trivial
theorem PySem.W.Fast.tw10031199359593358574:True:=trivial
theorem PySem.W.Fast.tw18220345632906268684:True:=trivial
theorem PySem.W.Fast.tw3546153292581835980:True:=trivial
theorem PySem.W.Fast.tw14444959317931242946:True:=trivial
theorem PySem.W.Fast.tw5748036827618380536:True:=trivial
theorem PySem.W.Fast.tw16857053400357061987:True:=trivial
theorem PySem.W.Fast.tw13072680840000891488:True:=trivial
theorem PySem.W.Fast.tw14099962338992463155:True:=trivial
theorem PySem.W.Fast.tw12674798959246150604:True:=trivial
theorem PySem.W.Fast.tw4078716257381259917:True:=trivial
theorem PySem.W.Fast.tw5764718158101575952:True:=trivial
theorem PySem.W.Fast.tw10396518646312447565:True:=trivial
theorem PySem.W.Fast.tw15480053531557449224:True:=trivial
theorem PySem.W.Fast.tw10987834311153254326:True:=trivial
theorem PySem.W.Fast.tw9357515573843776925:True:=trivial
theorem PySem.W.Fast.tw17785822671031938044:True:=trivial
theorem PySem.W.Fast.tw6573636640964961240:True:=trivial
theorem PySem.W.Fast.tw2341259836790708640:True:=trivial
theorem PySem.W.Fast.tw1804665824946573888:True:=trivial
theorem PySem.W.Fast.tw61706681386946857:True:=trivial
theorem PySem.W.Fast.tw7728419610218128709:True:=trivial
theorem PySem.W.Fast.tw599230817256928178:True:=trivial
theorem PySem.W.Fast.tw5533172220405215481:True:=trivial
theorem PySem.W.Fast.tw18406910217466921661:True:=trivial
theorem PySem.W.Fast.tw5468596839375308349:True:=trivial
theorem PySem.W.Fast.tw4550405084734919687:True:=trivial
theorem PySem.W.Fast.tw9178708016898446290:True:=trivial
theorem PySem.W.Fast.tw12032046851748728056:True:=trivial
open PySem PySem.W PyProof.Rows
set_option maxRecDepth 100000 in
set_option maxHeartbeats 0 in
theorem PySem.Challenge.cw_ledpast_k04_what_is_a_plan_holds : PySem.Challenge.rw_ledpast_k04_what_is_a_plan.Holds := by
 w_on; o_law; k_head; (case hw => w_witness2)
 k_fill
 refine My.walk (l := PySem.Challenge.rw_ledpast_k04_what_is_a_plan) rfl rfl (fun w h Y => PySem.W.kIn_of Y) ?F
 case F =>
  intro w mg fa h KX G hmg
  refine' My.all_mk KX G hmg ?z_len ?z_min ?z_range ?z_isinstance ?z_bool ?z_int ?z_str ?z_tuple ?z_all ?z_zip ?z_list ?g_LONGEST_NAME ?g_MOST_PIECES ?g_MOST_DEEDS ?gE ?lE ?qE0 ?qE1 ?qE2 ?qE3 ?yE ?gD ?lD ?qD0 ?qD1 ?qD2 ?qD3 ?qD4 ?yD (L2.def_mk ?a0 ?l0 ?c0 ?k0) (L2.def_mk ?a1 ?l1 ?c1 ?k1) (L2.def_mk ?a2 ?l2 ?c2 ?k2) (L2.def_mk ?a3 ?l3 ?c3 ?k3) (L2.def_mk ?a4 ?l4 ?c4 ?k4) (L2.def_mk ?a5 ?l5 ?c5 ?k5) (L2.def_mk ?a6 ?l6 ?c6 ?k6) (L2.def_mk ?a7 ?l7 ?c7 ?k7) (L2.def_mk ?a8 ?l8 ?c8 ?k8) (L2.def_mk ?a9 ?l9 ?c9 ?k9) (L2.def_mk ?a10 ?l10 ?c10 ?k10) (L2.def_mk ?a11 ?l11 ?c11 ?k11) (L2.def_mk ?a12 ?l12 ?c12 ?k12) (L2.def_mk ?a13 ?l13 ?c13 ?k13) (L2.def_mk ?a14 ?l14 ?c14 ?k14) (L2.def_mk ?a15 ?l15 ?c15 ?k15) (L2.def_mk ?a16 ?l16 ?c16 ?k16) (L2.def_mk ?a17 ?l17 ?c17 ?k17) (L2.def_mk ?a18 ?l18 ?c18 ?k18) (L2.def_mk ?a19 ?l19 ?c19 ?k19) (L2.def_mk ?a20 ?l20 ?c20 ?k20) (L2.def_mk ?a21 ?l21 ?c21 ?k21) (L2.def_mk ?a22 ?l22 ?c22 ?k22) (L2.def_mk ?a23 ?l23 ?c23 ?k23) (L2.def_mk ?a24 ?l24 ?c24 ?k24)
  case g_LONGEST_NAME | g_MOST_PIECES | g_MOST_DEEDS | gE | lE | qE0 | qE1 | qE2 | qE3 | gD | lD | qD0 | qD1 | qD2 | qD3 | qD4 | a0 | l0 | c0 | k0 | a1 | l1 | c1 | k1 | a2 | l2 | c2 | k2 | a3 | l3 | c3 | k3 | a4 | l4 | c4 | k4 | a5 | l5 | c5 | k5 | a6 | l6 | c6 | k6 | a7 | l7 | c7 | k7 | a8 | l8 | c8 | k8 | a9 | l9 | c9 | k9 | a10 | l10 | c10 | k10 | a11 | l11 | c11 | k11 | a12 | l12 | c12 | k12 | a13 | l13 | c13 | k13 | a14 | l14 | c14 | k14 | a15 | l15 | c15 | k15 | a16 | l16 | c16 | k16 | a17 | l17 | c17 | k17 | a18 | l18 | c18 | k18 | a19 | l19 | c19 | k19 | a20 | l20 | c20 | k20 | a21 | l21 | c21 | k21 | a22 | l22 | c22 | k22 | a23 | l23 | c23 | k23 | a24 | l24 | c24 | k24 | z_len | z_min | z_range | z_isinstance | z_bool | z_int | z_str | z_tuple | z_all | z_zip | z_list => k_is
  case yE | yD => kernel_rfl
