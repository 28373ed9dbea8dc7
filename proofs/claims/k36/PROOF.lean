import PyProof.Rows.All
import Wide.All
import OpenK.AllK
import Wide.FinOn
import Lean
import PyProof.EqAt
import PyProof.EqKinds
import PyProof.TupleCall
import PyProof.NeData
import PyProof.DictCompW
import PyProof.EnumMake
import PyProof.Draws
import PySem.Challenge.RW_ledpast_k36_spare_deeds_by_hand
set_option maxHeartbeats 8000000
set_option Elab.async false
set_option linter.all false
set_option maxRecDepth 100000
namespace L2
open PySem PySem.Spec PyProof.Rows
abbrev Key:=Sum Int Str
def fV:Key->Value->Bool
 | .inl k,v=>Value.isInt k v
 | .inr x,v=>Value.isStrOf x v
def wX (w:World):Key->Int
 | .inl k=>hashInt k
 | .inr x=>hashStr w x
theorem bN:∀ {k:Key} {v:Value},fV k v=true->(∃ i t,k=Sum.inl i/\v=Value.int i t)\/(∃ x t,k=Sum.inr x/\v=Value.str x t)
 | .inl i,v,h=>by
  obtain⟨t,e⟩:=Value.isInt_shape (k:=i) (v:=v) h
  exact .inl ⟨i,t,rfl,e⟩
 | .inr x,v,h=>by
  obtain⟨t,e⟩:=Value.isStrOf_shape (x:=x) (v:=v) h
  exact .inr ⟨x,t,rfl,e⟩
theorem pW (i:Int) (t:Tok):fV (.inl i) (.int i t)=true:=by simp [fV,Value.isInt]
theorem pX (x:Str) (t:Tok):fV (.inr x) (.str x t)=true:=by simp [fV,Value.isStrOf]
theorem uF (a b:Int):decide ((Sum.inl a:Key)=Sum.inl b)=(a == b):=by
 by_cases e:a=b
 ·subst e;simp
 ·have h:¬ (Sum.inl a:Key)=Sum.inl b:=fun q=>e (Sum.inl.inj q)
  rw [decide_eq_false h]
  exact (beq_eq_false_iff_ne.mpr e).symm
theorem uG (a b:Str):decide ((Sum.inr a:Key)=Sum.inr b)=decide (a=b):=by
 by_cases e:a=b
 ·subst e;simp
 ·have h:¬ (Sum.inr a:Key)=Sum.inr b:=fun q=>e (Sum.inr.inj q)
  rw [decide_eq_false h,decide_eq_false e]
theorem uH (a:Int) (b:Str):decide ((Sum.inl a:Key)=Sum.inr b)=false:=decide_eq_false (fun q=>nomatch q)
theorem uI (a:Str) (b:Int):decide ((Sum.inr a:Key)=Sum.inl b)=false:=decide_eq_false (fun q=>nomatch q)
def ax (prog:Program) (w:World):PySem.KeyKind prog w Key where
 is:=fV
 hash:=wX w
 inj:=fun v a b ha hb=>by
  rcases bN ha with ⟨i,t,rfl,rfl⟩ | ⟨x,t,rfl,rfl⟩
  ·rcases bN hb with ⟨j,u,rfl,e⟩ | ⟨y,u,rfl,e⟩
   ·injection e with e1 _;rw [e1]
   ·exact nomatch e
  ·rcases bN hb with ⟨j,u,rfl,e⟩ | ⟨y,u,rfl,e⟩
   ·exact nomatch e
   ·injection e with e1 _;rw [e1]
 byValue:=fun k v h=>by
  rcases bN h with ⟨i,t,rfl,rfl⟩ | ⟨x,t,rfl,rfl⟩ <;> rfl
 pyHash:=fun hv h=>by
  rcases bN hv with ⟨i,t,rfl,rfl⟩ | ⟨x,t,rfl,rfl⟩
  ·exact wpAny_pyHash_int h
  ·exact wpAny_pyHash_str h
 eqBool:=fun hu hv h=>by
  rcases bN hu with ⟨i,t,rfl,rfl⟩ | ⟨x,t,rfl,rfl⟩
  ·rcases bN hv with ⟨j,u,rfl,rfl⟩ | ⟨y,u,rfl,rfl⟩
   ·rw [uF] at h;exact wpAny_eqBool_int h
   ·rw [uH] at h;exact SeqAt.EqAt.int_str i t y u _ _ _ _ h
  ·rcases bN hv with ⟨j,u,rfl,rfl⟩ | ⟨y,u,rfl,rfl⟩
   ·rw [uI] at h;exact SeqAt.EqAt.str_int x t j u _ _ _ _ h
   ·rw [uG] at h;exact wpAny_eqBool_str h
 «strs»:=fun k x t v h=>by
  rcases bN h with ⟨i,u,rfl,e⟩ | ⟨y,u,rfl,e⟩
  ·exact nomatch e
  ·injection e with e1 _
   subst e1
   cases v <;> rfl
theorem jC (prog:Program) (w:World) (i:Int) (t:Tok):(ax prog w).is (.inl i) (.int i t)=true:=pW i t
theorem jD (prog:Program) (w:World) (x:Str) (t:Tok):(ax prog w).is (.inr x) (.str x t)=true:=pX x t
inductive V where
 | ba | bl (b:Bool) | int (i:Int) | str (x:Str) | gQ (b:Array UInt8) | sQ (b:UInt64) | ref (a:Addr) | ty (n:String)
 deriving DecidableEq
def RelV:V->Value->Prop
 | .ba,u=>u=Value.none
 | .bl b,u=>u=Value.bool b
 | .int i,u=>∃ t,u=Value.int i t
 | .str x,u=>∃ t,u=Value.str x t
 | .gQ b,u=>∃ t,u=Value.bytes b t
 | .sQ b,u=>∃ t,u=Value.float b t
 | .ref a,u=>u=Value.ref a
 | .ty n,u=>u=Value.type n
abbrev Vals:List V->List Value->Prop:=Paired RelV
theorem Vals.length {xs:List V} {us:List Value} (r:Vals xs us):xs.length=us.length:=Paired.length r
theorem Vals.get:∀ {xs:List V} {us:List Value} {i:Nat} {x:V},Vals xs us->xs[i]? = some x->∃ u,us[i]? = some u/\RelV x u
 | _,_,_,_,.nil,e=>by simp at e
 | _,_,0,_,.cons r _,e=>by simp at e;subst e;exact⟨_,rfl,r⟩
 | _,_,i+1,x,.cons _ t,e=>by
  obtain⟨u,h1,h2⟩:=Vals.get (i:=i) (x:=x) t (by simpa using e)
  exact⟨u,by simpa using h1,h2⟩
theorem Vals.set {x:V} {u:Value} (r:RelV x u):∀ {xs:List V} {us:List Value} (i:Nat),Vals xs us->Vals (xs.set i x) (us.set i u)
 | _,_,_,.nil=>.nil
 | _,_,0,.cons _ t=>.cons r t
 | _,_,i+1,.cons q t=>.cons q (Vals.set r i t)
theorem Vals.append:∀ {xs ys:List V} {us ws:List Value},Vals xs us->Vals ys ws->Vals (xs++ys) (us++ws)
 | _,_,_,_,.nil,s=>s
 | _,_,_,_,.cons r t,s=>.cons r (Vals.append t s)
theorem Vals.take:∀ {xs:List V} {us:List Value} (n:Nat),Vals xs us->Vals (xs.take n) (us.take n)
 | _,_,0,_=>.nil
 | _,_,_+1,.nil=>.nil
 | _,_,n+1,.cons r t=>.cons r (Vals.take n t)
theorem Vals.drop:∀ {xs:List V} {us:List Value} (n:Nat),Vals xs us->Vals (xs.drop n) (us.drop n)
 | _,_,0,r=>r
 | _,_,_+1,.nil=>.nil
 | _,_,n+1,.cons _ t=>Vals.drop n t
def iT:Option V->Option Value->Prop
 | some v,some u=>RelV v u
 | none,none=>True
 | _,_=>False
def KV {κ : Type}:List (κ × V)->List (κ × Value)->Prop:=Paired fun (p:κ × V) (q:κ × Value)=>p.1=q.1/\RelV p.2 q.2
def kV:Key->V
 | .inl i=>.int i
 | .inr x=>.str x
inductive HO where
 | lst (xs:List V)
 | tup (xs:List V)
 | dK (kvs:List (Key × V)) | dT (kvs:List (List Key × V))
 | set (S:Int->Bool) (n:Nat)
 | ins (C dx:Addr) (fs:List (Str × V))
 | own (x:Addr)
 | xd (fs:List (Str × V))
 | met (f x:Addr)
 | uJ (lo hi:Int)
 | dC (o:Obj) (u:HO)
 | iU (ps:Array Value)
 | ext (φ : Heap->Prop)
abbrev Hp:=Addr->Option HO
def upd (H:Hp) (a:Addr) (o:HO):Hp:=fun b=>if b=a then some o else H b
theorem aa {H:Hp} {a:Addr} {o:HO}:upd H a o a=some o:=by unfold upd;rw [if_pos rfl]
theorem ae {H:Hp} {a b:Addr} {o:HO} (h:b ≠ a):upd H a o b=H b:=by unfold upd;rw [if_neg h]
theorem bS {H:Hp} {a b:Addr} {o u:HO} (h:H a=some o) (h':H b=some u) (d:o ≠ u):a ≠ b:=by
 intro e;subst e;rw [h] at h';exact d (Option.some.inj h')
theorem aK {H:Hp} {a b:Addr} {o:HO} (h:H a=some o) (h':H b=none):a ≠ b:=by
 intro e;subst e;rw [h] at h';cases h'
section
variable (P:Program) (w:World)
def bA (H:Hp) (h:Heap) (a:Addr):HO->Prop
 | .lst xs=>xs.length<=sizeLine/\∃ (its:List Value) (n:Nat),Vals xs its/\h.get? a=some { cls:=.type "list",data:=.seq its.toArray n }
 | .tup xs=>xs.length<=sizeLine/\∃ its:List Value,Vals xs its/\∃ o,h.get? a=some o/\o.cls=.type "tuple" /\ ∃ n,o.data=.seq its.toArray n/\o.dict=none
 | .dK kvs=>kvs.length<=sizeLine/\(a == sysModules)=false/\∃ vs,KV kvs vs/\h.DictOf (ax P w) a vs
 | .dT kvs=>kvs.length<=sizeLine/\(a == sysModules)=false/\∃ xs:List (List Key × Addr × Value),
   Paired (fun (p:List Key × V) (q:List Key × Addr × Value)=>p.1=q.1/\H q.2.1=some (.tup (p.1.map kV))/\RelV p.2 q.2.2) kvs xs /\
   ∃ o es ep,h.get? a=some o/\o.ExactDict/\o.data=.dict es ep/\es.toList=xs.map (entryOfKey (tupleKind (ax P w)))/\(xs.map (·.1)).Nodup
 | .set S n=>h.SetOf (intKind P w) a S n
 | .ins C dx fs=>H dx=some (.own a)/\fs.length<=1000/\dx ≠ a/\h.get? a=some (PySem.W.instObj C dx) /\
   ∃ mA,h.Ns1 dx mA/\(∀ f,iT (fs.lookup f) (mA f))/\PySem.Within mA (fs.map (·.1))
 | .own _=>∃ o,h.get? a=some o
 | .xd fs=>∃ mA,h.Ns1 a mA/\∀ f,iT (fs.lookup f) (mA f)
 | .uJ lo hi=>∃ t u v,h.get? a=some { cls:=.type "range",data:=.fields #[.int lo t,.int hi u,.int 1 v] }
 | .dC o u=>h.get? a=some o/\bA H h a u
 | .iU ps=>h.get? a=some { cls:=.none,data:=.fields ps }
 | .met f x=>h.get? a=some (PySem.W.methodObj (.ref f) (.ref x))
 | .ext φ=>φ h/\(∃ o,h.get? a=some o)/\∀ h1 h2:Heap,φ h1->(∀ o,h1.get? a=some o->h2.get? a=some o)->φ h2
def cH (H:Hp) (h:Heap):Prop:=∀ a o,H a=some o->bA P w H h a o
end
section
variable {P:Program} {w:World} {H H':Hp} {h h':Heap} {a:Addr} {o:HO}
theorem bA.lt (x:bA P w H h a o):a < h.objs.size:=by
 cases o with
 | lst xs=>obtain⟨_,_,_,_,e⟩:=x;exact Heap.lt_size e
 | tup xs=>obtain⟨_,_,_,p⟩:=x;exact (let ⟨o,e,_⟩:=p;Heap.lt_size e)
 | dK kvs=>obtain⟨_,_,_,_,o,_,_,e,_⟩:=x;exact Heap.lt_size e
 | dT kvs=>obtain⟨_,_,_,_,o,_,_,e,_⟩:=x;exact Heap.lt_size e
 | set S n=>obtain⟨o,_,_,_,e,_⟩:=x;exact Heap.lt_size e
 | ins C dx fs=>obtain⟨_,_,_,e,_⟩:=x;exact Heap.lt_size e
 | own y=>obtain⟨_,e⟩:=x;exact Heap.lt_size e
 | xd fs=>obtain⟨_,⟨_,_,_,e,_⟩,_⟩:=x;exact Heap.lt_size e
 | uJ lo hi=>obtain⟨_,_,_,e⟩:=x;exact Heap.lt_size e
 | dC ob u=>obtain⟨e,_⟩:=x;exact Heap.lt_size e
 | iU ps=>exact Heap.lt_size (show h.get? a=some _ from x)
 | met f y=>exact Heap.lt_size (show h.get? a=some _ from x)
 | ext φ=>obtain⟨_,⟨_,e⟩,_⟩:=x;exact Heap.lt_size e
theorem Paired.q9 {α β : Type} {F G:α->β->Prop}:∀ {l₁ : List α} {l₂ : List β},Paired F l₁ l₂->(∀ a b,F a b->G a b)->Paired G l₁ l₂
 | _,_,.nil,_=>.nil
 | _,_,.cons r t,f=>.cons (f _ _ r) (Paired.q9 t f)
theorem bA.jO (x:bA P w H h a o) (k:∀ b u,(b=a\/H b=some (.own a))->h.get? b=some u->h'.get? b=some u)
  (ho:∀ b,H b=some (.own a)->H' b=some (.own a)) (ht:∀ b xs,H b=some (.tup xs)->H' b=some (.tup xs)):bA P w H' h' a o:=by
 induction o with
 | lst xs=>obtain⟨z,its,n,r,e⟩:=x;exact⟨z,its,n,r,k _ _ (.inl rfl) e⟩
 | tup xs=>obtain⟨z,its,r,ob,e,c⟩:=x;exact⟨z,its,r,ob,k _ _ (.inl rfl) e,c⟩
 | dK kvs=>obtain⟨z,y,vs,r,ob,es,ep,e,c⟩:=x;exact⟨z,y,vs,r,ob,es,ep,k _ _ (.inl rfl) e,c⟩
 | dT kvs =>
  obtain⟨z,y,xs,r,ob,es,ep,e,c⟩:=x
  exact⟨z,y,xs,Paired.q9 r fun p q z=>⟨z.1,ht _ _ z.2.1,z.2.2⟩,ob,es,ep,k _ _ (.inl rfl) e,c⟩
 | set S n=>obtain⟨ob,es,ep,t,e,c⟩:=x;exact⟨ob,es,ep,t,k _ _ (.inl rfl) e,c⟩
 | ins C dx fs =>
  obtain⟨d,z,ne,e,mA,⟨od,es,ep,e2,c⟩,r⟩:=x
  exact⟨ho _ d,z,ne,k _ _ (.inl rfl) e,mA,⟨od,es,ep,k _ _ (.inr d) e2,c⟩,r⟩
 | own y=>obtain⟨ob,e⟩:=x;exact⟨ob,k _ _ (.inl rfl) e⟩
 | xd fs=>obtain⟨mA,⟨od,es,ep,e,c⟩,r⟩:=x;exact⟨mA,⟨od,es,ep,k _ _ (.inl rfl) e,c⟩,r⟩
 | uJ lo hi=>obtain⟨t,u,v,e⟩:=x;exact⟨t,u,v,k _ _ (.inl rfl) e⟩
 | dC ob u ih=>obtain⟨e,q⟩:=x;exact⟨k _ _ (.inl rfl) e,ih q⟩
 | iU ps =>
  have e:h.get? a=some { cls:=.none,data:=.fields ps }:=x
  show h'.get? a=some { cls:=.none,data:=.fields ps }
  exact k a _ (.inl rfl) e
 | met f y =>
  have e:h.get? a=some (PySem.W.methodObj (.ref f) (.ref y)):=x
  show h'.get? a=some (PySem.W.methodObj (.ref f) (.ref y))
  exact k a _ (.inl rfl) e
 | ext φ=>obtain⟨p,⟨o,e⟩,st⟩:=x;exact⟨st _ _ p fun o q=>k _ _ (.inl rfl) q,⟨o,k _ _ (.inl rfl) e⟩,st⟩
theorem cH.lt (x:cH P w H h) (e:H a=some o):a < h.objs.size:=(x a o e).lt
theorem cH.fresh (x:cH P w H h) (e:h.objs.size<=a):H a=none:=by
 cases q:H a with
 | none=>rfl
 | some u=>exact absurd (Nat.lt_of_lt_of_le (x.lt q) e) (Nat.lt_irrefl _)
theorem cH.kept (x:cH P w H h) (k:∀ b u,h.get? b=some u->h'.get? b=some u):cH P w H h':=fun a o e =>
 (x a o e).jO (fun b u _ q=>k b u q) (fun _ q=>q) fun _ _ q=>q
theorem cH.laid (x:cH P w H h) (k:∀ b u,h.get? b=some u->h'.get? b=some u) (hp:h.objs.size<=a) (new:bA P w (upd H a o) h' a o):cH P w (upd H a o) h':=fun b u e=>by
 have hn:=x.fresh hp
 by_cases hb:b=a
 ·subst hb;rw [aa] at e;cases e;exact new
 ·rw [ae hb] at e
  exact (x b u e).jO (fun c v _ q=>k c v q) (fun c q=>by rw [ae (aK q hn)];exact q) fun c xs q=>by rw [ae (aK q hn)];exact q
end
def Rd (H:Hp) (a:Addr) (u:HO):Prop:=H a=some u\/∃ o,H a=some (.dC o u)
theorem Rd.ok {P:Program} {w:World} {H:Hp} {h:Heap} {a:Addr} {u:HO} (r:Rd H a u) (x:cH P w H h):bA P w H h a u:=by
 rcases r with r | ⟨o,r⟩
 ·exact x a u r
 ·obtain⟨_,q⟩:=x a _ r
  exact q
def pY:Option HO->Prop
 | some (.lst _)=>True
 | some (.dK _)=>True
 | some (.dT _)=>True
 | some (.set _ _)=>True
 | some (.ins _ _ _)=>True
 | some (.ext _)=>True
 | _=>False
section
variable {P:Program} {w:World} {H:Hp} {h h':Heap} {x e:Addr} {o':HO}
theorem cH.write (ok:cH P w H h) (mu:pY (H x)) (he:e=x\/H e=some (.own x)) (k:∀ b u,b ≠ e->h.get? b=some u->h'.get? b=some u) (heo:∃ u,h'.get? e=some u)
  (new:bA P w (upd H x o') h' x o'):cH P w (upd H x o') h':=fun b u q=>by
 have nown:∀ c y,H c=some (.own y)->c ≠ x:=fun c y r z=>by subst z;rw [r] at mu;exact mu
 have ntup:∀ c xs,H c=some (.tup xs)->c ≠ x:=fun c xs r z=>by subst z;rw [r] at mu;exact mu
 by_cases hb:b=x
 ·subst hb;rw [aa] at q;cases q;exact new
 ·rw [ae hb] at q
  by_cases hbe:b=e
  ·have q':H b=some (.own x):=by
    rcases he with z | z
    ·exact absurd (hbe.trans z) hb
    ·rw [hbe];exact z
   rw [q] at q';cases q'
   obtain⟨v,hv⟩:=heo
   exact⟨v,by rw [hbe];exact hv⟩
  ·refine (ok b u q).jO (fun c v hc r=>k c v ?_ r) (fun c r=>by rw [ae (nown c b r)];exact r) fun c xs r=>by rw [ae (ntup c xs r)];exact r
   rcases hc with rfl | hc
   ·exact hbe
   ·rintro rfl
    rcases he with z | z
    ·exact nown c b hc z
    ·rw [hc] at z;cases z;exact hb rfl
end
structure Un (fs ex:List Addr) (H H':Hp) (h h':Heap):Prop where
 keep:∀ b o,h.get? b=some o->H b=none->b ∉ fs->b ∉ ex->h'.get? b=some o
 slot:∀ b o,h.get? b=some o->H b=none->b ∈ fs->b ∉ ex->∃ sl,h'.get? b=some { o with slots:=sl }
 free:∀ b o,h.get? b=some o->H b=none->b ∉ ex->H' b=none
 there:∀ b o,h.get? b=some o->b ∉ ex->∃ o',h'.get? b=some o'
 cv:∀ b xs,H b=some (.tup xs)->H' b=some (.tup xs)
 fS:∀ b o u,H b=some (.dC o u)->H' b=some (.dC o u)
 gn:∀ b ps,H b=some (.iU ps)->∃ more,H' b=some (.iU (ps++more))
section
variable {fs fs' ex ex':List Addr} {H H1 H2:Hp} {h h1 h2 h':Heap} {a x e:Addr} {o:HO}
theorem Un.any (u:Un fs ex H H1 h h1) {b:Addr} {ob:Obj} (q:h.get? b=some ob) (n:H b=none) (hx:b ∉ ex):∃ sl,h1.get? b=some { ob with slots:=sl }:=by
 by_cases hb:b ∈ fs
 ·exact u.slot b ob q n hb hx
 ·exact⟨ob.slots,u.keep b ob q n hb hx⟩
theorem Un.kept (k:∀ b u,h.get? b=some u->h'.get? b=some u):Un fs ex H H h h' :=
 ⟨fun b ob q _ _ _=>k b ob q,fun b ob q _ _ _=>⟨ob.slots,k b ob q⟩,fun _ _ _ n _=>n,fun b ob q _=>⟨ob,k b ob q⟩,fun _ _ q=>q,fun _ _ _ q=>q,fun _ ps q=>⟨#[],by rw [q];simp⟩⟩
theorem Un.refl:Un fs ex H H h h:=Un.kept fun _ _ q=>q
theorem Un.laid (k:∀ b u,h.get? b=some u->h'.get? b=some u) (hp:h.objs.size<=a) (hn:H a=none):Un fs ex H (upd H a o) h h' where
 keep:=fun b u q _ _ _=>k b u q
 slot:=fun b u q _ _ _=>⟨u.slots,k b u q⟩
 free:=fun b u q n _=>by rw [ae (Nat.ne_of_lt (Nat.lt_of_lt_of_le (Heap.lt_size q) hp))];exact n
 there:=fun b u q _=>⟨u,k b u q⟩
 cv:=fun b xs q=>by rw [ae (aK q hn)];exact q
 fS:=fun b u xs q=>by rw [ae (aK q hn)];exact q
 gn:=fun b ps q=>⟨#[],by rw [ae (aK q hn),q];simp⟩
theorem Un.write (mu:pY (H x)) (he:e=x\/H e=some (.own x)) (k:∀ b u,b ≠ e->h.get? b=some u->h'.get? b=some u) (heo:∃ u,h'.get? e=some u):Un fs ex H (upd H x o) h h':=by
  have hx:∀ b,H b=none->b ≠ x:=fun b n z=>by subst z;rw [n] at mu;exact mu
  have hb:∀ b,H b=none->b ≠ e:=fun b n z=>by
    subst z
    rcases he with r | r
    · exact hx b n r
    · rw [n] at r;cases r
  have hm:∀ b u,H b=some u->¬ pY (some u)->b ≠ x:=fun b u q nm z=>by subst z;rw [q] at mu;exact nm mu
  refine⟨fun b u q n _ _=>k b u (hb b n) q,fun b u q n _ _=>⟨u.slots,k b u (hb b n) q⟩,fun b u q n _=>by rw [ae (hx b n)];exact n,fun b u q _=>?_,
    fun b xs q=>by rw [ae (hm b _ q fun z=>z)];exact q,fun b u xs q=>by rw [ae (hm b _ q fun z=>z)];exact q,fun b ps q=>⟨#[],by rw [ae (hm b _ q fun z=>z),q];simp⟩⟩
  by_cases hbe:b=e
  · subst hbe;exact heo
  · exact⟨u,k b u hbe q⟩
end
def sR (h:Heap) (H:Hp):List Addr:=(List.range h.objs.size).filter fun a=>(H a).isSome
def ik (h:Heap) (H:Hp):Heap:=PySem.W.hideAll h (sR h H)
theorem pZ (h:Heap) (H:Hp):(ik h H).objs.size=h.objs.size:=PySem.W.hideAll_size _ _
theorem rf {h:Heap} {H:Hp} {b:Addr} {o:Obj} (e:h.get? b=some o) (n:H b=none):(ik h H).get? b=some o :=
 PySem.W.hideAll_get _ e fun hm=>by
  have q:(H b).isSome=true:=(List.mem_filter.mp hm).2
  rw [n] at q;simp at q
theorem tG {h:Heap} {H:Hp} {b:Addr} {o:Obj} (e:(ik h H).get? b=some o):h.get? b=some o/\H b=none:=by
 have e':h.get? b=some o:=PySem.W.of_hideAll (sR h H) e
 refine⟨e',?_⟩
 cases q:H b with
 | none=>rfl
 | some x =>
  have hm:b ∈ sR h H:=List.mem_filter.mpr ⟨List.mem_range.mpr (Heap.lt_size e'),by simp [q]⟩
  have z:(ik h H).get? b=none:=PySem.W.hideAll_none (sR h H) hm
  rw [z] at e;cases e
def tH (g h:Heap) (L:Addr):List (Addr × Obj):=(List.range h.objs.size).filterMap fun a=>if a=L\/(g.get? a).isSome=true then none else (h.get? a).map fun o=>(a,o)
def rest (g h:Heap) (L d:Addr):List (Addr × Obj):=(tH g h L).filter fun p=>decide (p.1 ≠ d)
structure Mod (K:PySem.W.Frag) (mg:Str->Option Value) (base:Heap):Prop where
 uK:K.In base
 glob:base.Ns mainGlobals mg
 blt:∃ mb,base.Ns builtinsNs mb/\∀ x:Str,x ≠ "__name__" -> mb x=bootBuiltins x
 nolimit:base.NoLimit
structure Cx where
 prog:Program
 w:World
 K:PySem.W.Frag
 mg:Str->Option Value
 base:Heap
 A:Around
 N:List Str
 cB:Shared
 il:Hp
 env:Env
 outer:List Env
 stack:List Env
 ex:List Addr
 fn:Str->Bool
 calm:Bool
 pn:List (Addr × Obj)
 xe:Value->Shared->Prop
def iV (l:List Env):List Addr:=l.filterMap (·.frame)
abbrev Cx.fs (X:Cx):List Addr:=iV X.outer
def uL (sc:Scope) (x:Str):Prop:=sc.names.lookup x=some .local\/sc.names.lookup x=some .cell\/sc.names.lookup x=some .free
def Loc (sc:Scope) (x:Str):Prop:=sc.names.lookup x=some .local\/sc.names.lookup x=some .cell
def Look (env:Env) (h:Heap) (m:Str->Option Value) (x:Str) (u:Value):Prop :=
 (env.kindOf x=some .local/\m x=some u)\/((env.kindOf x=some .cell\/env.kindOf x=some .free)/\∃ c,env.cells.lookup x=some c/\h.IsCell c (some u))
structure Cx.Ok (X:Cx):Prop where
 mod:Mod X.K X.mg X.base
 kind:X.env.scope.kind=.function
 glob:X.env.globals=mainGlobals
 blt:X.env.builtins=builtinsNs
 above:X.cB.heap.objs.size<=X.env.locals
 inj:∀ x y c,X.env.cells.lookup x=some c->X.env.cells.lookup y=some c->x=y
 has:∀ x,(X.env.kindOf x=some .cell\/X.env.kindOf x=some .free)->∃ c,X.env.cells.lookup x=some c
 p5:∀ x c,X.fn x=true->X.env.cells.lookup x=some c->X.cB.heap.objs.size<=c
 hd:X.calm=true->X.A.handled=none
 frames:X.A.frames=some X.stack
 sS:X.stack=X.outer\/(X.stack=X.env :: X.outer/\X.env.frame=some X.env.locals)
 wL:∀ b ∈ X.ex,b ≠ X.env.locals/\∀ x c,X.env.cells.lookup x=some c->c ≠ b
 bs:∀ b o,X.base.get? b=some o->X.cB.heap.get? b=some o/\X.il b=none
 lu:X.base.objs.size<=X.cB.heap.objs.size
 ma:∀ b o,X.base.get? b=some o->b ∉ X.ex
 oV:∀ b ∈ X.ex,b ∉ X.fs
 gr:X.cB.heap.FunFrames X.base X.outer
 nY:∀ b ∈ X.fs,X.il b=none
structure Inv (X:Cx) (pins:List (Addr × Obj)) (σ : List (Option V)) (H:Hp) (s:Shared):Prop where
 ok:X.Ok
 os:s.os=X.cB.os
 bare:AllBare s.gens
 base:Un X.fs X.ex X.il H X.cB.heap s.heap
 loc:∃ m,s.heap.Ns X.env.locals m/\∀ (i:Nat) (x:Str) (v:V),X.N[i]? = some x->σ[i]? = some (some v)->uL X.env.scope x->∃ u,RelV v u/\Look X.env s.heap m x u
 cell:∀ x c,X.env.cells.lookup x=some c->∃ v,s.heap.IsCell c v
 free:H X.env.locals=none
 cV:∀ x c,X.env.cells.lookup x=some c->H c=none
 pin:∀ p ∈ X.pn++pins,s.heap.get? p.1=some p.2/\H p.1=none/\p.1 ≠ X.env.locals/\p.1 ∉ X.fs/\∀ v,p.2.data ≠ .cell v
 aA:cH X.prog X.w H s.heap
 len:σ.length=X.N.length
section
variable {X:Cx} {pins:List (Addr × Obj)} {σ : List (Option V)} {H H':Hp} {s:Shared} {h':Heap}
theorem Cx.Ok.wY (ok:X.Ok) {b:Addr} {o:Obj} (e:X.base.get? b=some o):b ∉ X.fs:=fun hb=>by
 have:=(ok.gr.mem hb).1
 rw [e] at this;cases this
theorem Inv.bs (I:Inv X pins σ H s):∀ b o,X.base.get? b=some o->s.heap.get? b=some o/\H b=none:=fun b o e =>
 ⟨I.base.keep b o (I.ok.bs b o e).1 (I.ok.bs b o e).2 (I.ok.wY e) (I.ok.ma b o e),I.base.free b o (I.ok.bs b o e).1 (I.ok.bs b o e).2 (I.ok.ma b o e)⟩
theorem Inv.bk (I:Inv X pins σ H s):∀ b o,X.base.get? b=some o->s.heap.get? b=some o:=fun b o e=>(I.bs b o e).1
theorem Inv.mod (I:Inv X pins σ H s):Mod X.K X.mg X.base:=I.ok.mod
theorem Inv.md (I:Inv X pins σ H s):X.K.In s.heap:=I.ok.mod.uK.keeps I.bk
theorem Inv.lt (I:Inv X pins σ H s):X.env.locals < s.heap.objs.size:=let ⟨_,hn,_⟩:=I.loc;hn.lt
theorem Inv.sz (I:Inv X pins σ H s):X.cB.heap.objs.size<=s.heap.objs.size:=Nat.le_trans I.ok.above (Nat.le_of_lt I.lt)
theorem Inv.wZ (I:Inv X pins σ H s) {a:Addr} (h:s.heap.objs.size<=a):a ∉ X.fs:=fun hb=>by
 obtain⟨_,o,ho,_⟩:=I.ok.gr.mem hb
 exact absurd (Nat.lt_of_lt_of_le (Heap.lt_size ho) (Nat.le_trans I.sz h)) (Nat.lt_irrefl _)
theorem Inv.me (I:Inv X pins σ H s):∀ x c,X.env.cells.lookup x=some c->c ≠ X.env.locals:=fun x c e z=>by
 obtain⟨v,o,ho,hd⟩:=I.cell x c e
 obtain⟨m,⟨o',es,ep,ho',hd',_⟩,_⟩:=I.loc
 rw [z,ho'] at ho;cases ho;rw [hd'] at hd;cases hd
theorem Inv.gr (I:Inv X pins σ H s):s.heap.FunFrames X.base X.outer:=by
 have all:∀ (l:List Env),(∀ b ∈ iV l,b ∈ X.fs)->X.cB.heap.FunFrames X.base l->s.heap.FunFrames X.base l:=by
  intro l
  induction l with
  | nil=>intro _ _;trivial
  | cons env r ih =>
   intro hs hl
   obtain⟨hk,⟨L,o,hf,hn,ho,hd⟩,hr⟩:=hl
   have hL:L ∈ X.fs:=hs L (by unfold iV;rw [List.filterMap_cons,hf];exact List.mem_cons_self)
   obtain⟨sl,e⟩:=I.base.slot L o ho (I.ok.nY L hL) hL fun z=>I.ok.oV L z hL
   exact⟨hk,⟨L,_,hf,hn,e,hd⟩,ih (fun b hb=>hs b (by unfold iV;rw [List.filterMap_cons,hf];exact List.mem_cons_of_mem _ hb)) hr⟩
 exact all X.outer (fun _ hb=>hb) I.ok.gr
theorem Inv.stack (I:Inv X pins σ H s):s.heap.FunFrames X.base X.stack:=by
 rcases I.ok.sS with e | ⟨e,hf⟩
 ·rw [e];exact I.gr
 ·rw [e]
  obtain⟨m,hn,_⟩:=I.loc
  refine .cons (by rw [I.ok.kind];decide) hf hn ?_ I.gr
  exact Heap.get?_none_of_le (Nat.le_trans I.ok.lu I.ok.above)
theorem Inv.hG (I:Inv X pins σ H s):∀ b ∈ iV X.stack,b ∈ X.env.locals :: X.fs:=fun b hb=>by
 rcases I.ok.sS with e | ⟨e,hf⟩
 ·rw [e] at hb;exact List.mem_cons_of_mem _ hb
 ·rw [e] at hb
  unfold iV at hb
  rw [List.filterMap_cons,hf] at hb
  exact hb
theorem Inv.nZ (I:Inv X pins σ H s):∀ b ∈ iV X.stack,H b=none:=fun b hb=>by
 rcases List.mem_cons.mp (I.hG b hb) with e | hb
 ·rw [e];exact I.free
 ·obtain⟨_,o,ho,_⟩:=I.ok.gr.mem hb
  exact I.base.free b o ho (I.ok.nY b hb) fun z=>I.ok.oV b z hb
theorem Inv.step {g':Array GenState} {t':Nat} {d':Drawn} {ch:List Addr} (I:Inv X pins σ H s)
  (hch:∀ b ∈ ch,(b ∈ X.ex\/X.cB.heap.objs.size<=b)/\b ≠ X.env.locals/\(∀ x c,X.env.cells.lookup x=some c->c ≠ b)/\∀ p ∈ X.pn++pins,p.1 ≠ b)
  (keep:∀ b o,b ≠ X.env.locals->b ∉ X.fs->b ∉ ch->s.heap.get? b=some o->H b=none->h'.get? b=some o)
  (slot:∀ b o,b ≠ X.env.locals->b ∈ X.fs->b ∉ ch->s.heap.get? b=some o->H b=none->∃ sl,h'.get? b=some { o with slots:=sl }) (free:∀ b o,b ∉ ch->s.heap.get? b=some o->H b=none->H' b=none)
  (there:∀ b o,b ∉ ch->s.heap.get? b=some o->∃ o',h'.get? b=some o')
  (cv:∀ b xs,H b=some (.tup xs)->H' b=some (.tup xs)) (fS:∀ b o u,H b=some (.dC o u)->H' b=some (.dC o u)) (gn:∀ b ps,H b=some (.iU ps)->∃ more,H' b=some (.iU (ps++more)))
  (ns:∀ m,s.heap.Ns X.env.locals m->h'.Ns X.env.locals m) (aA:cH X.prog X.w H' h') (hg:AllBare g') :
  Inv X pins σ H' { s with heap:=h',gens:=g',drawn:=d',toks:=t' }:=by
 have neL:∀ b o,X.cB.heap.get? b=some o->b ≠ X.env.locals:=fun b o e=>Nat.ne_of_lt (Nat.lt_of_lt_of_le (Heap.lt_size e) I.ok.above)
 have neC:∀ b o,X.cB.heap.get? b=some o->b ∉ X.ex->b ∉ ch:=fun b o e hx hb=>by
  rcases (hch b hb).1 with z | z
  ·exact hx z
  ·exact absurd (Nat.lt_of_lt_of_le (Heap.lt_size e) z) (Nat.lt_irrefl _)
 have cellK:∀ x c,X.env.cells.lookup x=some c->∀ v,s.heap.IsCell c v->h'.IsCell c v:=fun x c e v ⟨o,ho,hd⟩=>by
  have nch:c ∉ ch:=fun z=>(hch c z).2.2.1 x c e rfl
  by_cases hc:c ∈ X.fs
  ·obtain⟨sl,q⟩:=slot c o (I.me x c e) hc nch ho (I.cV x c e)
   exact⟨_,q,hd⟩
  ·exact⟨o,keep c o (I.me x c e) hc nch ho (I.cV x c e),hd⟩
 refine⟨I.ok,I.os,hg,⟨fun b o e n hb hx=>?_,fun b o e n hb hx=>?_,fun b o e n hx=>?_,fun b o e hx=>?_,fun b xs e=>cv b xs (I.base.cv b xs e),fun b o xs e=>fS b o xs (I.base.fS b o xs e),fun b ps e=>?_⟩,?_,fun x c e=>?_,?_,fun x c e=>?_,fun p hp=>?_,aA,I.len⟩
 ·exact keep b o (neL b o e) hb (neC b o e hx) (I.base.keep b o e n hb hx) (I.base.free b o e n hx)
 ·obtain⟨sl,e1⟩:=I.base.slot b o e n hb hx
  obtain⟨sl',e2⟩:=slot b _ (neL b o e) hb (neC b o e hx) e1 (I.base.free b o e n hx)
  exact⟨sl',e2⟩
 ·obtain⟨o',e1⟩:=I.base.there b o e hx
  exact free b o' (neC b o e hx) e1 (I.base.free b o e n hx)
 ·obtain⟨o',e1⟩:=I.base.there b o e hx
  exact there b o' (neC b o e hx) e1
 ·obtain⟨m1,e1⟩:=I.base.gn b ps e
  obtain⟨m2,e2⟩:=gn b _ e1
  exact⟨m1++m2,by rw [e2,Array.append_assoc]⟩
 ·obtain⟨m,hn,hl⟩:=I.loc
  refine⟨m,ns m hn,fun i x v e1 e2 e3=>?_⟩
  obtain⟨u,r,l⟩:=hl i x v e1 e2 e3
  refine⟨u,r,?_⟩
  rcases l with l | ⟨k,c,e,z⟩
  ·exact .inl l
  ·exact .inr ⟨k,c,e,cellK x c e _ z⟩
 ·obtain⟨v,z⟩:=I.cell x c e
  exact⟨v,cellK x c e v z⟩
 ·obtain⟨m,⟨o,_,_,ho,_⟩,_⟩:=I.loc
  exact free _ o (fun z=>(hch _ z).2.1 rfl) ho I.free
 ·obtain⟨v,o,ho,hd⟩:=I.cell x c e
  exact free c o (fun z=>(hch c z).2.2.1 x c e rfl) ho (I.cV x c e)
 ·obtain⟨e,n,ne,nf,d⟩:=I.pin p hp
  have nch:p.1 ∉ ch:=fun z=>(hch p.1 z).2.2.2 p hp rfl
  exact⟨keep p.1 p.2 ne nf nch e n,free p.1 p.2 nch e n,ne,nf,d⟩
theorem Inv.un {t':Nat} (I:Inv X pins σ H s) (u:Un X.fs [] H H' s.heap h') (aA:cH X.prog X.w H' h'):Inv X pins σ H' { s with heap:=h',toks:=t' }:=by
  obtain⟨m,⟨o,es,ep,ho,r⟩,_⟩:=id I.loc
  obtain⟨sl,hL⟩:=u.any ho I.free (by simp)
  exact I.step (g':=s.gens) (d':=s.drawn) (ch:=[]) (fun _ z=>nomatch z) (fun b o _ hb _ e n=>u.keep b o e n hb (by simp)) (fun b o _ hb _ e n=>u.slot b o e n hb (by simp)) (fun b o _ e n=>u.free b o e n (by simp)) (fun b o _ e=>u.there b o e (by simp)) u.cv u.fS u.gn (fun m' hm=>by
    obtain⟨o',es',ep',ho',r'⟩:=hm
    rw [ho] at ho';cases ho'
    exact⟨_,es',ep',hL,r'⟩) aA I.bare
theorem Inv.call {g':Array GenState} {t':Nat} {d':Drawn} {ch:List Addr} (I:Inv X pins σ H s) (u:Un (iV X.stack) ch H H' s.heap h') (aA:cH X.prog X.w H' h') (hg:AllBare g')
  (hch:∀ b ∈ ch,(b ∈ X.ex\/X.cB.heap.objs.size<=b)/\b ≠ X.env.locals/\(∀ x c,X.env.cells.lookup x=some c->c ≠ b)/\∀ p ∈ X.pn++pins,p.1 ≠ b) :
  Inv X pins σ H' { s with heap:=h',gens:=g',drawn:=d',toks:=t' }:=by
 obtain⟨m,⟨o,es,ep,ho,r⟩,_⟩:=id I.loc
 obtain⟨sl,hL⟩:=u.any ho I.free fun z=>(hch _ z).2.1 rfl
 exact I.step (ch:=ch) hch (fun b o hL hb hc e n=>u.keep b o e n (fun z=>(List.mem_cons.mp (I.hG b z)).elim hL hb) hc) (fun b o _ _ hc e n=>u.any e n hc) (fun b o hc e n=>u.free b o e n hc) (fun b o hc e=>u.there b o e hc) u.cv u.fS u.gn (fun m' hm=>by
  obtain⟨o',es',ep',ho',r'⟩:=hm
  rw [ho] at ho';cases ho'
  exact⟨_,es',ep',hL,r'⟩) aA hg
theorem Inv.turned {t':Nat} {it:Addr} (I:Inv X pins σ H s) (k:∀ b o,b ≠ it->s.heap.get? b=some o->h'.get? b=some o) (hn:H it=none) (hL:it ≠ X.env.locals)
  (h1:it ∈ X.ex\/X.cB.heap.objs.size<=it) (h2:∀ x c,X.env.cells.lookup x=some c->c ≠ it) (h3:∀ p ∈ X.pn++pins,p.1 ≠ it):Inv X pins σ H { s with heap:=h',toks:=t' }:=by
 have nit:∀ b u,H b=some u->b ≠ it:=fun b u e z=>by rw [z,hn] at e;cases e
 refine I.step (g':=s.gens) (d':=s.drawn) (ch:=[it]) (fun b hb=>?_) (fun b o _ _ hc e _=>k b o (fun z=>hc (by simp [z])) e) (fun b o _ _ hc e _=>⟨o.slots,k b o (fun z=>hc (by simp [z])) e⟩) (fun _ _ _ _ n=>n)
  (fun b o hc e=>⟨o,k b o (fun z=>hc (by simp [z])) e⟩) (fun _ _ e=>e) (fun _ _ _ e=>e) (fun b ps e=>⟨#[],by rw [e];simp⟩) (fun m hm=>?_) (fun b u e=>?_) I.bare
 ·have e:b=it:=by simpa using hb
  subst e
  exact⟨h1,hL,h2,h3⟩
 ·obtain⟨o,es,ep,ho,r⟩:=hm
  exact⟨o,es,ep,k _ o (Ne.symm hL) ho,r⟩
 ·refine (I.aA b u e).jO (fun c v hc q=>k c v ?_ q) (fun _ q=>q) fun _ _ q=>q
  rcases hc with z | z
  ·rw [z];exact nit b u e
  ·exact nit c _ z
theorem Inv.tok (I:Inv X pins σ H s) (t:Nat):Inv X pins σ H { s with toks:=t }:=I.un (h':=s.heap) (t':=t) Un.refl I.aA
theorem Inv.kept {t':Nat} (I:Inv X pins σ H s) (k:∀ b u,s.heap.get? b=some u->h'.get? b=some u):Inv X pins σ H { s with heap:=h',toks:=t' }:=I.un (Un.kept k) (I.aA.kept k)
theorem Inv.laid {a:Addr} {o:HO} {t':Nat} (I:Inv X pins σ H s) (k:∀ b u,s.heap.get? b=some u->h'.get? b=some u) (hp:s.heap.objs.size<=a) (new:bA X.prog X.w (upd H a o) h' a o) :
  Inv X pins σ (upd H a o) { s with heap:=h',toks:=t' }:=I.un (Un.laid k hp (I.aA.fresh hp)) (I.aA.laid k hp new)
theorem Inv.write {x e:Addr} {o:HO} {t':Nat} (I:Inv X pins σ H s) (mu:pY (H x)) (he:e=x\/H e=some (.own x)) (k:∀ b u,b ≠ e->s.heap.get? b=some u->h'.get? b=some u) (heo:∃ u,h'.get? e=some u)
  (new:bA X.prog X.w (upd H x o) h' x o):Inv X pins σ (upd H x o) { s with heap:=h',toks:=t' }:=I.un (Un.write mu he k heo) (I.aA.write mu he k heo new)
theorem Inv.n4 {pins':List (Addr × Obj)} (I:Inv X pins σ H s) (h:∀ p ∈ pins',s.heap.get? p.1=some p.2/\H p.1=none/\p.1 ≠ X.env.locals/\p.1 ∉ X.fs/\∀ v,p.2.data ≠ .cell v):Inv X pins' σ H s :=
 ⟨I.ok,I.os,I.bare,I.base,I.loc,I.cell,I.free,I.cV,fun p hp=>(List.mem_append.mp hp).elim (fun z=>I.pin p (List.mem_append_left _ z)) (h p),I.aA,I.len⟩
theorem mf {N:List Str} (hN:N.Nodup) {i j:Nat} {x:Str} (a:N[i]? = some x) (b:N[j]? = some x):i=j:=by
 obtain⟨h1,e1⟩:=List.getElem?_eq_some_iff.mp a
 obtain⟨h2,e2⟩:=List.getElem?_eq_some_iff.mp b
 exact (List.getElem_inj hN).mp (e1.trans e2.symm)
theorem iW {M:Model} {A:Around} {E:Value->Shared->Prop} {i:Nat} {x:Str} {v:V} {u:Value} {Q:Unit->Shared->Prop} (I:Inv X pins σ H s) (hN:X.N.Nodup) (hi:X.N[i]? = some x) (hx:Loc X.env.scope x) (r:RelV v u)
  (h:∀ s',Inv X pins (σ.set i (some v)) H s'->(∃ a,Heap.SameBut a s.heap s'.heap/\(a=X.env.locals\/X.env.cells.lookup x=some a))->Q () s') (hf:X.fn x=true\/X.env.scope.names.lookup x=some .local:=by first | exact .inl rfl | exact .inr rfl | assumption):wpAny M A (storeName X.env x u) Q E s:=by
 obtain⟨m,hn,hl⟩:=id I.loc
 have hcls:(X.env.scope.kind == .class || (X.env.scope.kind == .module && X.env.locals != X.env.globals))=false:=by rw [I.ok.kind];rfl
 have hiσ : i < σ.length:=by rw [I.len];exact (List.getElem?_eq_some_iff.mp hi).1
 have me:=I.me
 have tracked:∀ {a:Addr} {h':Heap},(∃ o,s.heap.get? a=some o/\H a=none)->Heap.SameBut a s.heap h'->cH X.prog X.w H h':=fun {a h'} ha hs b ob e=>by
  obtain⟨_,_,hfree⟩:=ha
  refine (I.aA b ob e).jO (fun c w' hc q=>(hs.2 c ?_).trans q) (fun _ q=>q) fun _ _ q=>q
  rintro rfl
  rcases hc with rfl | hc
  ·rw [hfree] at e;cases e
  ·rw [hfree] at hc;cases hc
 rcases hx with hk | hk
 ·refine wpAny_storeName_local hk hn (fun h' hn' hs=>?_) hcls
  obtain⟨oL,_,_,hoL,_⟩:=id hn
  refine h _ ⟨I.ok,I.os,I.bare,⟨fun b o e n hb hx=>?_,fun b o e n hb hx=>?_,I.base.free,fun b o e hx=>?_,I.base.cv,I.base.fS,I.base.gn⟩,⟨_,hn',fun j y v' e1 e2 e3=>?_⟩,fun y c e=>?_,I.free,I.cV,fun p hp=>?_,tracked ⟨oL,hoL,I.free⟩ hs,by simpa using I.len⟩ ⟨_,hs,.inl rfl⟩
  ·exact (hs.2 b (Nat.ne_of_lt (Nat.lt_of_lt_of_le (Heap.lt_size e) I.ok.above))).trans (I.base.keep b o e n hb hx)
  ·obtain⟨sl,e1⟩:=I.base.slot b o e n hb hx
   exact⟨sl,(hs.2 b (Nat.ne_of_lt (Nat.lt_of_lt_of_le (Heap.lt_size e) I.ok.above))).trans e1⟩
  ·obtain⟨o',e1⟩:=I.base.there b o e hx
   exact⟨o',(hs.2 b (Nat.ne_of_lt (Nat.lt_of_lt_of_le (Heap.lt_size e) I.ok.above))).trans e1⟩
  ·by_cases hj:j=i
   ·subst hj
    rw [hi] at e1;cases e1
    rw [List.getElem?_set_self hiσ] at e2
    cases e2
    exact⟨u,r,.inl ⟨hk,by simp⟩⟩
   ·rw [List.getElem?_set_ne (Ne.symm hj)] at e2
    obtain⟨u',r',q⟩:=hl j y v' e1 e2 e3
    refine⟨u',r',?_⟩
    rcases q with ⟨k,e⟩ | ⟨k,c,e,z⟩
    ·refine .inl ⟨k,?_⟩
     have:y ≠ x:=fun e=>hj (mf hN e1 (e ▸ hi))
     simp [this,e]
    ·exact .inr ⟨k,c,e,z.sameBut hs (me y c e)⟩
  ·obtain⟨w',z⟩:=I.cell y c e
   exact⟨w',z.sameBut hs (me y c e)⟩
  ·obtain⟨e,n,ne,nf,d⟩:=I.pin p hp
   exact⟨(hs.2 p.1 ne).trans e,n,ne,nf,d⟩
 ·have hfn:X.fn x=true:=by
   rcases hf with z | z
   ·exact z
   ·rw [z] at hk;cases hk
  obtain⟨c,hc⟩:=I.ok.has x (.inl hk)
  obtain⟨w',z⟩:=I.cell x c hc
  refine wpAny_storeName_cell I.ok.kind hk hc z (fun h' hc' hs=>?_)
  obtain⟨oc,hoc,hocd⟩:=id z
  refine h { s with heap:=h' } ⟨I.ok,I.os,I.bare,⟨fun b o e n hb hx=>?_,fun b o e n hb hx=>?_,I.base.free,fun b o e hx=>?_,I.base.cv,I.base.fS,I.base.gn⟩,⟨m,hn.sameBut hs (Ne.symm (me x c hc)),fun j y v' e1 e2 e3=>?_⟩,fun y c' e=>?_,I.free,I.cV,fun p hp=>?_,tracked ⟨oc,hoc,I.cV x c hc⟩ hs,by simpa using I.len⟩ ⟨c,hs,.inr hc⟩
  ·exact (hs.2 b (Nat.ne_of_lt (Nat.lt_of_lt_of_le (Heap.lt_size e) (I.ok.p5 x c hfn hc)))).trans (I.base.keep b o e n hb hx)
  ·obtain⟨sl,e1⟩:=I.base.slot b o e n hb hx
   exact⟨sl,(hs.2 b (Nat.ne_of_lt (Nat.lt_of_lt_of_le (Heap.lt_size e) (I.ok.p5 x c hfn hc)))).trans e1⟩
  ·obtain⟨o',e1⟩:=I.base.there b o e hx
   exact⟨o',(hs.2 b (Nat.ne_of_lt (Nat.lt_of_lt_of_le (Heap.lt_size e) (I.ok.p5 x c hfn hc)))).trans e1⟩
  ·by_cases hj:j=i
   ·subst hj
    rw [hi] at e1;cases e1
    rw [List.getElem?_set_self hiσ] at e2
    cases e2
    exact⟨u,r,.inr ⟨.inl hk,c,hc,hc'⟩⟩
   ·rw [List.getElem?_set_ne (Ne.symm hj)] at e2
    obtain⟨u',r',q⟩:=hl j y v' e1 e2 e3
    refine⟨u',r',?_⟩
    rcases q with q | ⟨k,c',e,z'⟩
    ·exact .inl q
    ·refine .inr ⟨k,c',e,z'.sameBut hs ?_⟩
     rintro rfl
     exact hj (mf hN e1 (I.ok.inj _ _ _ e hc ▸ hi))
  ·by_cases hcc:c' = c
   ·subst hcc;exact⟨_,hc'⟩
   ·obtain⟨w2,z2⟩:=I.cell y c' e
    exact⟨w2,z2.sameBut hs hcc⟩
  ·obtain⟨e,n,ne,nf,d⟩:=I.pin p hp
   refine⟨(hs.2 p.1 ?_).trans e,n,ne,nf,d⟩
   intro q
   rw [q,hoc] at e
   have q':oc=p.2:=Option.some.inj e
   exact d w' (by rw [<-q'];exact hocd)
theorem iq {M:Model} {A:Around} {E:Value->Shared->Prop} {i:Nat} {x:Str} {v:V} {u:Value} {Q:Unit->Shared->Prop} (I:Inv X pins σ H s) (hN:X.N.Nodup) (hi:X.N[i]? = some x) (hx:Loc X.env.scope x) (r:RelV v u)
  (h:∀ s',Inv X pins (σ.set i (some v)) H s'->Q () s') (hf:X.fn x=true\/X.env.scope.names.lookup x=some .local:=by first | exact .inl rfl | exact .inr rfl | assumption):wpAny M A (storeName X.env x u) Q E s :=
 iW I hN hi hx r (fun s' I' _=>h s' I') hf
theorem Inv.oW {s':Shared} {ch:List Addr} (I:Inv X pins σ H s) (ho:s'.os=s.os) (u:Un (iV X.stack) ch H H' s.heap s'.heap) (aA:cH X.prog X.w H' s'.heap) (hg:AllBare s'.gens)
  (hch:∀ b ∈ ch,(b ∈ X.ex\/X.cB.heap.objs.size<=b)/\b ≠ X.env.locals/\(∀ x c,X.env.cells.lookup x=some c->c ≠ b)/\∀ p ∈ X.pn++pins,p.1 ≠ b):Inv X pins σ H' s':=by
 obtain⟨h',g',d',t',o'⟩:=s'
 have e:o' = s.os:=ho
 subst e
 exact I.call (g':=g') (t':=t') (d':=d') u aA hg hch
end
abbrev XK:=Value->Option Addr->Hp->Prop
abbrev St:=List (Option V)
abbrev VK:=V->Hp->Prop
abbrev TE:=St->Hp->VK->Prop
abbrev TT:=St->Hp->(Bool->Hp->Prop)->Prop
abbrev TA:=St->Hp->(List V->Hp->Prop)->Prop
structure Ends where
 nx:St->Hp->Prop
 rt:VK
 bk:St->Hp->Prop:=fun _ _=>False
 ct:St->Hp->Prop:=fun _ _=>False
abbrev TS:=Ends->St->Hp->Prop
def EP (X:Cx) (pins:List (Addr × Obj)) (σ : St) (Q:VK) (u:Value) (s':Shared):Prop:=∃ v H',Inv X pins σ H' s'/\RelV v u/\Q v H'
def TP (X:Cx) (pins:List (Addr × Obj)) (σ : St) (Q:Bool->Hp->Prop) (b:Bool) (s':Shared):Prop:=∃ H',Inv X pins σ H' s'/\Q b H'
def AP (X:Cx) (pins:List (Addr × Obj)) (σ : St) (Q:List V->Hp->Prop) (us:List Value) (s':Shared):Prop:=∃ vs H',Inv X pins σ H' s'/\Vals vs us/\Q vs H'
def SP (X:Cx) (pins:List (Addr × Obj)) (D:Ends) (f:Flow) (s':Shared):Prop :=
 match f with
 | .next=>∃ σ' H',Inv X pins σ' H' s'/\D.nx σ' H'
 | .brk=>∃ σ' H',Inv X pins σ' H' s'/\D.bk σ' H'
 | .cont=>∃ σ' H',Inv X pins σ' H' s'/\D.ct σ' H'
 | .ret u=>∃ v σ' H',Inv X pins σ' H' s'/\RelV v u/\D.rt v H'
def PE (X:Cx) (e:Expr) (t:TE):Prop :=
 ∀ (pins:List (Addr × Obj)) (s:Shared) (σ : St) (H:Hp) (Q:VK),Inv X pins σ H s->t σ H Q->wpAny (model X.prog X.w) X.A (eval e X.env) (EP X pins σ Q) X.xe s
def PT (X:Cx) (e:Expr) (t:TT):Prop :=
 ∀ (pins:List (Addr × Obj)) (s:Shared) (σ : St) (H:Hp) (Q:Bool->Hp->Prop),Inv X pins σ H s->t σ H Q->wpAny (model X.prog X.w) X.A (isTrue e X.env (eval e X.env)) (TP X pins σ Q) X.xe s
def PW (X:Cx) (e:Expr) (t:TT):Prop :=
 ∀ (whole:Sem Value) (pins:List (Addr × Obj)) (s:Shared) (σ : St) (H:Hp) (Q:Bool->Hp->Prop),Inv X pins σ H s->t σ H Q->wpAny (model X.prog X.w) X.A (isTrue e X.env whole) (TP X pins σ Q) X.xe s
theorem PW.pt {X:Cx} {e:Expr} {t:TT} (h:PW X e t):PT X e t:=h _
def PA (X:Cx) (es:List Expr) (t:TA):Prop :=
 ∀ (pos:Pos) (pins:List (Addr × Obj)) (s:Shared) (σ : St) (H:Hp) (Q:List V->Hp->Prop),Inv X pins σ H s->t σ H Q->wpAny (model X.prog X.w) X.A (spliced (backTo pos (starEach es X.env))) (AP X pins σ Q) X.xe s
def PS (X:Cx) (st:Stmt) (t:TS):Prop :=
 ∀ (pins:List (Addr × Obj)) (s:Shared) (σ : St) (H:Hp) (D:Ends),Inv X pins σ H s->t D σ H->wpAny (model X.prog X.w) X.A (exec st X.env) (SP X pins D) X.xe s
def hJ (X:Cx) (st:List Stmt) (t:TS):Prop :=
 ∀ (pins:List (Addr × Obj)) (s:Shared) (σ : St) (H:Hp) (D:Ends),Inv X pins σ H s->t D σ H->wpAny (model X.prog X.w) X.A (execs st X.env) (SP X pins D) X.xe s
theorem aH {α : Type} {t:Sem α} {Q Q':α->Shared->Prop} {M:Model} {A:Around} {E:Value->Shared->Prop} {s:Shared} (h:wpAny M A t Q E s) (hQ:∀ a s,Q a s->Q' a s):wpAny M A t Q' E s:=wpAny_mono h hQ fun _ _ x=>x
section
variable {X:Cx}
def oX (i:Nat):TE:=fun σ H Q=>∃ v,σ[i]? = some (some v)/\Q v H
def tC (v:V):TE:=fun _ H Q=>Q v H
theorem uM {i:Nat} {x:Str} {pos:Pos} (hN:X.N[i]? = some x) (hv:uL X.env.scope x) (hd:(x == ("__debug__" : Str))=false:=by decide) (hcd:(x == ("__classdict__" : Str))=false:=by decide):PE X (.Name x pos) (oX i):=by
 intro pins s σ H Q I h
 obtain⟨v,e,h⟩:=h
 obtain⟨m,hn,hl⟩:=I.loc
 obtain⟨u,r,l⟩:=hl i x v hN e hv
 have fin:EP X pins σ Q u s:=⟨v,H,I,r,h⟩
 rcases l with ⟨hk,hm⟩ | ⟨hk,c,hc,hcell⟩
 ·exact wpAny_Name (wpAny_loadName_local I.ok.kind hk hn hm fin) hd
 ·rcases hk with hk | hk
  ·exact wpAny_Name (wpAny_loadName_cell I.ok.kind hk hc hcell fin) hd
  ·exact wpAny_Name (wpAny_loadName_free I.ok.kind hk hc hcell fin hcd) hd
theorem ai {i j pos}:PE X (.Constant (.int i) j pos) (tC (.int i)):=fun _ _ _ H _ I h=>wpAny_Constant_int ⟨.int i,H,I.tok _,⟨_,rfl⟩,h⟩
theorem j2 {b j pos}:PE X (.Constant (.bool b) j pos) (tC (.bl b)):=fun _ _ _ H _ I h=>Constant_bool ⟨.bl b,H,I,rfl,h⟩
theorem uN {j pos}:PE X (.Constant .none j pos) (tC .ba):=fun _ _ _ H _ I h=>Constant_none ⟨.ba,H,I,rfl,h⟩
theorem aM {x j pos}:PE X (.Constant (.str x) j pos) (tC (.str x)):=fun _ _ _ H _ I h=>Calls.Constant_str ⟨.str x,H,I.tok _,⟨_,rfl⟩,h⟩
def Gl (X:Cx) (x:Str):Prop:=X.env.kindOf x=some .globalImplicit
theorem n5 {E:Value->Shared->Prop} {pins:List (Addr × Obj)} {s:Shared} {σ : St} {H:Hp} {x:Str} {u:Value} {pos:Pos} {Q:Value->Shared->Prop} (I:Inv X pins σ H s) (hg:Gl X x) (hm:X.mg x=some u) (h:Q u s)
  (hd:(x == ("__debug__" : Str))=false:=by decide):wpAny (model X.prog X.w) X.A (eval (.Name x pos) X.env) Q E s :=
 Calls.Name_function_global I.ok.kind hg (Calls.loadGlobal_global (by rw [I.ok.glob];exact I.mod.glob.keeps I.bk) hm h) hd
theorem hU {E:Value->Shared->Prop} {pins:List (Addr × Obj)} {s:Shared} {σ : St} {H:Hp} {x:Str} {u:Value} {pos:Pos} {Q:Value->Shared->Prop} (I:Inv X pins σ H s) (hg:Gl X x) (hm:X.mg x=none) (hv:bootBuiltins x=some u) (h:Q u s)
  (hn:x ≠ "__name__" := by decide) (hd:(x == ("__debug__" : Str))=false:=by decide):wpAny (model X.prog X.w) X.A (eval (.Name x pos) X.env) Q E s:=by
 obtain⟨mb,h1,h2⟩:=I.mod.blt
 exact Calls.Name_function_global I.ok.kind hg (Calls.loadGlobal_builtin (by rw [I.ok.glob];exact I.mod.glob.keeps I.bk) hm (by rw [I.ok.blt];exact h1.keeps I.bk) ((h2 x hn).trans hv) h) hd
theorem tJ {x:Str} {v:V} {u:Value} {pos:Pos} (hg:Gl X x) (hm:X.mg x=some u) (r:RelV v u) (hd:(x == ("__debug__" : Str))=false:=by decide):PE X (.Name x pos) (tC v) :=
 fun _ _ _ H _ I h=>n5 I hg hm ⟨v,H,I,r,h⟩ hd
variable {a b:Expr} {ta tb:TE} {pos:Pos}
def PC (X:Cx) (op:CmpOp) (a b:Expr) (t:TE):Prop :=
 ∀ (pins:List (Addr × Obj)) (s:Shared) (σ : St) (H:Hp) (Q:VK),Inv X pins σ H s->t σ H Q ->
  wpAny (model X.prog X.w) X.A (eval a X.env) (fun v s₁=>wpAny (model X.prog X.w) X.A (eval b X.env) (fun u s₂=>wpAny (model X.prog X.w) X.A (compareOp op v u) (EP X pins σ Q) X.xe s₂) X.xe s₁) X.xe s
theorem rg (b:Expr) {op:CmpOp} (h:op ≠ .In) (h2:op ≠ .NotIn):behindInMarks op b=false:=by
 have e1:(op == CmpOp.In)=false:=by cases op <;> first | rfl | exact absurd rfl h
 have e2:(op == CmpOp.NotIn)=false:=by cases op <;> first | rfl | exact absurd rfl h2
 cases b <;> simp [behindInMarks,e1,e2]
def vZ (ta:TE):TE:=fun σ H Q=>ta σ H fun x H1=>Q (.bl (!decide (x=.ba))) H1
theorem RelV.rh {x:V} {v:Value} (r:RelV x v):(v == Value.none)=decide (x=.ba):=by
 cases x with
 | ba=>cases r;rfl
 | bl _=>cases r;rfl
 | int _=>obtain⟨t,rfl⟩:=r;rfl
 | str _=>obtain⟨t,rfl⟩:=r;rfl
 | gQ _=>obtain⟨t,rfl⟩:=r;rfl
 | sQ _=>obtain⟨t,rfl⟩:=r;rfl
 | ref _=>cases r;rfl
 | ty _=>cases r;rfl
theorem og {j pos'} (ha:PE X a ta):PC X .IsNot a (.Constant .none j pos') (vZ ta):=by
 intro pins s σ H Q I h
 refine aH (ha pins s σ H _ I h) fun v s1 ⟨x,H1,I1,r1,q1⟩=>?_
 exact Constant_none (isnot_none_gen ⟨.bl _,H1,I1,by rw [r1.rh];rfl,q1⟩)
def tB (t:TE):TT:=fun σ H Q=>t σ H fun x H1=>∃ c,x=.bl c/\Q c H1
theorem mh {op:CmpOp} {t:TE} (h:PC X op a b t) (h1:behindInMarks op b=false:=by first | exact rg _ (by decide) (by decide) | rfl):PT X (.Compare a [op] [b] pos) (tB t):=by
 intro pins s σ H Q I hw
 refine wpAny_isTrue_Compare1 (aH (h pins s σ H _ I hw) fun v s1 h1=>aH h1 fun u s2 h2=>aH h2 fun c s3 ⟨x,H1,I1,r1,q1⟩=>?_) h1
 obtain⟨d,rfl,q⟩:=q1
 cases r1
 exact wpAny_truthy_bool ⟨H1,I1,q⟩
theorem uO {e:Expr} {t:TE} (h:PE X e t) (he:∀ whole,isTrue e X.env whole=(do let v <-whole;standAt e.pos;holding [v] (truthy v)):=by intro _;rfl):PT X e (tB t):=by
 intro pins s σ H Q I hw
 refine isTrue_plain (aH (h pins s σ H _ I hw) fun v s1 ⟨x,H1,I1,r1,q1⟩=>?_) (he _)
 obtain⟨d,rfl,q⟩:=q1
 cases r1
 exact wpAny_truthy_bool ⟨H1,I1,q⟩
variable {tA tB':TT} {rest:List Expr}
def w4 (t u:TT):TT:=fun σ H Q=>t σ H fun c H1=>if c=true then u σ H1 Q else Q false H1
def xI (t u:TT):TT:=fun σ H Q=>t σ H fun c H1=>if c=true then Q true H1 else u σ H1 Q
theorem jl (ha:PT X a tA):PW X (.BoolOp .And [a] pos) tA:=by
 intro wh pins s σ H Q I h
 refine isTrue_and (aH (ha pins s σ H Q I h) fun c s1 e=>?_)
 cases c with
 | true=>exact isTrue_and_nil e
 | false=>exact e
theorem mi (ha:PT X a tA):PW X (.BoolOp .Or [a] pos) tA:=by
 intro wh pins s σ H Q I h
 refine isTrue_or (aH (ha pins s σ H Q I h) fun c s1 e=>?_)
 cases c with
 | false=>exact isTrue_or_nil e
 | true=>exact e
theorem j3 (ha:PT X a tA) (hb:PW X (.BoolOp .And (b :: rest) pos) tB'):PW X (.BoolOp .And (a :: b :: rest) pos) (w4 tA tB'):=by
 intro wh pins s σ H Q I h
 refine isTrue_and (aH (ha pins s σ H _ I h) fun c s1 ⟨H1,I1,q1⟩=>?_)
 cases c with
 | true=>exact hb wh pins s1 σ H1 Q I1 q1
 | false=>exact⟨H1,I1,q1⟩
theorem oY (ha:PT X a tA) (hb:PW X (.BoolOp .Or (b :: rest) pos) tB'):PW X (.BoolOp .Or (a :: b :: rest) pos) (xI tA tB'):=by
 intro wh pins s σ H Q I h
 refine isTrue_or (aH (ha pins s σ H _ I h) fun c s1 ⟨H1,I1,q1⟩=>?_)
 cases c with
 | true=>exact⟨H1,I1,q1⟩
 | false=>exact hb wh pins s1 σ H1 Q I1 q1
def v5 (ta tb:TE):TE:=fun σ H Q=>ta σ H fun x H1=>∃ c,x=.bl c/\if c=true then tb σ H1 Q else Q (.bl false) H1
theorem uP {op} {t:TE} (h:PE X a t):PE X (.BoolOp op [a] pos) t:=fun pins s σ H Q I hw=>BoolOp_one (h pins s σ H Q I hw)
theorem p6 (ha:PE X a ta) (hb:PE X (.BoolOp .And (b :: rest) pos) tb):PE X (.BoolOp .And (a :: b :: rest) pos) (v5 ta tb):=by
 intro pins s σ H Q I h
 refine BoolOp_and (aH (ha pins s σ H _ I h) fun v s1 ⟨x,H1,I1,r1,q1⟩=>?_)
 obtain⟨c,rfl,q1⟩:=q1
 cases r1
 refine wpAny_truthy_bool ?_
 cases c with
 | true=>exact hb pins s1 σ H1 Q I1 q1
 | false=>exact⟨.bl false,H1,I1,rfl,q1⟩
def xJ (t:TT) (ta tb:TE):TE:=fun σ H Q=>t σ H fun c H1=>if c=true then ta σ H1 Q else tb σ H1 Q
theorem rm {c:Expr} (hc:PT X c tA) (ha:PE X a ta) (hb:PE X b tb):PE X (.IfExp c a b pos) (xJ tA ta tb):=by
 intro pins s σ H Q I h
 refine wpAny_IfExp (aH (hc pins s σ H _ I h) fun d s1 ⟨H1,I1,q1⟩=>?_)
 cases d with
 | true=>exact ha pins s1 σ H1 Q I1 q1
 | false=>exact hb pins s1 σ H1 Q I1 q1
end
def av (K:PySem.W.Frag) (H:Hp) (a:Addr) (xs:List V):Prop :=
 Rd H a (.lst xs) \/
  ∃ (o:Obj) (its:Array Value) (n:Nat),K.lookup a=some o/\o.cls=.type "list" /\ o.dict=none/\o.data=.seq its n/\its.size<=sizeLine/\Vals xs its.toList
def ar (K:PySem.W.Frag) (H:Hp) (a:Addr) (xs:List V):Prop :=
 Rd H a (.tup xs) \/
  ∃ (o:Obj) (its:Array Value) (n:Nat),K.lookup a=some o/\o.cls=.type "tuple" /\ o.data=.seq its n/\its.size<=sizeLine/\Vals xs its.toList
def w5:Value->Option V
 | .none=>some .ba
 | .bool b=>some (.bl b)
 | .int i _=>some (.int i)
 | .str x _=>some (.str x)
 | .bytes b _=>some (.gQ b)
 | .float b _=>some (.sQ b)
 | .ref a=>some (.ref a)
 | .type n=>some (.ty n)
 | _=>none
theorem RelV.abs {x:V} {u:Value} (r:RelV x u):w5 u=some x:=by
 cases x with
 | ba=>cases r;rfl
 | bl _=>cases r;rfl
 | int _=>obtain⟨t,rfl⟩:=r;rfl
 | str _=>obtain⟨t,rfl⟩:=r;rfl
 | gQ _=>obtain⟨t,rfl⟩:=r;rfl
 | sQ _=>obtain⟨t,rfl⟩:=r;rfl
 | ref _=>cases r;rfl
 | ty _=>cases r;rfl
theorem RelV.inj {x y:V} {u:Value} (r:RelV x u) (q:RelV y u):x=y:=Option.some.inj (r.abs.symm.trans q.abs)
theorem Vals.inj:∀ {xs ys:List V} {us:List Value},Vals xs us->Vals ys us->xs=ys
 | _,_,_,.nil,.nil=>rfl
 | _,_,_,.cons r t,.cons r' t'=>by rw [r.inj r',Vals.inj t t']
section
variable {X:Cx} {pins:List (Addr × Obj)} {σ : St} {H:Hp} {s:Shared} {a:Addr} {xs ys:List V}
theorem av.of {K:PySem.W.Frag} (h:H a=some (.lst xs)):av K H a xs:=.inl (.inl h)
theorem ar.of {K:PySem.W.Frag} (h:H a=some (.tup xs)):ar K H a xs:=.inl (.inl h)
theorem Inv.list (I:Inv X pins σ H s) (h:av X.K H a xs):∃ its:List Value,Vals xs its/\PlainL s.heap a its.toArray/\xs.length<=sizeLine:=by
 rcases h with h | ⟨o,its,n,hk,hc,hd,hs,hz,r⟩
 ·obtain⟨z,its,n,r,e⟩:=h.ok I.aA
  exact⟨its,r,⟨_,n,e,rfl,rfl,rfl⟩,z⟩
 ·refine⟨its.toList,r,⟨o,n,I.md a o hk,hc,hd,by simpa using hs⟩,?_⟩
  have e:=r.length
  simp only [Array.length_toList] at e
  omega
theorem Inv.tuple (I:Inv X pins σ H s) (h:ar X.K H a xs):∃ its:List Value,Vals xs its/\IsTup s.heap a its.toArray/\xs.length<=sizeLine:=by
 rcases h with h | ⟨o,its,n,hk,hc,hs,hz,r⟩
 ·obtain⟨z,its,r,o,e,c,n,d,_⟩:=h.ok I.aA
  exact⟨its,r,⟨o,e,c,n,d⟩,z⟩
 ·refine⟨its.toList,r,⟨o,I.md a o hk,hc,n,by simpa using hs⟩,?_⟩
  have e:=r.length
  simp only [Array.length_toList] at e
  omega
theorem Inv.mj (I:Inv X pins σ H s) (h:av X.K H a xs) (h':av X.K H a ys):xs=ys:=by
 obtain⟨its,r,⟨o,n,e,_,_,d⟩,_⟩:=I.list h
 obtain⟨its',r',⟨o',n',e',_,_,d'⟩,_⟩:=I.list h'
 rw [e] at e';cases e'
 rw [d] at d'
 injection d' with d1 _
 have:its=its':=by simpa using congrArg Array.toList d1
 subst this
 exact r.inj r'
theorem Inv.fK (I:Inv X pins σ H s) (h:ar X.K H a xs) (h':ar X.K H a ys):xs=ys:=by
 obtain⟨its,r,⟨o,e,_,n,d⟩,_⟩:=I.tuple h
 obtain⟨its',r',⟨o',e',_,n',d'⟩,_⟩:=I.tuple h'
 rw [e] at e';cases e'
 rw [d] at d'
 injection d' with d1 _
 have:its=its':=by simpa using congrArg Array.toList d1
 subst this
 exact r.inj r'
end
abbrev Cx.gX (X:Cx) (E:Value->Shared->Prop):Cx:={ X with xe:=E }
abbrev Cx.sT (X:Cx):Cx:=X.gX fun _ _=>False
theorem Cx.Ok.gX {X:Cx} (ok:X.Ok) (E:Value->Shared->Prop):(X.gX E).Ok :=
 ⟨ok.mod,ok.kind,ok.glob,ok.blt,ok.above,ok.inj,ok.has,ok.p5,ok.hd,ok.frames,ok.sS,ok.wL,ok.bs,ok.lu,ok.ma,ok.oV,ok.gr,ok.nY⟩
theorem Cx.Ok.fL {X:Cx} {E:Value->Shared->Prop} (ok:(X.gX E).Ok):X.Ok :=
 ⟨ok.mod,ok.kind,ok.glob,ok.blt,ok.above,ok.inj,ok.has,ok.p5,ok.hd,ok.frames,ok.sS,ok.wL,ok.bs,ok.lu,ok.ma,ok.oV,ok.gr,ok.nY⟩
section
variable {X:Cx} {pins:List (Addr × Obj)} {σ : St} {H:Hp} {s:Shared} {E:Value->Shared->Prop}
theorem Inv.gX (I:Inv X pins σ H s) (E:Value->Shared->Prop):Inv (X.gX E) pins σ H s:=⟨I.ok.gX E,I.os,I.bare,I.base,I.loc,I.cell,I.free,I.cV,I.pin,I.aA,I.len⟩
theorem Inv.fL (I:Inv (X.gX E) pins σ H s):Inv X pins σ H s:=⟨I.ok.fL,I.os,I.bare,I.base,I.loc,I.cell,I.free,I.cV,I.pin,I.aA,I.len⟩
theorem SP.fL {D:Ends} {f:Flow} {s':Shared} (h:SP (X.gX E) pins D f s'):SP X pins D f s':=by
 cases f with
 | next=>obtain⟨σ',H',I,q⟩:=h;exact⟨σ',H',I.fL,q⟩
 | brk=>obtain⟨σ',H',I,q⟩:=h;exact⟨σ',H',I.fL,q⟩
 | cont=>obtain⟨σ',H',I,q⟩:=h;exact⟨σ',H',I.fL,q⟩
 | ret u=>obtain⟨v,σ',H',I,r,q⟩:=h;exact⟨v,σ',H',I.fL,r,q⟩
theorem hJ.sT {st:List Stmt} {t:TS} (h:hJ X.sT st t):hJ X st t:=fun pins s σ H D I hw =>
 wpAny_mono (h pins s σ H D (I.gX _) hw) (fun _ _ q=>q.fL) fun _ _ z=>False.elim z
end
section
variable {X:Cx} {st:Stmt} {rest:List Stmt} {t u:TS} {e:Expr} {te:TE} {pos:Pos}
def v7:TS:=fun D σ H=>D.nx σ H
def w6 (t u:TS):TS:=fun D σ H=>t { D with nx:=u D } σ H
theorem bp:hJ X [] v7:=fun _ _ σ H _ I h=>wpAny_execs_nil ⟨σ,H,I,h⟩
theorem ah (h1:PS X st t) (h2:hJ X rest u):hJ X (st :: rest) (w6 t u):=by
 intro pins s σ H D I h
 refine wpAny_execs_cons (aH (h1 pins s σ H { D with nx:=u D } I h) fun f s1 q=>?_)
 cases f with
 | next =>
  obtain⟨σ',H',I',q⟩:=q
  exact h2 pins s1 σ' H' D I' q
 | ret v=>exact q
 | brk=>exact q
 | cont=>exact q
theorem ao (h1:PS X st t):hJ X [st] t:=by
 intro pins s σ H D I h
 refine wpAny_execs_cons (aH (h1 pins s σ H D I h) fun f s1 q=>?_)
 cases f with
 | next=>exact wpAny_execs_nil q
 | ret v=>exact q
 | brk=>exact q
 | cont=>exact q
def v8:TS:=fun D σ H=>D.ct σ H
theorem nI:PS X (.Continue pos) v8:=fun _ _ σ H _ I h=>wpAny_Continue ⟨σ,H,I,h⟩
theorem Inv.quiet {pins:List (Addr × Obj)} {σ : St} {H:Hp} {s:Shared} (I:Inv X pins σ H s):interactive X.env=false:=by simp [interactive,I.ok.kind]
def v9 (te:TE):TS:=fun D σ H=>te σ H fun _ H1=>D.nx σ H1
theorem bJ (he:PE X e te) (hs:swapsWith e none pos.line X.env=pure false:=by rfl):PS X (.Expr e pos) (v9 te):=by
 intro pins s σ H D I h
 exact wpAny_Expr_any (aH (he pins s σ H _ I h) fun v s1 ⟨x,H1,I1,r1,q1⟩=>⟨σ,H1,I1,q1⟩) I.quiet hs
def w9 (te:TE):TS:=fun D σ H=>te σ H D.rt
theorem aS (he:PE X e te):PS X (.Return (some e) pos) (w9 te):=by
 intro pins s σ H D I h
 exact wpAny_Return_some (aH (he pins s σ H _ I h) fun v s1 ⟨x,H1,I1,r1,q1⟩=>⟨x,σ,H1,I1,r1,q1⟩)
def xa (c:TT) (t u:TS):TS:=fun D σ H=>c σ H fun b H1=>if b=true then t D σ H1 else u D σ H1
theorem bL {c:Expr} {a b:List Stmt} {tc:TT} (hc:PT X c tc) (ha:hJ X a t) (hb:hJ X b u):PS X (.If c a b pos) (xa tc t u):=by
 intro pins s σ H D I h
 refine wpAny_If (aH (hc pins s σ H _ I h) fun d s1 ⟨H1,I1,q1⟩=>?_)
 cases d with
 | true=>exact ha pins s1 σ H1 D I1 q1
 | false=>exact hb pins s1 σ H1 D I1 q1
end
abbrev TG:=V->St->Hp->(St->Hp->Prop)->Prop
abbrev lA:=List V->St->Hp->(St->Hp->Prop)->Prop
def PG (X:Cx) (target:Expr) (t:TG):Prop :=
 ∀ (pins:List (Addr × Obj)) (s:Shared) (σ : St) (H:Hp) (v:V) (u:Value) (Q:St->Hp->Prop),Inv X pins σ H s->RelV v u->t v σ H Q ->
  wpAny (model X.prog X.w) X.A (assign target X.env u) (fun _ s'=>∃ σ' H',Inv X pins σ' H' s'/\Q σ' H') X.xe s
def sU (X:Cx) (ts:List Expr) (t:lA):Prop :=
 ∀ (pins:List (Addr × Obj)) (s:Shared) (σ : St) (H:Hp) (vs:List V) (us:List Value) (Q:St->Hp->Prop),Inv X pins σ H s->Vals vs us->t vs σ H Q ->
  wpAny (model X.prog X.w) X.A (assignInOrder ((assignEach ts X.env).map (·.2)) us) (fun _ s'=>∃ σ' H',Inv X pins σ' H' s'/\Q σ' H') X.xe s
abbrev rn:=V->V->V->Hp->(Hp->Prop)->Prop
def uQ (X:Cx) (t:rn):Prop :=
 ∀ (pins:List (Addr × Obj)) (s:Shared) (σ : St) (H:Hp) (o i v:V) (ov iv u:Value) (Q:Hp->Prop),Inv X pins σ H s->RelV o ov->RelV i iv->RelV v u->t o i v H Q ->
  wpAny (model X.prog X.w) X.A (setItem ov iv u) (fun _ s'=>∃ H',Inv X pins σ H' s'/\Q H') X.xe s
section
variable {X:Cx} {pos:Pos}
def j4 (i:Nat):TG:=fun v σ H Q=>Q (σ.set i (some v)) H
theorem aC {i:Nat} {x:Str} (hN:X.N.Nodup) (hi:X.N[i]? = some x) (hx:Loc X.env.scope x) (hf:X.fn x=true\/X.env.scope.names.lookup x=some .local:=by first | exact .inl rfl | exact .inr rfl | assumption):PG X (.Name x pos) (j4 i):=by
 intro pins s σ H v u Q I r h
 exact wpAny_assign_Name (iq I hN hi hx r (fun s' I'=>⟨_,H,I',h⟩) hf)
def xb:lA:=fun vs σ H Q=>vs = []/\Q σ H
def wb (t:TG) (u:lA):lA:=fun vs σ H Q=>∃ v r,vs=v :: r/\t v σ H fun σ' H'=>u r σ' H' Q
theorem eu:sU X [] xb:=by
 intro pins s σ H vs us Q I r h
 obtain⟨e,h⟩:=h
 subst e
 cases r
 exact assignInOrder_nil ⟨σ,H,I,h⟩
theorem bx {e:Expr} {es:List Expr} {t:TG} {u:lA} (h1:PG X e t) (h2:sU X es u)
  (hs:(assignEach (e :: es) X.env).map (·.2)=assign e X.env :: (assignEach es X.env).map (·.2):=by rfl):sU X (e :: es) (wb t u):=by
 intro pins s σ H vs us Q I r h
 obtain⟨v,vr,e1,h⟩:=h
 subst e1
 cases r with
 | cons r rr =>
  rw [hs]
  refine assignInOrder_cons (aH (h1 pins s σ H _ _ _ I r h) fun _ s1 ⟨σ1,H1,I1,q1⟩=>?_)
  exact h2 pins s1 σ1 H1 _ _ Q I1 rr q1
def rA (K:PySem.W.Frag) (n:Nat) (t:lA):TG:=fun v σ H Q=>∃ a xs,v=.ref a/\ar K H a xs/\xs.length=n/\t xs σ H Q
theorem fg {es:List Expr} {k:Nat} {t:lA} {n:Nat} (hc:X.calm=true) (h:sU X es t)
  (hn:(assignEach es X.env).length=n:=by rfl) (hst:(assignEach es X.env).findIdx? (·.1)=none:=by rfl):PG X (.Tuple es k pos) (rA X.K n t):=by
 intro pins s σ H v u Q I r hw
 obtain⟨a,xs,e1,hq,hl,hw⟩:=hw
 subst e1
 cases r
 obtain⟨its,rv,ht,hz⟩:=I.tuple hq
 refine assign_Tuple_tuple (I.ok.hd hc) ht (by simp [hn,<-hl,rv.length]) hst fun h' hx=>?_
 have I1:Inv X pins σ H { s with heap:=h' }:=I.kept (t':=s.toks) fun b o e=>hx b o (Nat.ne_of_lt (Heap.lt_size e)) e
 exact h pins _ σ H xs _ Q I1 (by simpa using rv) hw
def xc (to ti:TE) (t:rn):TG:=fun v σ H Q=>to σ H fun o H1=>ti σ H1 fun i H2=>t o i v H2 fun H3=>Q σ H3
theorem j5 {o i:Expr} {to ti:TE} {t:rn} (ho:PE X o to) (hi:PE X i ti) (hs:uQ X t)
  (ha:∀ v,assign (.Subscript o i pos) X.env v=(do
   let ov <-holding [v] (eval o X.env)
   let iv <-holding [v,ov] (eval i X.env)
   standAt pos
   holding [v,ov,iv] (setItem ov iv v)
   release [v,ov,iv] []):=by intro _;rfl):PG X (.Subscript o i pos) (xc to ti t):=by
 intro pins s σ H v u Q I r h
 rw [ha]
 refine wpAny_bind (wpAny_holding (aH (ho pins s σ H _ I h) fun ov s1 ⟨x,H1,I1,r1,q1⟩=>?_))
 refine wpAny_bind (wpAny_holding (aH (hi pins s1 σ H1 _ I1 q1) fun iv s2 ⟨y,H2,I2,r2,q2⟩=>?_))
 refine wpAny_bind (wpAny_standAt (wpAny_bind (wpAny_holding (aH (hs pins s2 σ H2 x y v ov iv u _ I2 r1 r2 r q2) fun _ s3 ⟨H3,I3,q3⟩=>?_))))
 exact wpAny_release ⟨σ,H3,I3,q3⟩
def oZ (te:TE) (g:TG):TS:=fun D σ H=>te σ H fun x H1=>g x σ H1 D.nx
theorem gu {tg e:Expr} {te:TE} {g:TG} (he:PE X e te) (hg:PG X tg g) (hs:swapsWithSole [tg] e pos.line X.env=pure false:=by rfl) (hw:swappedStores [tg] e X.env=pure none:=by rfl)
  (h1:(assignEach [tg] X.env).map (·.2) = [assign tg X.env]:=by rfl):PS X (.Assign [tg] e pos) (oZ te g):=by
 intro pins s σ H D I h
 refine wpAny_Assign_stores (aH (he pins s σ H _ I h) fun v s1 ⟨x,H1,I1,r1,q1⟩=>?_) hs hw
 rw [h1]
 exact aH (hg pins s1 σ H1 x v _ I1 r1 q1) fun _ s2 q=>q
theorem aF {i:Nat} {x:Str} {e:Expr} {te:TE} {pos':Pos} (hN:X.N.Nodup) (hi:X.N[i]? = some x) (hx:Loc X.env.scope x) (he:PE X e te) (hs:swapsWith e (some (.Name x pos')) pos.line X.env=pure false:=by rfl) (hf:X.fn x=true\/X.env.scope.names.lookup x=some .local:=by first | exact .inl rfl | exact .inr rfl | assumption) :
  PS X (.Assign [.Name x pos'] e pos) (oZ te (j4 i)):=by
 intro pins s σ H D I h
 refine wpAny_Assign_Name (aH (he pins s σ H _ I h) fun v s1 ⟨y,H1,I1,r1,q1⟩=>?_) hs
 exact iq I1 hN hi hx r1 (fun s2 I2=>⟨_,H1,I2,q1⟩) hf
def xf (i j:Nat) (ta:TA):TS:=fun D σ H=>ta σ H fun vs H1=>∃ v w,vs = [v,w]/\D.nx ((σ.set i (some v)).set j (some w)) H1
theorem p7 {i j:Nat} {x y:Str} {a b:Expr} {ta:TA} {px py pt:Pos} {kt k2 pt2} (hc:X.calm=true) (hN:X.N.Nodup) (hi:X.N[i]? = some x) (hj:X.N[j]? = some y) (hij:i ≠ j)
  (hx:X.env.scope.names.lookup x=some .local) (hy:X.env.scope.names.lookup y=some .local) (ha:PA X [a,b] ta)
  (hw:swappedStores [.Tuple [.Name x px,.Name y py] kt pt] (.Tuple [a,b] k2 pt2) X.env=pure (some [x,y]))
  (hs:swapsWithSole [.Tuple [.Name x px,.Name y py] kt pt] (.Tuple [a,b] k2 pt2) pos.line X.env=pure false:=by rfl) :
  PS X (.Assign [.Tuple [.Name x px,.Name y py] kt pt] (.Tuple [a,b] k2 pt2) pos) (xf i j ta):=by
 intro pins s σ H D I h
 rw [exec_Assign_arm]
 refine wpAny_bind (wpAny_standAt ?_)
 rw [hs]
 refine wpAny_bind (wpAny_pure ?_)
 rw [if_neg (by decide)]
 refine wpAny_bind (Tuple_ (aH (ha _ pins s σ H _ I h) fun us s1 ⟨vs,H1,I1,r1,q1⟩=>?_))
 obtain⟨v,w,e1,q1⟩:=q1
 subst e1
 obtain⟨u1,u2,rfl,rv,rw'⟩:∃ u1 u2,us = [u1,u2]/\RelV v u1/\RelV w u2:=by
  cases r1 with
  | cons p q =>
   cases q with
   | cons p' q' =>
    cases q'
    exact⟨_,_,rfl,p,p'⟩
 refine wpAny_newObj_type ?_ (by show 2<=sizeLine;decide)
 have I2:Inv X pins σ H1 { s1 with heap:=s1.heap.push { cls:=.type "tuple",data:=.seq [u1,u2].toArray } }:=I1.kept (t':=s1.toks) fun b o e=>Heap.get?_push_of_some _ e
 rw [hw]
 refine wpAny_bind (wpAny_pure ?_)
 show wpAny (model X.prog X.w) X.A (do rule "assign.swapped-stores";let items <-unpackItems (.ref s1.heap.objs.size) 2 none;assignInOrder [fun v=>bindName X.env y v,fun v=>bindName X.env x v] items.reverse;pure Flow.next) _ _ _
 refine wpAny_bind (wpAny_rule (wpAny_bind (unpackItems_tuple (items:=#[u1,u2]) (I.ok.hd hc) (IsTup.new s1.heap _) fun h' hx'=>?_)))
 have I3:=I2.kept (h':=h') (t':=s1.toks) fun b o e=>hx' b o (Nat.ne_of_lt (Heap.lt_size e)) e
 show wpAny _ _ (assignInOrder [fun v=>bindName X.env y v,fun v=>bindName X.env x v] [u2,u1] >>= fun _=>pure Flow.next) _ _ _
 refine wpAny_bind (assignInOrder_cons (wpAny_bindName (iq I3 hN hj (.inl hy) rw' (fun s2 I4=>?_) (.inr hy))))
 refine assignInOrder_cons (wpAny_bindName (iq I4 hN hi (.inl hx) rv (fun s3 I5=>assignInOrder_nil (wpAny_pure ?_)) (.inr hx)))
 rw [List.set_comm _ _ (Ne.symm hij)] at I5
 exact⟨_,H1,I5,q1⟩
end
section
variable {X:Cx} {pos:Pos}
def uR (c:TT) (tb:TS):TS:=fun D σ H=>∃ W:Nat->St->Hp->Prop,(∃ m,W m σ H)/\∀ m σ H,W m σ H ->
 c σ H fun b H1=>if b=true then ∃ N:St->Hp->Prop,(∀ σ' H',N σ' H'->∃ m',m' < m/\W m' σ' H')/\tb { D with nx:=N,ct:=N,bk:=D.nx } σ H1 else D.nx σ H1
theorem mn {c:Expr} {body:List Stmt} {tc:TT} {tb:TS} (hp:PassesOwn (model X.prog X.w) X.A X.env X.xe) (hc:PT X c tc) (hb:hJ X body tb):PS X (.While c body [] pos) (uR tc tb):=by
 intro pins s σ H D I h
 obtain⟨W,⟨m0,w0⟩,turn⟩:=h
 refine wpAny_While (codeAny_whileLoop (fun n s'=>∃ σ' H',Inv X pins σ' H' s'/\W n σ' H') ?_ m0 ⟨σ,H,I,w0⟩)
 rintro n s1 ⟨σ1,H1,I1,w1⟩
 refine wpAny_passesOwn hp (aH (hc pins s1 σ1 H1 _ I1 (turn n σ1 H1 w1)) fun b s2 ⟨H2,I2,q2⟩=>?_)
 cases b with
 | true =>
  obtain⟨N,hN,q2⟩:=q2
  rw [if_pos rfl]
  refine wpAny_passesOwn hp (aH (hb pins s2 σ1 H2 _ I2 q2) fun f s3 q3=>?_)
  cases f with
  | next =>
   obtain⟨σ3,H3,I3,n3⟩:=q3
   obtain⟨m',hm,w3⟩:=hN σ3 H3 n3
   exact⟨m',hm,σ3,H3,I3,w3⟩
  | cont =>
   obtain⟨σ3,H3,I3,n3⟩:=q3
   obtain⟨m',hm,w3⟩:=hN σ3 H3 n3
   exact⟨m',hm,σ3,H3,I3,w3⟩
  | brk=>exact q3
  | ret v=>exact q3
 | false =>
  rw [if_neg Bool.false_ne_true]
  exact wpAny_execs_nil ⟨σ1,H2,I2,q2⟩
end
structure It where
 go:Nat->Hp->Prop
 iX:Nat->Hp->V->Hp->Prop
 stop:Nat->Hp->Prop
def dW (X:Cx) (pins:List (Addr × Obj)) (H:Hp) (b:Addr):Prop :=
 H b=none/\b ≠ X.env.locals/\b ∉ X.fs/\(b ∈ X.ex\/X.cB.heap.objs.size<=b)/\(∀ x c,X.env.cells.lookup x=some c->c ≠ b)/\∀ p ∈ X.pn++pins,p.1 ≠ b
theorem Inv.gx {X:Cx} {pins:List (Addr × Obj)} {σ : St} {H H':Hp} {s:Shared} {b:Addr} (I:Inv X pins σ H s) (hb:s.heap.objs.size<=b) (hn:H' b=none):dW X pins H' b:=by
 refine⟨hn,Nat.ne_of_gt (Nat.lt_of_lt_of_le I.lt hb),I.wZ hb,.inr (Nat.le_trans I.sz hb),fun x c e z=>?_,fun p hp z=>?_⟩
 ·obtain⟨v,q⟩:=I.cell x c e
  exact absurd (Nat.lt_of_lt_of_le q.lt (by rw [z];exact hb)) (Nat.lt_irrefl _)
 ·exact absurd (Nat.lt_of_lt_of_le (Heap.lt_size (I.pin p hp).1) (by rw [z];exact hb)) (Nat.lt_irrefl _)
structure Turn (P:Program) (w:World) (K:PySem.W.Frag) (tg:Expr) (J:It) (fp:List Addr) (it:Addr) (tn:Nat->Heap->Prop):Prop where
 mem:it ∈ fp
 obj:∀ i h,tn i h->∀ b ∈ fp,∃ o,h.get? b=some o/\∀ v,o.data ≠ .cell v
 keep:∀ i h h',tn i h->(∀ b ∈ fp,∀ o,h.get? b=some o->h'.get? b=some o)->tn i h'
 item:∀ (X:Cx),X.prog=P->X.w=w->X.K=K->X.calm=true->∀ (i:Nat) (pins:List (Addr × Obj)) (s:Shared) (σ : St) (H:Hp) (E:Value->Shared->Prop),Inv X pins σ H s->(∀ b ∈ fp,dW X pins H b)->tn i s.heap->J.go i H ->
  wpAny (model P w) X.A (pyNext (.ref it)) (fun r s1=>∃ u,r=some u /\
   wpAny (model P w) X.A (letOwnedTupleGo tg (.ref it) u) (fun _ s2=>∃ x H',Inv X pins σ H' s2/\RelV x u/\J.iX i H x H'/\tn (i+1) s2.heap/\∀ b ∈ fp,H' b=none) E s1) E s
 done:∀ (X:Cx),X.prog=P->X.w=w->X.K=K->X.calm=true->∀ (i:Nat) (pins:List (Addr × Obj)) (s:Shared) (σ : St) (H:Hp) (E:Value->Shared->Prop),Inv X pins σ H s->(∀ b ∈ fp,dW X pins H b)->tn i s.heap->J.stop i H ->
  wpAny (model P w) X.A (pyNext (.ref it)) (fun r s1=>r=none/\Inv X pins σ H s1) E s
 self:∀ (A:Around) (i:Nat) (s:Shared) (Q:Value->Shared->Prop) (E:Value->Shared->Prop),tn i s.heap->Q (.ref it) s->wpAny (model P w) A (pyIter (.ref it)) Q E s
abbrev TI:=St->Hp->(It->Hp->Prop)->Prop
def wM (X:Cx) (pins:List (Addr × Obj)) (σ : St) (tg:Expr) (R:It->Hp->Prop) (itv:Value) (s2:Shared):Prop :=
 ∃ (it:Addr) (fp:List Addr) (tn:Nat->Heap->Prop) (J:It) (H':Hp),itv=.ref it/\Inv X pins σ H' s2/\Turn X.prog X.w X.K tg J fp it tn/\tn 0 s2.heap/\(∀ b ∈ fp,dW X pins H' b)/\R J H'
def PI (X:Cx) (tg iter:Expr) (wi:TI):Prop :=
 ∀ (pins:List (Addr × Obj)) (s:Shared) (σ : St) (H:Hp) (R:It->Hp->Prop),Inv X pins σ H s->wi σ H R ->
  wpAny (model X.prog X.w) X.A (eval iter X.env) (fun v s1=>wpAny (model X.prog X.w) X.A (pyIter v) (wM X pins σ tg R) X.xe s1) X.xe s
theorem j6 {M:Model} {A:Around} {E:Value->Shared->Prop} {s:Shared} {tg:Expr} {it:Addr} {u:Value} {o:Obj} {n:String} {vs:Array Value} {Q:Unit->Shared->Prop} (ho:s.heap.get? it=some o) (hc:o.cls=.type n) (hd:o.data=.fields vs)
    (hn:["enumerate", "zip", "dict_itemiterator", "dict_reverseitemiterator", "odict_iterator", "itertools.zip_longest", "itertools.pairwise"].contains n=false) (hQ:Q () s):wpAny M A (letOwnedTupleGo tg (.ref it) u) Q E s:=by
  unfold letOwnedTupleGo
  cases tg <;> first
    | exact wpAny_pure hQ
    | (cases u <;> first
        | exact wpAny_pure hQ
        | (refine wpAny_bind (wpAny_load ho ?_)
           rw [hc,hd]
           show wpAny M A (if (["enumerate", "zip", "dict_itemiterator", "dict_reverseitemiterator", "odict_iterator", "itertools.zip_longest", "itertools.pairwise"].contains n && vs[0]? == some (rawInt _))=true then _ else _) Q E s
           rw [if_neg (by intro h;rw [hn,Bool.false_and] at h;cases h)]
           exact wpAny_pure hQ))
def mq (K:PySem.W.Frag) (a:Addr):It :=
 ⟨fun i H=>∃ xs x,av K H a xs/\xs[i]? = some x,fun i H x H'=>H' = H/\∀ xs,av K H a xs->xs[i]? = some x,fun i H=>∃ xs,av K H a xs/\xs.length<=i⟩
def oh (K:PySem.W.Frag) (a:Addr):It :=
 ⟨fun i H=>∃ xs x,ar K H a xs/\xs[i]? = some x,fun i H x H'=>H' = H/\∀ xs,ar K H a xs->xs[i]? = some x,fun i H=>∃ xs,ar K H a xs/\xs.length<=i⟩
def mr (lo:Int) (n:Nat):It:=⟨fun i _=>i < n,fun i H x H'=>H' = H/\x=.int (lo+i),fun i _=>n<=i⟩
theorem p8 {P:Program} {w:World} {K:PySem.W.Frag} {tg:Expr} (a it:Addr):Turn P w K tg (mq K a) [it] it (fun i h=>h.IsListIter it a i) where
 mem:=by simp
 obj:=fun i h st b hb=>by
  have e:b=it:=by simpa using hb
  subst e
  obtain⟨o,e,c,d⟩:=st
  exact⟨o,e,fun v z=>by rw [d] at z;cases z⟩
 keep:=fun i h h' st k=>st.at fun o e=>k it (by simp) o e
 item:=by
  intro X hP hw hK hc i pins s σ H E I hf st hg
  subst hP hw hK
  obtain⟨xs,x,hq,hx⟩:=hg
  obtain⟨its,rv,p,hz⟩:=I.list hq
  obtain⟨u,hu,ru⟩:=rv.get hx
  obtain⟨f0,f1,f2,f3,f4,f5⟩:=hf it (by simp)
  refine wpAny_pyNext_list_item st p.isList (x:=u) (by simpa using hu) fun h' st' sb=>?_
  have I1:Inv X pins σ H { s with heap:=h' }:=I.turned (t':=s.toks) (fun b o hb e=>(sb.2 b hb).trans e) f0 f1 f3 f4 f5
  obtain⟨o,e,c,d⟩:=id st'
  exact⟨u,rfl,j6 (s:={ s with heap:=h' }) e c d (by decide) ⟨x,H,I1,ru,⟨rfl,fun ys hy=>by rw [I.mj hy hq];exact hx⟩,st',fun b hb=>(hf b hb).1⟩⟩
 done:=by
  intro X hP hw hK hc i pins s σ H E I hf st hg
  subst hP hw hK
  obtain⟨xs,hq,hx⟩:=hg
  obtain⟨its,rv,p,hz⟩:=I.list hq
  obtain⟨f0,f1,f2,f3,f4,f5⟩:=hf it (by simp)
  have hl:=rv.length
  exact wpAny_pyNext_list_end (I.ok.hd hc) st p.isList (by simp;omega) fun h' eb=>⟨rfl,I.turned (t':=s.toks) (fun b o hb e=>eb b o hb e) f0 f1 f3 f4 f5⟩
 self:=fun _ _ _ _ _ st h=>wpAny_pyIter_listiter st h
theorem o1 {P:Program} {w:World} {K:PySem.W.Frag} {tg:Expr} (a it:Addr):Turn P w K tg (oh K a) [it] it (fun i h=>h.IsTupleIter it a i) where
 mem:=by simp
 obj:=fun i h st b hb=>by
  have e:b=it:=by simpa using hb
  subst e
  obtain⟨o,e,c,d⟩:=st
  exact⟨o,e,fun v z=>by rw [d] at z;cases z⟩
 keep:=fun i h h' st k=>st.at fun o e=>k it (by simp) o e
 item:=by
  intro X hP hw hK hc i pins s σ H E I hf st hg
  subst hP hw hK
  obtain⟨xs,x,hq,hx⟩:=hg
  obtain⟨its,rv,p,hz⟩:=I.tuple hq
  obtain⟨u,hu,ru⟩:=rv.get hx
  obtain⟨f0,f1,f2,f3,f4,f5⟩:=hf it (by simp)
  refine wpAny_pyNext_tuple_item st (show s.heap.IsTuple a its.toArray from p) (x:=u) (by simpa using hu) fun h' st' sb=>?_
  have I1:Inv X pins σ H { s with heap:=h' }:=I.turned (t':=s.toks) (fun b o hb e=>(sb.2 b hb).trans e) f0 f1 f3 f4 f5
  obtain⟨o,e,c,d⟩:=id st'
  exact⟨u,rfl,j6 (s:={ s with heap:=h' }) e c d (by decide) ⟨x,H,I1,ru,⟨rfl,fun ys hy=>by rw [I.fK hy hq];exact hx⟩,st',fun b hb=>(hf b hb).1⟩⟩
 done:=by
  intro X hP hw hK hc i pins s σ H E I hf st hg
  subst hP hw hK
  obtain⟨xs,hq,hx⟩:=hg
  obtain⟨its,rv,p,hz⟩:=I.tuple hq
  obtain⟨f0,f1,f2,f3,f4,f5⟩:=hf it (by simp)
  have hl:=rv.length
  exact wpAny_pyNext_tuple_end (I.ok.hd hc) st (show s.heap.IsTuple a its.toArray from p) (by simp;omega) fun h' eb=>⟨rfl,I.turned (t':=s.toks) (fun b o hb e=>eb b o hb e) f0 f1 f3 f4 f5⟩
 self:=fun _ _ _ _ _ st h=>wpAny_pyIter_tupleiter st h
theorem o2 {P:Program} {w:World} {K:PySem.W.Frag} {tg:Expr} (it:Addr) (lo:Int) (n:Nat):Turn P w K tg (mr lo n) [it] it (fun i h=>IsRangeIter h it (lo+(i:Nat) * 1) ((n:Int) - (i:Nat)) 1) where
 mem:=by simp
 obj:=fun i h st b hb=>by
  have e:b=it:=by simpa using hb
  subst e
  exact⟨_,st,fun v z=>by
   have z':Data.fields _=Data.cell v:=z
   cases z'⟩
 keep:=fun i h h' st k=>k it (by simp) _ st
 item:=by
  intro X hP hw hK hc i pins s σ H E I hf st hg
  subst hP hw hK
  obtain⟨f0,f1,f2,f3,f4,f5⟩:=hf it (by simp)
  have W:=Walks.range (prog:=X.prog) (w:=X.w) (I.ok.hd hc) it lo 1 n
  refine W.item i s _ _ hg st fun v h' tk hv st' kk=>?_
  obtain⟨t,rfl⟩:=hv
  have I1:Inv X pins σ H { s with heap:=h',toks:=tk }:=I.turned (fun b o hb e=>kk b o (by simpa using hb) e) f0 f1 f3 f4 f5
  refine⟨_,rfl,j6 (s:={ s with heap:=h',toks:=tk }) (n := "range_iterator") st' rfl rfl (by decide) ⟨.int (lo+i),H,I1,⟨t,?_⟩,⟨rfl,rfl⟩,st',fun b hb=>(hf b hb).1⟩⟩
  rw [Int.mul_one]
 done:=by
  intro X hP hw hK hc i pins s σ H E I hf st hg
  subst hP hw hK
  obtain⟨f0,f1,f2,f3,f4,f5⟩:=hf it (by simp)
  exact wpAny_pyNext_range_end (I.ok.hd hc) st (by have:n<=i:=hg;omega) fun h' eb=>⟨rfl,I.turned (t':=s.toks) (fun b o hb e=>eb b o hb e) f0 f1 f3 f4 f5⟩
 self:=fun _ _ _ _ _ st h=>wpAny_pyIter_rangeiter st h
section
variable {X:Cx} {tg:Expr}
def sV (K:PySem.W.Frag) (tl:TE):TI:=fun σ H R=>tl σ H fun x H1=>∃ a,x=.ref a/\(∃ xs,av K H1 a xs)/\R (mq K a) H1
def xg (K:PySem.W.Frag) (tl:TE):TI:=fun σ H R=>tl σ H fun x H1=>∃ a,x=.ref a/\(∃ xs,ar K H1 a xs)/\R (oh K a) H1
theorem dI {l:Expr} {tl:TE} (hl:PE X l tl):PI X tg l (sV X.K tl):=by
 intro pins s σ H R I h
 refine aH (hl pins s σ H _ I h) fun v s1 ⟨x,H1,I1,r1,q1⟩=>?_
 obtain⟨a,e,⟨xs,hq⟩,q⟩:=q1
 subst e
 cases r1
 obtain⟨its,rv,p,hz⟩:=I1.list hq
 refine wpAny_pyIter_list p.isList ?_
 refine⟨s1.heap.objs.size,[s1.heap.objs.size],_,_,H1,rfl,I1.kept (t':=s1.toks) fun b o e=>Heap.get?_push_of_some _ e,p8 a _,⟨_,Heap.get?_push_size _ rfl,rfl,rfl⟩,fun b hb=>?_,q⟩
 have e:b=s1.heap.objs.size:=by simpa using hb
 subst e
 exact I1.gx (Nat.le_refl _) (I1.aA.fresh (Nat.le_refl _))
theorem eO {l:Expr} {tl:TE} (hl:PE X l tl):PI X tg l (xg X.K tl):=by
 intro pins s σ H R I h
 refine aH (hl pins s σ H _ I h) fun v s1 ⟨x,H1,I1,r1,q1⟩=>?_
 obtain⟨a,e,⟨xs,hq⟩,q⟩:=q1
 subst e
 cases r1
 obtain⟨its,rv,p,hz⟩:=I1.tuple hq
 refine wpAny_pyIter_tuple (show s1.heap.IsTuple a its.toArray from p) ?_
 refine⟨s1.heap.objs.size,[s1.heap.objs.size],_,_,H1,rfl,I1.kept (t':=s1.toks) fun b o e=>Heap.get?_push_of_some _ e,o1 a _,⟨_,Heap.get?_push_size _ rfl,rfl,rfl⟩,fun b hb=>?_,q⟩
 have e:b=s1.heap.objs.size:=by simpa using hb
 subst e
 exact I1.gx (Nat.le_refl _) (I1.aA.fresh (Nat.le_refl _))
theorem rB {pins:List (Addr × Obj)} {σ : St} {H:Hp} {s:Shared} {R:It->Hp->Prop} {E:Value->Shared->Prop} {lo hi:Int} {t u v:Tok} {tk:Nat} (I:Inv X pins σ H s) (h1:-(2 ^ 62)<=lo) (h2:lo < 2 ^ 62) (h3:-(2 ^ 62)<=hi) (h4:hi < 2 ^ 62)
  (q:R (mr lo (hi - lo).toNat) H):wpAny (model X.prog X.w) X.A (pyIter (.ref s.heap.objs.size)) (wM X pins σ tg R) E { s with heap:=s.heap.push { cls:=.type "range",data:=.fields #[.int lo t,.int hi u,.int 1 v] },toks:=tk }:=by
 refine wpAny_pyIter_range (IsRange.new ..) (small_one h1 h2 h3 h4) ?_
 have I1:Inv X pins σ H { s with heap:=s.heap.push { cls:=.type "range",data:=.fields #[.int lo t,.int hi u,.int 1 v] },toks:=tk }:=I.kept fun b o e=>Heap.get?_push_of_some _ e
 refine⟨(s.heap.push { cls:=.type "range",data:=.fields #[.int lo t,.int hi u,.int 1 v] }).objs.size,[(s.heap.push { cls:=.type "range",data:=.fields #[.int lo t,.int hi u,.int 1 v] }).objs.size],_,_,H,rfl,
  I1.kept (t':=tk) fun b o e=>Heap.get?_push_of_some _ e,o2 _ lo (hi - lo).toNat,?_,fun b hb=>?_,q⟩
 ·have e1:lo+((0:Nat):Int) * 1=lo:=by simp
  have e2:(((hi - lo).toNat:Nat):Int) - ((0:Nat):Int)=Builtin.Range.rangeSize lo hi 1:=by rw [rangeSize_one];split <;> omega
  show IsRangeIter _ _ (lo+((0:Nat):Int) * 1) ((((hi - lo).toNat:Nat):Int) - ((0:Nat):Int)) 1
  rw [e1,e2]
  exact Heap.get?_push_size _ rfl
 ·have e:b=(s.heap.push { cls:=.type "range",data:=.fields #[.int lo t,.int hi u,.int 1 v] }).objs.size:=by simpa using hb
  subst e
  exact I1.gx (Nat.le_refl _) (I1.aA.fresh (Nat.le_refl _))
def wc (ta:TA):TI:=fun σ H R=>ta σ H fun vs H1=>∃ j:Int,vs = [.int j]/\-(2 ^ 62)<=j/\j < 2 ^ 62/\R (mr 0 j.toNat) H1
theorem cO {a:Expr} {ta:TA} {p pos:Pos} (hg:Gl X "range") (hm:X.mg "range" = none) (ha:PA X [a] ta) (hs:starEach [a] X.env = [(false,eval a X.env)]:=by rfl):PI X tg (.Call (.Name "range" p) [a] [] pos) (wc ta):=by
 intro pins s σ H R I h
 refine Call_ (hU I hg hm boot_range (PyProof.Rows.callWith_type1 (aH (ha pos pins s σ H _ I h) fun us s1 ⟨vs,H1,I1,r1,q1⟩=>?_) hs rfl))
 obtain⟨j,e,q1,q2,q⟩:=q1
 subst e
 cases r1 with
 | cons r rr =>
  cases rr
  obtain⟨t,rfl⟩:=r
  exact call_range_1 (rB I1 (by omega) (by omega) q1 q2 (by simpa using q))
def xh (wi:TI) (g:TG) (tb:TS):TS:=fun D σ H=>wi σ H fun J H1=>∃ W:Nat->Nat->St->Hp->Prop,(∃ m,W 0 m σ H1)/\∀ i m σ H,W i m σ H ->
 (J.stop i H/\D.nx σ H)\/(J.go i H/\∃ N:St->Hp->Prop,(∀ σ' H',N σ' H'->∃ m',m' < m/\W (i+1) m' σ' H')/\∀ x H',J.iX i H x H'->g x σ H' fun σ2 H2=>tb { D with nx:=N,ct:=N,bk:=D.nx } σ2 H2)
def fM (fp:List Addr) (h:Heap):List (Addr × Obj):=fp.filterMap fun b=>(h.get? b).map fun o=>(b,o)
theorem bW {fp:List Addr} {h:Heap} {b:Addr} {o:Obj} (hb:b ∈ fp) (e:h.get? b=some o):(b,o) ∈ fM fp h:=List.mem_filterMap.mpr ⟨b,hb,by rw [e];rfl⟩
theorem p9 {fp:List Addr} {h:Heap} {p:Addr × Obj} (hp:p ∈ fM fp h):p.1 ∈ fp/\h.get? p.1=some p.2:=by
 obtain⟨b,hb,e⟩:=List.mem_filterMap.mp hp
 cases q:h.get? b with
 | none=>rw [q] at e;cases e
 | some o =>
  rw [q] at e
  have e':(b,o)=p:=Option.some.inj e
  subst e'
  exact⟨hb,q⟩
theorem Inv.pinned {pins:List (Addr × Obj)} {σ : St} {H:Hp} {s:Shared} {fp:List Addr} (I:Inv X pins σ H s) (hf:∀ b ∈ fp,dW X pins H b) (ho:∀ b ∈ fp,∃ o,s.heap.get? b=some o/\∀ v,o.data ≠ .cell v):Inv X (pins++fM fp s.heap) σ H s :=
 I.n4 fun p hp=>(List.mem_append.mp hp).elim (fun z=>I.pin p (List.mem_append_right _ z)) fun z=>by
  obtain⟨hb,e⟩:=p9 z
  obtain⟨f0,f1,f2,_⟩:=hf p.1 hb
  obtain⟨o,e',d⟩:=ho p.1 hb
  rw [e] at e';cases e'
  exact⟨e,f0,f1,f2,d⟩
theorem Inv.cI {pins pl:List (Addr × Obj)} {σ : St} {H:Hp} {s:Shared} (I:Inv X (pins++pl) σ H s):Inv X pins σ H s:=I.n4 fun p hp=>I.pin p (List.mem_append_right _ (List.mem_append_left _ hp))
theorem cJ {iter:Expr} {body:List Stmt} {wi:TI} {g:TG} {tb:TS} {pos:Pos} (hp:PassesOwn (model X.prog X.w) X.A X.env X.xe) (hc:X.calm=true) (hi:PI X tg iter wi) (hg:PG X tg g) (hb:hJ X body tb)
  (hs:∀ x,foldedSetIterable iter X.env x=pure x:=by intro _;rfl):PS X (.For tg iter body [] pos) (xh wi g tb):=by
 intro pins s σ H D I h
 refine wpAny_For (aH (hi pins s σ H _ I h) fun v s1 h1=>aH h1 fun itv s2 h2=>?_) hs
 obtain⟨it,fp,tn,J,H2,e,I2,T,st2,f2,W,⟨m0,w0⟩,turn⟩:=h2
 subst e
 have stat:∀ {H':Hp},(∀ b ∈ fp,H' b=none)->∀ b ∈ fp,dW X pins H' b:=fun hn b hb=>⟨hn b hb,(f2 b hb).2⟩
 refine codeAny_forLoop_any (fun n s'=>∃ i σ' H',Inv X pins σ' H' s'/\tn i s'.heap/\(∀ b ∈ fp,H' b=none)/\W i n σ' H') ?_ m0 ⟨0,σ,H2,I2,st2,fun b hb=>(f2 b hb).1,w0⟩
 rintro n s3 ⟨i,σ3,H3,I3,st3,fr3,w3⟩
 rcases turn i n σ3 H3 w3 with ⟨stop,qn⟩ | ⟨go,N,hN,step⟩
 ·refine wpAny_passesOwn hp (aH (T.done X rfl rfl rfl hc i pins s3 σ3 H3 X.xe I3 (stat fr3) st3 stop) fun r s4 ⟨hr,I4⟩=>?_)
  subst hr
  exact wpAny_execs_nil ⟨σ3,H3,I4,qn⟩
 ·refine wpAny_passesOwn hp (aH (T.item X rfl rfl rfl hc i pins s3 σ3 H3 X.xe I3 (stat fr3) st3 go) fun r s4 ⟨u,hr,h4⟩=>?_)
  subst hr
  refine wpAny_passesOwn hp (aH h4 fun _ s5 ⟨x,H5,I5,r5,y5,st5,fr5⟩=>?_)
  have I5':=I5.pinned (stat fr5) (T.obj _ _ st5)
  refine wpAny_passesOwn hp (aH (hg _ s5 σ3 H5 x u _ I5' r5 (step x H5 y5)) fun _ s6 ⟨σ6,H6,I6,q6⟩=>?_)
  refine wpAny_passesOwn hp (aH (hb _ s6 σ6 H6 _ I6 q6) fun f s7 q7=>?_)
  have again:∀ {σ7:St} {H7:Hp},Inv X (pins++fM fp s5.heap) σ7 H7 s7->N σ7 H7->∃ m,m < n/\∃ i σ' H',Inv X pins σ' H' s7/\tn i s7.heap/\(∀ b ∈ fp,H' b=none)/\W i m σ' H':=fun {σ7 H7} I7 n7=>by
   obtain⟨m',hm,w7⟩:=hN σ7 H7 n7
   refine⟨m',hm,i+1,σ7,H7,I7.cI,T.keep _ _ _ st5 fun b hb o e=>(I7.pin (b,o) (List.mem_append_right _ (List.mem_append_right _ (bW hb e)))).1,fun b hb=>?_,w7⟩
   obtain⟨o,e,d⟩:=T.obj _ _ st5 b hb
   exact (I7.pin (b,o) (List.mem_append_right _ (List.mem_append_right _ (bW hb e)))).2.1
  cases f with
  | next=>obtain⟨σ7,H7,I7,n7⟩:=q7;exact again I7 n7
  | cont=>obtain⟨σ7,H7,I7,n7⟩:=q7;exact again I7 n7
  | brk=>obtain⟨σ7,H7,I7,q7⟩:=q7;exact⟨σ7,H7,I7.cI,q7⟩
  | ret v=>obtain⟨x7,σ7,H7,I7,r7,q7⟩:=q7;exact⟨x7,σ7,H7,I7.cI,r7,q7⟩
end
theorem rC {K:PySem.W.Frag} {a:Addr} {xs:List V} {g:TG} {tb:TS} {D:Ends} {σ : St} {H:Hp} (Pv:Nat->St->Hp->Prop) (h0:Pv 0 σ H) (hl:∀ i σ H,i<=xs.length->Pv i σ H->av K H a xs)
  (hs:∀ i x σ H,xs[i]? = some x->Pv i σ H->g x σ H fun σ2 H2=>tb { D with nx:=Pv (i+1),ct:=Pv (i+1),bk:=D.nx } σ2 H2) (hd:∀ σ H,Pv xs.length σ H->D.nx σ H) :
  ∃ W:Nat->Nat->St->Hp->Prop,(∃ m,W 0 m σ H)/\∀ i m σ H,W i m σ H ->
   ((mq K a).stop i H/\D.nx σ H)\/((mq K a).go i H/\∃ N:St->Hp->Prop,(∀ σ' H',N σ' H'->∃ m',m' < m/\W (i+1) m' σ' H')/\∀ x H',(mq K a).iX i H x H'->g x σ H' fun σ2 H2=>tb { D with nx:=N,ct:=N,bk:=D.nx } σ2 H2):=by
 refine⟨fun i m σ H=>m=xs.length - i/\i<=xs.length/\Pv i σ H,⟨xs.length,by simp,Nat.zero_le _,h0⟩,?_⟩
 rintro i m σ H ⟨rfl,hi,p⟩
 have q:=hl i σ H hi p
 by_cases hlt:i < xs.length
 ·refine .inr ⟨⟨xs,xs[i],q,by simp [hlt]⟩,Pv (i+1),fun σ' H' p'=>⟨xs.length - (i+1),by omega,rfl,hlt,p'⟩,fun x H' y=>?_⟩
  obtain⟨e,y⟩:=y
  subst e
  exact hs i x σ _ (y xs q) p
 ·have e:i=xs.length:=by omega
  subst e
  exact .inl ⟨⟨xs,q,Nat.le_refl _⟩,hd σ H p⟩
theorem fC {K:PySem.W.Frag} {a:Addr} {xs:List V} {g:TG} {tb:TS} {D:Ends} {σ : St} {H:Hp} (Pv:Nat->St->Hp->Prop) (h0:Pv 0 σ H) (hl:∀ i σ H,i<=xs.length->Pv i σ H->ar K H a xs)
  (hs:∀ i x σ H,xs[i]? = some x->Pv i σ H->g x σ H fun σ2 H2=>tb { D with nx:=Pv (i+1),ct:=Pv (i+1),bk:=D.nx } σ2 H2) (hd:∀ σ H,Pv xs.length σ H->D.nx σ H) :
  ∃ W:Nat->Nat->St->Hp->Prop,(∃ m,W 0 m σ H)/\∀ i m σ H,W i m σ H ->
   ((oh K a).stop i H/\D.nx σ H)\/((oh K a).go i H/\∃ N:St->Hp->Prop,(∀ σ' H',N σ' H'->∃ m',m' < m/\W (i+1) m' σ' H')/\∀ x H',(oh K a).iX i H x H'->g x σ H' fun σ2 H2=>tb { D with nx:=N,ct:=N,bk:=D.nx } σ2 H2):=by
 refine⟨fun i m σ H=>m=xs.length - i/\i<=xs.length/\Pv i σ H,⟨xs.length,by simp,Nat.zero_le _,h0⟩,?_⟩
 rintro i m σ H ⟨rfl,hi,p⟩
 have q:=hl i σ H hi p
 by_cases hlt:i < xs.length
 ·refine .inr ⟨⟨xs,xs[i],q,by simp [hlt]⟩,Pv (i+1),fun σ' H' p'=>⟨xs.length - (i+1),by omega,rfl,hlt,p'⟩,fun x H' y=>?_⟩
  obtain⟨e,y⟩:=y
  subst e
  exact hs i x σ _ (y xs q) p
 ·have e:i=xs.length:=by omega
  subst e
  exact .inl ⟨⟨xs,q,Nat.le_refl _⟩,hd σ H p⟩
theorem fN {lo:Int} {n:Nat} {g:TG} {tb:TS} {D:Ends} {σ : St} {H:Hp} (Pv:Nat->St->Hp->Prop) (h0:Pv 0 σ H)
  (hs:∀ i σ H,i < n->Pv i σ H->g (.int (lo+i)) σ H fun σ2 H2=>tb { D with nx:=Pv (i+1),ct:=Pv (i+1),bk:=D.nx } σ2 H2) (hd:∀ σ H,Pv n σ H->D.nx σ H) :
  ∃ W:Nat->Nat->St->Hp->Prop,(∃ m,W 0 m σ H)/\∀ i m σ H,W i m σ H ->
   ((mr lo n).stop i H/\D.nx σ H)\/((mr lo n).go i H/\∃ N:St->Hp->Prop,(∀ σ' H',N σ' H'->∃ m',m' < m/\W (i+1) m' σ' H')/\∀ x H',(mr lo n).iX i H x H'->g x σ H' fun σ2 H2=>tb { D with nx:=N,ct:=N,bk:=D.nx } σ2 H2):=by
 refine⟨fun i m σ H=>m=n - i/\i<=n/\Pv i σ H,⟨n,by simp,Nat.zero_le _,h0⟩,?_⟩
 rintro i m σ H ⟨rfl,hi,p⟩
 by_cases hlt:i < n
 ·refine .inr ⟨hlt,Pv (i+1),fun σ' H' p'=>⟨n - (i+1),by omega,rfl,hlt,p'⟩,fun x H' y=>?_⟩
  obtain⟨e,y⟩:=y
  subst e y
  exact hs i σ _ hlt p
 ·have e:i=n:=by omega
  subst e
  exact .inl ⟨Nat.le_refl _,hd σ H p⟩
abbrev R2:=V->V->Hp->VK->Prop
def de (X:Cx) (f:Value->Value->Sem Value) (r:R2):Prop :=
 ∀ (pins:List (Addr × Obj)) (s:Shared) (σ : St) (H:Hp) (x y:V) (v u:Value) (Q:VK),Inv X pins σ H s->RelV x v->RelV y u->r x y H Q ->
  wpAny (model X.prog X.w) X.A (f v u) (EP X pins σ Q) X.xe s
def uS (X:Cx) (f:Value->Sem Value) (r:V->Hp->VK->Prop):Prop :=
 ∀ (pins:List (Addr × Obj)) (s:Shared) (σ : St) (H:Hp) (x:V) (v:Value) (Q:VK),Inv X pins σ H s->RelV x v->r x H Q ->
  wpAny (model X.prog X.w) X.A (f v) (EP X pins σ Q) X.xe s
def fh (X:Cx) (f:Value) (r:List V->Hp->VK->Prop):Prop :=
 ∀ (pins:List (Addr × Obj)) (s:Shared) (σ : St) (H:Hp) (xs:List V) (us:List Value) (Q:VK),Inv X pins σ H s->Vals xs us->r xs H Q ->
  wpAny (model X.prog X.w) X.A (call f us) (EP X pins σ Q) X.xe s
def xi (X:Cx) (r:V->Hp->(Bool->Hp->Prop)->Prop):Prop :=
 ∀ (pins:List (Addr × Obj)) (s:Shared) (σ : St) (H:Hp) (x:V) (v:Value) (Q:Bool->Hp->Prop),Inv X pins σ H s->RelV x v->r x H Q ->
  wpAny (model X.prog X.w) X.A (truthy v) (TP X pins σ Q) X.xe s
def sW (r:R2) (ta tb:TE):TE:=fun σ H Q=>ta σ H fun x H1=>tb σ H1 fun y H2=>r x y H2 Q
def xK (r:V->Hp->VK->Prop) (ta:TE):TE:=fun σ H Q=>ta σ H fun x H1=>r x H1 Q
def rI (C:Int->Int->Prop) (g:Int->Int->V):R2:=fun x y H Q=>∃ i j,x=.int i/\y=.int j/\C i j/\Q (g i j) H
def oi (g:Int->Int->V):R2:=fun x y H Q=>∃ i j,x=.int i/\y=.int j/\Q (g i j) H
def rU (g:Int->V):V->Hp->VK->Prop:=fun x H Q=>∃ i,x=.int i/\Q (g i) H
section
variable {X:Cx} {a b c:Expr} {ta tb tc:TE} {pos:Pos}
theorem rD (ha:PE X a ta) (hb:PE X b tb) {pins:List (Addr × Obj)} {s:Shared} {σ : St} {H:Hp} {R:V->V->Hp->Prop} (I:Inv X pins σ H s)
  (h:ta σ H fun x H1=>tb σ H1 fun y H2=>R x y H2) {Q:Value->Shared->Prop} {f:Value->Value->Sem Value}
  (hf:∀ v u s2 x y H2,Inv X pins σ H2 s2->RelV x v->RelV y u->R x y H2->wpAny (model X.prog X.w) X.A (f v u) Q X.xe s2) :
  wpAny (model X.prog X.w) X.A (eval a X.env) (fun v s₁=>wpAny (model X.prog X.w) X.A (eval b X.env) (fun u s₂=>wpAny (model X.prog X.w) X.A (f v u) Q X.xe s₂) X.xe s₁) X.xe s:=by
 refine aH (ha pins s σ H _ I h) fun v s1 ⟨x,H1,I1,r1,q1⟩=>?_
 refine aH (hb pins s1 σ H1 _ I1 q1) fun u s2 ⟨y,H2,I2,r2,q2⟩=>?_
 exact hf v u s2 x y H2 I2 r1 r2 q2
theorem aN {op:Operator} {r:R2} (ho:de X (binaryOp op) r) (ha:PE X a ta) (hb:PE X b tb):PE X (.BinOp a op b pos) (sW r ta tb):=by
 intro pins s σ H Q I h
 exact wpAny_BinOp (rD ha hb I h fun v u s2 x y H2 I2 rx ry q=>ho pins s2 σ H2 x y v u Q I2 rx ry q)
theorem lW {op:UnaryOp} {r:V->Hp->VK->Prop} (ho:uS X (unaryOp op) r) (ha:PE X a ta):PE X (.UnaryOp op a pos) (xK r ta):=by
 intro pins s σ H Q I h
 exact UnaryOp_ (aH (ha pins s σ H _ I h) fun v s1 ⟨x,H1,I1,r1,q1⟩=>ho pins s1 σ H1 x v Q I1 r1 q1)
theorem om {f:Value->Value->Sem Value} {C:Int->Int->Prop} {g:Int->Int->Int}
  (rule:∀ (i j:Int) (t u:Tok) (s:Shared) (Q:Value->Shared->Prop) (E:Value->Shared->Prop),C i j->Q (.int (g i j) s.toks) { s with toks:=s.toks+1 }->wpAny (model X.prog X.w) X.A (f (.int i t) (.int j u)) Q E s) :
  de X f (rI C fun i j=>.int (g i j)):=by
 intro pins s σ H x y v u Q I rx ry h
 obtain⟨i,j,rfl,rfl,hc,q⟩:=h
 obtain⟨t,rfl⟩:=rx
 obtain⟨t',rfl⟩:=ry
 exact rule i j t t' s _ _ hc ⟨.int (g i j),H,I.tok _,⟨_,rfl⟩,q⟩
theorem uT {f:Value->Value->Sem Value} {g:Int->Int->Int}
  (rule:∀ (i j:Int) (t u:Tok) (s:Shared) (Q:Value->Shared->Prop) (E:Value->Shared->Prop),Q (.int (g i j) s.toks) { s with toks:=s.toks+1 }->wpAny (model X.prog X.w) X.A (f (.int i t) (.int j u)) Q E s) :
  de X f (oi fun i j=>.int (g i j)):=by
 intro pins s σ H x y v u Q I rx ry h
 obtain⟨i,j,rfl,rfl,q⟩:=h
 obtain⟨t,rfl⟩:=rx
 obtain⟨t',rfl⟩:=ry
 exact rule i j t t' s _ _ ⟨.int (g i j),H,I.tok _,⟨_,rfl⟩,q⟩
theorem uU {f:Value->Value->Sem Value} {g:Int->Int->Bool}
  (rule:∀ (i j:Int) (t u:Tok) (s:Shared) (Q:Value->Shared->Prop) (E:Value->Shared->Prop),Q (.bool (g i j)) s->wpAny (model X.prog X.w) X.A (f (.int i t) (.int j u)) Q E s) :
  de X f (oi fun i j=>.bl (g i j)):=by
 intro pins s σ H x y v u Q I rx ry h
 obtain⟨i,j,rfl,rfl,q⟩:=h
 obtain⟨t,rfl⟩:=rx
 obtain⟨t',rfl⟩:=ry
 exact rule i j t t' s _ _ ⟨.bl (g i j),H,I,rfl,q⟩
def xj (i j:Int):Prop:=0 < j/\j < 1073741824
def xk (i j:Int):Prop:=0<=j/\j<=1000000/\i.natAbs < 2 ^ 64
def rE (i j:Int):Prop:=(-(2 ^ 64) < i/\i < 2 ^ 64)\/(-(2 ^ 64) < j/\j < 2 ^ 64)
theorem rE.ok {i j:Int} (h:rE i j):IntMulOk i j:=by
 rcases h with ⟨h1,h2⟩ | ⟨h1,h2⟩
 ·exact .of_left (intBits_le_64 h1 h2)
 ·exact .of_right (intBits_le_64 h1 h2)
theorem df:de X (binaryOp .Add) (oi fun i j=>.int (i+j)):=uT fun _ _ _ _ _ _ _ q=>add_int q
theorem iY:de X (binaryOp .Sub) (oi fun i j=>.int (i - j)):=uT fun _ _ _ _ _ _ _ q=>sub_int q
theorem gy:de X (binaryOp .Mult) (rI rE fun i j=>.int (i * j)):=om fun _ _ _ _ _ _ _ hc q=>mul_int q hc.ok
theorem kN:de X (binaryOp .FloorDiv) (rI xj fun i j=>.int (i / j)):=om fun i j _ _ _ _ _ hc q=>by
 have h1:(0:Int) < j:=hc.1
 have h2:j < 1073741824:=hc.2
 exact floordiv_int (by omega) (by rw [Int.fdiv_eq_ediv_of_nonneg i (by omega)];exact q) (.inl (PyProof.noPylong_small (by omega)))
theorem fi:de X (binaryOp .Mod) (rI (fun _ j=>0 < j) fun i j=>.int (i % j)):=om fun i j _ _ _ _ _ hc q=>by
 have h1:(0:Int) < j:=hc
 exact mod_int' (by omega) (by rw [Int.fmod_eq_emod_of_nonneg i (by omega)];exact q)
theorem j7:de X (binaryOp .Pow) (rI xk fun i j=>.int (i ^ j.toNat)):=om fun _ _ _ _ _ _ _ hc q=>pow_int_small hc.1 hc.2.1 hc.2.2 q
theorem xM {f:Value->Sem Value} {g:Int->Int}
  (rule:∀ (i:Int) (t:Tok) (s:Shared) (Q:Value->Shared->Prop) (E:Value->Shared->Prop),Q (.int (g i) s.toks) { s with toks:=s.toks+1 }->wpAny (model X.prog X.w) X.A (f (.int i t)) Q E s) :
  uS X f (rU fun i=>.int (g i)):=by
 intro pins s σ H x v Q I rx h
 obtain⟨i,rfl,q⟩:=h
 obtain⟨t,rfl⟩:=rx
 exact rule i t s _ _ ⟨.int (g i),H,I.tok _,⟨_,rfl⟩,q⟩
theorem j8:uS X (unaryOp .USub) (rU fun i=>.int (-i)):=xM fun _ _ _ _ _ q=>neg_int q
end
def uV:V->V->Bool
 | .ba,.ba=>true | .ba,.int _=>true | .int _,.ba=>true | .ba,.bl _=>true | .bl _,.ba=>true | .ba,.str _=>true | .str _,.ba=>true
 | .int _,.int _=>true | .bl _,.bl _=>true | .str _,.str _=>true | .gQ _,.gQ _=>true
 | .int _,.str _=>true | .str _,.int _=>true | .bl _,.str _=>true | .str _,.bl _=>true
 | _,_=>false
def xN:R2:=fun x y H Q=>uV x y=true/\Q (.bl (decide (x=y))) H
def xO:R2:=fun x y H Q=>uV x y=true/\Q (.bl (!decide (x=y))) H
theorem oo {i j:Int}:decide (V.int i=V.int j)=(i == j):=by
 rw [Bool.eq_iff_iff]
 simp
theorem qc {i j:Bool}:decide (V.bl i=V.bl j)=(i == j):=by
 rw [Bool.eq_iff_iff]
 simp
theorem oq {i j:Str}:decide (V.str i=V.str j)=(i == j):=by
 rw [Bool.eq_iff_iff]
 simp
theorem ou {i j:Array UInt8}:decide (V.gQ i=V.gQ j)=(i.toList == j.toList):=by
 rw [Bool.eq_iff_iff]
 cases i
 cases j
 simp
section
variable {X:Cx} {a b c:Expr} {ta tb tc:TE} {pos:Pos}
theorem aW {pins:List (Addr × Obj)} {σ : St} {H:Hp} {s:Shared} {Q:VK} {k k':Bool} (I:Inv X pins σ H s) (q:Q (.bl k) H) (e:k=k'):EP X pins σ Q (.bool k') s:=by
 subst e
 exact⟨.bl k,H,I,rfl,q⟩
theorem cP:de X (compareOp .Eq) xN:=by
 intro pins s σ H x y v u Q I rx ry h
 obtain⟨hs,q⟩:=h
 cases x with
 | ba =>
  cases rx
  cases y with
  | ba=>cases ry;exact PySem.EqNone.eq_none_none (aW I q (by simp))
  | bl j=>cases ry;exact PySem.EqNone.eq_none_bool (aW I q (by simp))
  | int j=>obtain⟨t',rfl⟩:=ry;exact PySem.EqNone.eq_none_int (aW I q (by simp))
  | str j=>obtain⟨t',rfl⟩:=ry;exact PySem.EqNone.eq_none_str (aW I q (by simp))
  | _=>exact absurd (show false=true from hs) Bool.false_ne_true
 | bl i =>
  cases rx
  cases y with
  | ba=>cases ry;exact PySem.EqNone.eq_bool_none (aW I q (by simp))
  | bl j=>cases ry;exact eq_bool (aW I q qc)
  | str j=>obtain⟨t',rfl⟩:=ry;exact PySem.EqMixed.eq_bool_str (aW I q (by simp))
  | _=>exact absurd (show false=true from hs) Bool.false_ne_true
 | int i =>
  obtain⟨t,rfl⟩:=rx
  cases y with
  | ba=>cases ry;exact PySem.EqNone.eq_int_none (aW I q (by simp))
  | int j=>obtain⟨t',rfl⟩:=ry;exact eq_int (aW I q oo)
  | str j=>obtain⟨t',rfl⟩:=ry;exact PySem.EqMixed.eq_int_str (aW I q (by simp))
  | _=>exact absurd (show false=true from hs) Bool.false_ne_true
 | str i =>
  obtain⟨t,rfl⟩:=rx
  cases y with
  | ba=>cases ry;exact PySem.EqNone.eq_str_none (aW I q (by simp))
  | bl j=>cases ry;exact PySem.EqMixed.eq_str_bool (aW I q (by simp))
  | int j=>obtain⟨t',rfl⟩:=ry;exact PySem.EqMixed.eq_str_int (aW I q (by simp))
  | str j=>obtain⟨t',rfl⟩:=ry;exact eq_str (aW I q oq)
  | _=>exact absurd (show false=true from hs) Bool.false_ne_true
 | gQ i =>
  obtain⟨t,rfl⟩:=rx
  cases y with
  | gQ j=>obtain⟨t',rfl⟩:=ry;exact PySem.W.eq_bytes (aW I q ou)
  | _=>exact absurd (show false=true from hs) Bool.false_ne_true
 | _=>cases y <;> exact absurd (show false=true from hs) Bool.false_ne_true
theorem o3:de X (compareOp .NotEq) xO:=by
 intro pins s σ H x y v u Q I rx ry h
 obtain⟨hs,q⟩:=h
 cases x with
 | ba =>
  cases rx
  cases y with
  | ba=>cases ry;exact PySem.EqNone.ne_none_none (aW I q (by simp))
  | bl j=>cases ry;exact PySem.EqNone.ne_none_bool (aW I q (by simp))
  | int j=>obtain⟨t',rfl⟩:=ry;exact PySem.EqNone.ne_none_int (aW I q (by simp))
  | str j=>obtain⟨t',rfl⟩:=ry;exact PySem.EqNone.ne_none_str (aW I q (by simp))
  | _=>exact absurd (show false=true from hs) Bool.false_ne_true
 | bl i =>
  cases rx
  cases y with
  | ba=>cases ry;exact PySem.EqNone.ne_bool_none (aW I q (by simp))
  | bl j=>cases ry;exact ne_bool (aW I q (congrArg not qc))
  | str j=>obtain⟨t',rfl⟩:=ry;exact PySem.EqMixed.ne_bool_str (aW I q (by simp))
  | _=>exact absurd (show false=true from hs) Bool.false_ne_true
 | int i =>
  obtain⟨t,rfl⟩:=rx
  cases y with
  | ba=>cases ry;exact PySem.EqNone.ne_int_none (aW I q (by simp))
  | int j=>obtain⟨t',rfl⟩:=ry;exact ne_int (aW I q (congrArg not oo))
  | str j=>obtain⟨t',rfl⟩:=ry;exact PySem.EqMixed.ne_int_str (aW I q (by simp))
  | _=>exact absurd (show false=true from hs) Bool.false_ne_true
 | str i =>
  obtain⟨t,rfl⟩:=rx
  cases y with
  | ba=>cases ry;exact PySem.EqNone.ne_str_none (aW I q (by simp))
  | bl j=>cases ry;exact PySem.EqMixed.ne_str_bool (aW I q (by simp))
  | int j=>obtain⟨t',rfl⟩:=ry;exact PySem.EqMixed.ne_str_int (aW I q (by simp))
  | str j=>obtain⟨t',rfl⟩:=ry;exact ne_str (aW I q (congrArg not oq))
  | _=>exact absurd (show false=true from hs) Bool.false_ne_true
 | gQ i =>
  obtain⟨t,rfl⟩:=rx
  cases y with
  | gQ j=>obtain⟨t',rfl⟩:=ry;exact PySem.W.ne_bytes (aW I q (congrArg not ou))
  | _=>exact absurd (show false=true from hs) Bool.false_ne_true
 | _=>cases y <;> exact absurd (show false=true from hs) Bool.false_ne_true
theorem o4:de X (compareOp .Lt) (oi fun i j=>.bl (decide (i < j))):=uU fun _ _ _ _ _ _ _ q=>lt_int q
theorem we:de X (compareOp .Gt) (oi fun i j=>.bl (decide (j < i))):=uU fun _ _ _ _ _ _ _ q=>gt_int q
theorem bc (b:Expr) {op:CmpOp} (h:op ≠ .In:=by decide) (h2:op ≠ .NotIn:=by decide):behindInMarks op b=false:=by
 have e1:(op == CmpOp.In)=false:=by cases op <;> first | rfl | exact absurd rfl h
 have e2:(op == CmpOp.NotIn)=false:=by cases op <;> first | rfl | exact absurd rfl h2
 cases b <;> simp [behindInMarks,e1,e2]
theorem jm {op:CmpOp} {r:R2} (ho:de X (compareOp op) r) (ha:PE X a ta) (hb:PE X b tb) (hm:behindInMarks op b=false):PE X (.Compare a [op] [b] pos) (sW r ta tb):=by
 intro pins s σ H Q I h
 exact wpAny_Compare1 (rD ha hb I h fun v u s2 x y H2 I2 rx ry q=>ho pins s2 σ H2 x y v u Q I2 rx ry q) hm
def wg (t:TE):TT:=fun σ H Q=>t σ H fun x H'=>∃ k,x=.bl k/\Q k H'
theorem aL {op:CmpOp} {r:R2} (ho:de X (compareOp op) r) (ha:PE X a ta) (hb:PE X b tb) (hm:behindInMarks op b=false):PT X (.Compare a [op] [b] pos) (wg (sW r ta tb)):=by
 intro pins s σ H Q I h
 refine wpAny_isTrue_Compare1 (aH (ha pins s σ H _ I h) fun v s1 ⟨x,H1,I1,r1,q1⟩=>aH (hb pins s1 σ H1 _ I1 q1) fun u s2 ⟨y,H2,I2,r2,q2⟩ =>
  aH (ho pins s2 σ H2 x y v u _ I2 r1 r2 q2) fun c s3 ⟨z,H3,I3,r3,k,e,q3⟩=>?_) hm
 subst e
 cases r3
 exact wpAny_truthy_bool ⟨H3,I3,q3⟩
def uW (K:PySem.W.Frag) (x:V) (H:Hp) (k:Bool):Prop :=
 match x with
 | .ba=>k=false
 | .bl b=>k=b
 | .int i=>k=(i != 0)
 | .str y=>y.length<=sizeLine/\k=((y.length:Int) != 0)
 | .gQ y=>y.size<=sizeLine/\k=((y.size:Int) != 0)
 | .ref p=>(∃ xs,av K H p xs/\k = !xs.isEmpty)\/(∃ xs,ar K H p xs/\k = !xs.isEmpty)\/∃ kvs,H p=some (.dK kvs)/\k = !kvs.isEmpty
 | _=>False
theorem o5 {κ : Type} {kvs:List (κ × V)} {vs:List (κ × Value)} (r:KV kvs vs):(!vs.isEmpty) = !kvs.isEmpty:=by
 cases r <;> rfl
theorem j9 {xs:List V} {its:List Value} (r:Vals xs its):(!its.toArray.isEmpty) = !xs.isEmpty:=by
 cases r <;> simp
theorem hV:(sizeLine:Nat) < 2 ^ 63:=by rw [sizeLine_eq];decide
theorem uX:xi X (fun x H Q=>∃ k,uW X.K x H k/\Q k H):=by
 intro pins s σ H x v Q I rx h
 obtain⟨k,e,q⟩:=h
 have hl:=hV
 have hs:sizeLine=16777216:=sizeLine_eq
 cases x with
 | ba =>
  cases rx
  have e':k=false:=e
  subst e'
  exact truthy_none ⟨H,I,q⟩
 | bl b =>
  cases rx
  have e':k=b:=e
  subst e'
  exact wpAny_truthy_bool ⟨H,I,q⟩
 | int i =>
  obtain⟨t,rfl⟩:=rx
  have e':k=(i != 0):=e
  subst e'
  exact PySem.P.truthy_int ⟨H,I,q⟩
 | str y =>
  obtain⟨t,rfl⟩:=rx
  obtain⟨hy,e'⟩:y.length<=sizeLine/\k=((y.length:Int) != 0):=e
  subst e'
  exact PySem.P.truthy_str (by omega) ⟨H,I.tok _,q⟩
 | gQ y =>
  obtain⟨t,rfl⟩:=rx
  obtain⟨hy,e'⟩:y.size<=sizeLine/\k=((y.size:Int) != 0):=e
  subst e'
  exact PySem.W.truthy_bytes (by omega) ⟨H,I.tok _,q⟩
 | ref p =>
  cases rx
  have e':(∃ xs,av X.K H p xs/\k = !xs.isEmpty)\/(∃ xs,ar X.K H p xs/\k = !xs.isEmpty)\/∃ kvs,H p=some (.dK kvs)/\k = !kvs.isEmpty:=e
  rcases e' with ⟨xs,hx,e'⟩ | ⟨xs,hx,e'⟩ | ⟨kvs,hx,e'⟩
  ·subst e'
   obtain⟨its,r,pl,hz⟩:=I.list hx
   have hlen:=r.length
   exact wpAny_truthy_list pl.isList (by simp only [List.size_toArray];omega) ⟨H,I.tok _,by rw [j9 r];exact q⟩
  ·subst e'
   obtain⟨its,r,pl,hz⟩:=I.tuple hx
   have hlen:=r.length
   exact truthy_tuple pl (by simp only [List.size_toArray];omega) ⟨H,I.tok _,by rw [j9 r];exact q⟩
  ·subst e'
   obtain⟨hz,hS,vs,r,m⟩:kvs.length<=sizeLine/\(p == sysModules)=false/\∃ vs,KV kvs vs/\s.heap.DictOf (ax X.prog X.w) p vs:=I.aA p _ hx
   have hlen:kvs.length=vs.length:=Paired.length r
   exact wpAny_truthy_dict hS m (by omega) ⟨H,I.tok _,by rw [o5 r];exact q⟩
 | _=>exact (show False from e).elim
theorem rF (ha:PE X a ta) (he:∀ whole,isTrue a X.env whole=(do let v <-whole;standAt a.pos;holding [v] (truthy v))) :
  PT X a (fun σ H Q=>ta σ H fun x H'=>∃ k,uW X.K x H' k/\Q k H'):=by
 intro pins s σ H Q I h
 exact isTrue_plain (aH (ha pins s σ H _ I h) fun v s1 ⟨x,H1,I1,r1,q1⟩=>uX pins s1 σ H1 x v Q I1 r1 q1) (he _)
theorem o6:de X (binaryOp .Add) (fun x y H Q=>∃ i j,x=.str i/\y=.str j/\i.length+j.length<=sizeLine/\Q (.str (i++j)) H):=by
 intro pins s σ H x y v u Q I rx ry h
 obtain⟨i,j,rfl,rfl,hz,q⟩:=h
 obtain⟨t,rfl⟩:=rx
 obtain⟨t',rfl⟩:=ry
 exact add_str (fun t' tk=>⟨.str (i++j),H,I.tok _,⟨_,rfl⟩,q⟩) hz
theorem vals1 {x:V} {us:List Value} (r:Vals [x] us):∃ u,us = [u]/\RelV x u:=by
 cases r with
 | cons r1 r2=>cases r2;exact⟨_,rfl,r1⟩
theorem vals2 {x y:V} {us:List Value} (r:Vals [x,y] us):∃ u w',us = [u,w']/\RelV x u/\RelV y w':=by
 cases r with
 | cons r1 r2 =>
  cases r2 with
  | cons r3 r4=>cases r4;exact⟨_,_,rfl,r1,r3⟩
theorem qd (hc:X.calm=true):fh X (.builtin "min") (fun xs H Q=>∃ i j,xs = [.int i,.int j]/\Q (.int (if j < i then j else i)) H):=by
 intro pins s σ H xs us Q I r h
 obtain⟨i,j,rfl,q⟩:=h
 obtain⟨u,w',rfl,⟨t,rfl⟩,⟨t',rfl⟩⟩:=vals2 r
 refine min_two_ints (I.ok.hd hc) fun h' tk k=>⟨_,H,I.kept k,?_,q⟩
 by_cases hj:j < i
 ·rw [if_pos hj,if_pos hj];exact⟨_,rfl⟩
 ·rw [if_neg hj,if_neg hj];exact⟨_,rfl⟩
theorem lB:fh X (.type "int") (fun xs H Q=>(∃ i,xs = [.int i]/\Q (.int i) H)\/∃ k,xs = [.bl k]/\Q (.int (if k then 1 else 0)) H):=by
 intro pins s σ H xs us Q I r h
 rcases h with ⟨i,rfl,q⟩ | ⟨k,rfl,q⟩
 ·obtain⟨u,rfl,t,rfl⟩:=vals1 r
  exact call_int_int ⟨.int i,H,I,⟨_,rfl⟩,q⟩
 ·obtain⟨u,rfl,r1⟩:=vals1 r
  cases r1
  exact call_int_bool ⟨.int (if k then 1 else 0),H,I.tok _,⟨_,rfl⟩,q⟩
end
section
variable {prog:Program} {w:World} {A:Around} {E:Value->Shared->Prop} {s:Shared} {K:PySem.W.Frag} {x dx C f:Addr} {mA:Str->Option Value} {name:Str} {v:Value}
end
section
variable {P:Program} {w:World} {H H':Hp} {h h':Heap} {a C dx:Addr} {fs fs':List (Str × V)}
end
section
variable {X:Cx} {pins:List (Addr × Obj)} {σ : St} {H:Hp} {s:Shared} {a C dx:Addr} {fs:List (Str × V)} {f:Str} {v:V} {A:Around} {E:Value->Shared->Prop}
end
section
variable {X:Cx} {o e value:Expr} {f:Str} {pos pos' tpos:Pos} {ta tv:TE}
end
section
variable {X:Cx} {pins:List (Addr × Obj)} {σ : St} {H:Hp} {s:Shared} {A:Around} {E:Value->Shared->Prop} {Q:Value->Shared->Prop} {c:Value} {b:Bool}
end
structure dB (k:Nat) (A:Around):Prop where
 hd:A.handled=none
 dp:A.depth+3 * k+5 < recursionLimit
 un:A.units+16 * k+200 < cLine
theorem dB.mono {j k:Nat} {A:Around} (r:dB k A) (h:j<=k):dB j A:=⟨r.hd,by have:=r.dp;omega,by have:=r.un;omega⟩
theorem dB.deeper {k:Nat} {A:Around} (r:dB (k+1) A) (env:Env):dB k (A.deeper env) :=
 ⟨r.hd,by have:=r.dp;show A.depth+1+3 * k+5 < _;omega,by have:=r.un;show A.units+3+16 * k+200 < _;omega⟩
theorem dB.depth {k:Nat} {A:Around} (r:dB k A):A.depth < recursionLimit:=by have:=r.dp;omega
theorem dB.units {k:Nat} {A:Around} (r:dB k A):A.units+64 < cLine:=by have:=r.un;omega
def xl:TA:=fun _ H Q=>Q [] H
def wj (ta:TE) (tr:TA):TA:=fun σ H Q=>ta σ H fun x H1=>tr σ H1 fun xs H2=>Q (x :: xs) H2
section
variable {X:Cx} {e:Expr} {es:List Expr} {te:TE} {t:TA} {pos:Pos}
theorem ab:PA X [] xl:=fun _ _ _ _ H Q I h=>Calls.spliced_nil ⟨[],H,I,.nil,h⟩
theorem U (ha:PE X e te) (hr:PA X es t) (hs:starEach (e :: es) X.env=(false,eval e X.env) :: starEach es X.env:=by rfl):PA X (e :: es) (wj te t):=by
 intro pos pins s σ H Q I h
 rw [hs]
 show wpAny _ _ (spliced ((false,eval e X.env) :: backTo pos (starEach es X.env))) _ _ s
 refine Calls.spliced_cons (aH (ha pins s σ H _ I h) fun u s1 ⟨x,H1,I1,r1,q1⟩=>?_)
 exact aH (hr pos pins s1 σ H1 _ I1 q1) fun us s2 ⟨xs,H2,I2,r2,q2⟩=>⟨x :: xs,H2,I2,.cons r1 r2,q2⟩
def xm (t:TA):TE:=fun σ H Q=>t σ H fun xs H1=>xs.length<=sizeLine/\∀ p,H1 p=none->Q (.ref p) (upd H1 p (.tup xs))
def xn (t:TA):TE:=fun σ H Q=>t σ H fun xs H1=>xs.length<=sizeLine/\∀ p,H1 p=none->Q (.ref p) (upd H1 p (.lst xs))
theorem bY {x1} (h:PA X es t):PE X (.Tuple es x1 pos) (xm t):=by
 intro pins s σ H Q I hq
 refine wpAny_Tuple_spliced (aH (h pos pins s σ H _ I hq) fun us s1 ⟨xs,H1,I1,r,z,q⟩=>⟨by rw [<-r.length];exact z,?_⟩)
 have hf:H1 s1.heap.objs.size=none:=I1.aA.fresh (Nat.le_refl _)
 refine⟨.ref s1.heap.objs.size,upd H1 s1.heap.objs.size (.tup xs),I1.laid (t':=s1.toks) (fun b u e=>Heap.get?_push_of_some _ e) (Nat.le_refl _) ?_,rfl,q _ hf⟩
 exact⟨z,us,r,⟨_,Heap.get?_push_size _ rfl,rfl,_,rfl,rfl⟩⟩
theorem bE (h:PA X es t):PE X (.List es pos) (xn t):=by
 intro pins s σ H Q I hq
 refine wpAny_List_spliced (aH (h pos pins s σ H _ I hq) fun us s1 ⟨xs,H1,I1,r,z,q⟩=>⟨by rw [<-r.length];exact z,?_⟩)
 have hf:H1 s1.heap.objs.size=none:=I1.aA.fresh (Nat.le_refl _)
 refine⟨.ref s1.heap.objs.size,upd H1 s1.heap.objs.size (.lst xs),I1.laid (t':=s1.toks) (fun b u e=>Heap.get?_push_of_some _ e) (Nat.le_refl _) ?_,rfl,q _ hf⟩
 exact⟨z,us,0,r,Heap.get?_push_size _ rfl⟩
end
abbrev Sp:=List V->Hp->VK->XK->Prop
abbrev iZ:=List Env->Hp->Shared->XK->Value->Shared->Prop
structure o7 (P:Program) (w:World) (K:PySem.W.Frag) (mg:Str->Option Value) (base:Heap) (A:Around) (outer:List Env) (s:Shared) (H:Hp):Prop where
 frames:A.frames=some outer
 mod:Mod K mg base
 bs:∀ b o,base.get? b=some o->s.heap.get? b=some o/\H b=none
 lu:base.objs.size<=s.heap.objs.size
 gr:s.heap.FunFrames base outer
 nY:∀ b ∈ iV outer,H b=none
 aA:cH P w H s.heap
 bare:AllBare s.gens
def CE (outer:List Env) (P:Program) (w:World) (H:Hp) (s:Shared) (Q:VK) (u:Value) (s':Shared):Prop :=
 ∃ v H',s'.os=s.os/\AllBare s'.gens/\Un (iV outer) [] H H' s.heap s'.heap/\cH P w H' s'.heap/\RelV v u/\Q v H'
def CR (CX:iZ) (outer:List Env) (P:Program) (w:World) (H:Hp) (s:Shared) (Q:VK) (E:XK) (r:Result) (s':Shared):Prop :=
 match r with
 | .ok (.ret u)=>CE outer P w H s Q u s'
 | .ok _=>False
 | .error e=>CX outer H s E e s'
structure bI (P:Program) (w:World) (K:PySem.W.Frag) (mg:Str->Option Value) (base:Heap) (CX:iZ) (k:Nat) (f:Addr) (fd:FuncData) (ps:List Str) (sp:Sp):Prop where
 len:∀ vs H Q E,sp vs H Q E->vs.length=ps.length
 run:∀ (A:Around) (outer:List Env) (s:Shared) (H:Hp) (args:Args) (us:List Value) (vs:List V) (Q:VK) (E:XK),dB k A->o7 P w K mg base A outer s H->BindsTo s fd args (ps.zip us)->Vals vs us->sp vs H Q E ->
  codeAny (model P w) A (.call (.ref f) args) (CR CX outer P w H s Q E) s
section
variable {X:Cx} {pins:List (Addr × Obj)} {σ : St} {H:Hp} {s s':Shared}
theorem Inv.xo (I:Inv X pins σ H s):o7 X.prog X.w X.K X.mg X.base X.A X.stack s H :=
 ⟨I.ok.frames,I.ok.mod,I.bs,Nat.le_trans I.ok.lu I.sz,I.stack,I.nZ,I.aA,I.bare⟩
theorem Inv.after {Q:VK} {u:Value} (I:Inv X pins σ H s) (h:CE X.stack X.prog X.w H s Q u s'):EP X pins σ Q u s':=by
 obtain⟨v,H',os,bare,un,aA,r,q⟩:=h
 obtain⟨hh,g,d,t,os'⟩:=s'
 obtain rfl:os' = s.os:=os
 exact⟨v,H',I.call (h':=hh) (g':=g) (d':=d) (t':=t) (ch:=[]) un aA bare (fun b z=>absurd z (by simp)),r,q⟩
end
def sX (sp:Sp) (dvs:List V) (E:XK) (t:TA):TE:=fun σ H Q=>t σ H fun vs H1=>sp (vs++dvs) H1 Q E
def Binds (K:PySem.W.Frag) (fd:FuncData) (ps:List Str) (ds:List Value):Prop :=
 ∀ (s:Shared) (us:List Value),K.In s.heap->(us++ds).length=ps.length->BindsTo s fd ⟨us,[]⟩ (ps.zip (us++ds))
theorem Binds.all {K:PySem.W.Frag} {fd:FuncData} {ps:List Str} (h:∀ us:List Value,us.length=ps.length->bindArgs fd ⟨us,[]⟩=pure (ps.zip us)):Binds K fd ps []:=fun s us _ hl=>by
 rw [List.append_nil] at hl ⊢
 exact .of_eq (h us hl)
def Passes (CX:iZ) (X:Cx) (E:XK):Prop:=∀ (pins:List (Addr × Obj)) (σ : St) (H:Hp) (s:Shared) (e:Value) (s':Shared),Inv X pins σ H s->CX X.stack H s E e s'->X.xe e s'
section
variable {X:Cx} {CX:iZ} {k:Nat} {f C:Addr} {fd:FuncData} {ps:List Str} {sp:Sp} {dvs:List V} {ds:List Value} {E:XK} {x m:Str} {p pos apos:Pos} {e o:Expr} {es:List Expr} {ta:TE} {t:TA}
theorem uY {pins:List (Addr × Obj)} {σ : St} {H:Hp} {s:Shared} {Q:VK} {us:List Value} {vs:List V} (F:bI X.prog X.w X.K X.mg X.base CX k f fd ps sp) (hr:dB k X.A) (hb:Binds X.K fd ps ds) (hd:Vals dvs ds) (hx:Passes CX X E)
  (I:Inv X pins σ H s) (r:Vals vs us) (h:sp (vs++dvs) H Q E):wpAny (model X.prog X.w) X.A (call (.ref f) us) (EP X pins σ Q) X.xe s:=by
 have r2:Vals (vs++dvs) (us++ds):=r.append hd
 have hl:(us++ds).length=ps.length:=by rw [<-r2.length];exact F.len _ _ _ _ h
 refine wpAny_call (codeAny_mono (F.run X.A X.stack s H ⟨us,[]⟩ (us++ds) (vs++dvs) Q E hr I.xo (hb s us I.md hl) r2 h) fun r s' hq=>?_)
 cases r with
 | error e=>exact hx pins σ H s e s' I hq
 | ok fl =>
  cases fl with
  | ret u=>exact I.after hq
  | next=>exact False.elim hq
  | brk=>exact False.elim hq
  | cont=>exact False.elim hq
theorem tK (F:bI X.prog X.w X.K X.mg X.base CX k f fd ps sp) (hr:dB k X.A) (hg:Gl X x) (hm:X.mg x=some (.ref f)) (hk:PySem.W.keepIn X.K (.ref f)=true) (hb:Binds X.K fd ps ds) (hd:Vals dvs ds) (hx:Passes CX X E)
  (ha:PA X (e :: es) t) (hdb:(x == ("__debug__" : Str))=false:=by decide) (he:starEach (e :: es) X.env=(false,eval e X.env) :: starEach es X.env:=by rfl) (hpl:(backTo pos (starEach es X.env)).any (·.1)=false:=by rfl) :
  PE X (.Call (.Name x p) (e :: es) [] pos) (sX sp dvs E t):=by
 intro pins s σ H Q I h
 refine wpAny_Call_Name_kw (n5 I hg hm ?_ hdb)
 refine PySem.W.callWith_K (h₀:=X.base) I.ok.mod.uK hk (aH (ha pos pins s σ H _ I h) fun us s1 ⟨vs,H1,I1,r,q⟩=>⟨I1.md,?_⟩) he hpl
 exact uY F hr hb hd hx I1 r q
end
section
variable {X:Cx} {CX:iZ} {k:Nat} {f C:Addr} {fd:FuncData} {ps ks:List Str} {sp:Sp} {E:XK} {x m:Str} {p pos apos kpos:Pos} {e o:Expr} {es:List Expr} {kws:List Keyword} {te ta:TE} {t tk:TA} {nm:Option Str}
variable {g:List Value->List Value->List Value} {gV:List V->List V->List V}
end
structure aX (N P:List Str) (sc:Scope):Prop where
 kind:sc.kind=.function
 co:sc.isCoroutine=false
 gen:sc.isGenerator=false
 nd:N.Nodup
 pre:N.take P.length=P
 par:∀ x ∈ P,sc.names.lookup x=some .local\/sc.names.lookup x=some .cell
 uZ:∀ y ∈ sc.names,y.2 ≠ .free
theorem lC {kindOf:Str->Option NameKind} {x:Str}:∀ {binds:List (Str × Value)} {m:Str->Option Value},(∀ v,(x,v) ∉ binds)->bindL kindOf binds m x=m x
 | [],_,_=>rfl
 | (n,v) :: r,m,h=>by
  unfold bindL
  rw [lC fun w hw=>h w (List.mem_cons_of_mem _ hw)]
  split
  ·have:x ≠ n:=by rintro rfl;exact h v List.mem_cons_self
   simp [this]
  ·rfl
theorem lD {kindOf:Str->Option NameKind} {x:Str}:∀ {binds:List (Str × Value)} {m:Str->Option Value},(∀ v,(x,v) ∉ binds)->bindC kindOf binds m x=m x
 | [],_,_=>rfl
 | (n,v) :: r,m,h=>by
  unfold bindC
  rw [lD fun w hw=>h w (List.mem_cons_of_mem _ hw)]
  split
  ·rfl
  ·have:x ≠ n:=by rintro rfl;exact h v List.mem_cons_self
   simp [this]
theorem lF {kindOf:Str->Option NameKind} {x:Str} {v:Value}:∀ {P:List Str} {vs:List Value} {i:Nat} {m:Str->Option Value},P.Nodup->P[i]? = some x->vs[i]? = some v->kindOf x=some .local ->
  bindL kindOf (P.zip vs) m x=some v
 | [],_,_,_,_,h,_,_=>by simp at h
 | _ :: _,[],_,_,_,_,h,_=>by simp at h
 | p :: P,w :: vs,0,m,nd,h1,h2,hk=>by
  simp at h1 h2;subst h1;subst h2
  show bindL kindOf ((p,w) :: P.zip vs) m p=_
  unfold bindL
  rw [lC fun v hv=>(List.nodup_cons.mp nd).1 (List.of_mem_zip hv).1,if_pos hk]
  simp
 | p :: P,w :: vs,i+1,m,nd,h1,h2,hk=>by
  show bindL kindOf ((p,w) :: P.zip vs) m x=_
  unfold bindL
  exact lF (i:=i) (List.nodup_cons.mp nd).2 (by simpa using h1) (by simpa using h2) hk
theorem lG {kindOf:Str->Option NameKind} {x:Str} {v:Value}:∀ {P:List Str} {vs:List Value} {i:Nat} {m:Str->Option Value},P.Nodup->P[i]? = some x->vs[i]? = some v->kindOf x ≠ some .local ->
  bindC kindOf (P.zip vs) m x=some v
 | [],_,_,_,_,h,_,_=>by simp at h
 | _ :: _,[],_,_,_,_,h,_=>by simp at h
 | p :: P,w :: vs,0,m,nd,h1,h2,hk=>by
  simp at h1 h2;subst h1;subst h2
  show bindC kindOf ((p,w) :: P.zip vs) m p=_
  unfold bindC
  rw [lD fun v hv=>(List.nodup_cons.mp nd).1 (List.of_mem_zip hv).1,if_neg hk]
  simp
 | p :: P,w :: vs,i+1,m,nd,h1,h2,hk=>by
  show bindC kindOf ((p,w) :: P.zip vs) m x=_
  unfold bindC
  exact lG (i:=i) (List.nodup_cons.mp nd).2 (by simpa using h1) (by simpa using h2) hk
def start (N:List Str) (vs:List V):St:=vs.map some++List.replicate (N.length - vs.length) none
def kO (CX:iZ) (P:Program) (w:World) (K:PySem.W.Frag) (mg:Str->Option Value) (base:Heap) (N:List Str) (qual:Str) (scope:Scope) (f:Addr) (cd:Value) (A:Around) (outer:List Env) (s:Shared) (H:Hp) (E:XK):Cx where
 prog:=P
 w:=w
 K:=K
 mg:=mg
 base:=base
 A:=A.deeper (envOfC qual scope s.heap.objs.size f cd)
 N:=N
 cB:=s
 il:=H
 env:=envOfC qual scope s.heap.objs.size f cd
 outer:=outer
 stack:=envOfC qual scope s.heap.objs.size f cd :: outer
 ex:=[]
 calm:=true
 fn:=fun _=>true
 pn:=[]
 xe:=fun e s'=>wpAny (model P w) (A.deeper (envOfC qual scope s.heap.objs.size f cd)) (leaving (envOfC qual scope s.heap.objs.size f cd) e) (fun _ s''=>CX outer H s E e s'') (fun e' s''=>CX outer H s E e' s'') s'
theorem mw {sc:Scope} {n:Nat} {x:Str} (h:sc.names.lookup x=some .cell):∃ c,(cellsFrom n sc.names []).lookup x=some c:=by
 have q:=PySem.W.cellsFrom_some sc.names n [] (.inl h)
 exact Option.isSome_iff_exists.mp q
theorem qe {CX:iZ} {P:Program} {w:World} {K:PySem.W.Frag} {mg:Str->Option Value} {base:Heap} {N ps:List Str} {qual:Str} {scope:Scope} {f:Addr} {cd:Value} {A:Around} {outer:List Env} {s s1:Shared} {H:Hp} {E:XK} {us:List Value} {vs:List V}
  (S:aX N ps scope) (hd:A.handled=none) (e0:o7 P w K mg base A outer s H) (hl:vs.length=ps.length) (r:Vals vs us)
  (x:InCallC s s.heap.objs.size (bindL (envOfC qual scope s.heap.objs.size f cd).kindOf (ps.zip us) fun _=>none) (cellsFrom (s.heap.objs.size+1) scope.names []) (bindC (envOfC qual scope s.heap.objs.size f cd).kindOf (ps.zip us) fun _=>none) s1) :
  Inv (kO CX P w K mg base N qual scope f cd A outer s H E) [] (start N vs) H s1:=by
 have hpl:ps.length<=N.length:=by have:=congrArg List.length S.pre;rw [List.length_take] at this;omega
 obtain⟨h1,tk,rfl,hk⟩:=x.done
 have noA:∀ b:Addr,b ∉ (kO CX P w K mg base N qual scope f cd A outer s H E).ex:=fun b z=>absurd (show b ∈ ([]:List Addr) from z) (by simp)
 refine⟨⟨e0.mod,S.kind,rfl,rfl,Nat.le_refl _,fun y z c h1 h2=>?_,fun y hy=>?_,fun y c _ h=>?_,fun _=>hd,Around.frames_deeper e0.frames,.inr ⟨rfl,rfl⟩,fun b z=>absurd z (noA b),e0.bs,e0.lu,fun b _ _=>noA b,fun b z=>absurd z (noA b),e0.gr,e0.nY⟩,
  rfl,e0.bare,Un.kept hk,⟨_,x.toInCall.ns,fun i y v h1 h2 h3=>?_⟩,fun y c h=>⟨_,x.cell y c h⟩,e0.aA.fresh (Nat.le_refl _),fun y c h=>?_,fun p hp=>absurd (show p ∈ ([]:List (Addr × Obj)) from hp) (by simp),e0.aA.kept hk,?_⟩
 ·exact name_of_addr x.apart (PySem.mem_of_lookup h1) (PySem.mem_of_lookup h2)
 ·have hy:scope.names.lookup y=some .cell\/scope.names.lookup y=some .free:=hy
  rcases hy with hy | hy
  ·exact mw hy
  ·exact absurd rfl (S.uZ _ (PySem.mem_of_lookup hy))
 ·exact Nat.le_of_lt (x.above y c (PySem.mem_of_lookup h))
 ·have hi:i < vs.length:=by
   unfold start at h2
   by_cases hi:i < vs.length
   ·exact hi
   ·rw [List.getElem?_append_right (by simpa using hi)] at h2
    rw [List.getElem?_replicate] at h2
    split at h2 <;> cases h2
  have ha:vs[i]? = some v:=by
   unfold start at h2
   rw [List.getElem?_append_left (by simpa using hi),List.getElem?_map] at h2
   cases e:vs[i]? with
   | none=>rw [e] at h2;cases h2
   | some a=>rw [e] at h2;cases h2;rfl
  obtain⟨u,hu,rv⟩:=r.get ha
  have hp:ps[i]? = some y:=by
   rw [<-S.pre,List.getElem?_take_of_lt (by omega)];exact h1
  have ndP:ps.Nodup:=by rw [<-S.pre];exact S.nd.sublist (List.take_sublist _ _)
  refine⟨u,rv,?_⟩
  rcases S.par y (List.mem_of_getElem? hp) with k | k
  ·exact .inl ⟨k,lF ndP hp hu k⟩
  ·obtain⟨c,e⟩:=mw (n:=s.heap.objs.size+1) k
   refine .inr ⟨.inl k,c,e,?_⟩
   have q:=x.cell y c e
   rw [lG ndP hp hu (by show scope.names.lookup y ≠ _;rw [k];decide)] at q
   exact q
 ·exact e0.aA.fresh (Nat.le_of_lt (x.above y c (PySem.mem_of_lookup h)))
 ·unfold start
  show _=N.length
  rw [List.length_append,List.length_map,List.length_replicate]
  omega
theorem wk {CX:iZ} {P:Program} {w:World} {K:PySem.W.Frag} {mg:Str->Option Value} {base:Heap} {k:Nat} {f:Addr} {name qual:Str} {params:Arguments} {body:List Stmt} {scope:Scope} {dV kV doc pm cdv ct oc:Value} {an od:Option Addr}
  {osl:Array (Option Value)} {N ps:List Str} {sp:Sp} (lk:K.lookup f=some ⟨oc,od,.func (PySem.W.fnOf name qual params body scope dV kV doc pm an cdv ct),osl⟩) (hcd:PySem.W.codeIn K cdv qual=true) (S:aX N ps scope)
  (len:∀ vs H Q E,sp vs H Q E->vs.length=ps.length)
  (hbody:∀ (A:Around) (outer:List Env) (s:Shared) (H:Hp) (vs:List V) (Q:VK) (E:XK),dB k (A.deeper (envOfC qual scope s.heap.objs.size f cdv))->sp vs H Q E ->
   ∃ t,hJ (kO CX P w K mg base N qual scope f cdv A outer s H E) body t/\t { nx:=fun _ H'=>Q .ba H',rt:=Q } (start N vs) H) :
  bI P w K mg base CX (k+1) f (PySem.W.fnOf name qual params body scope dV kV doc pm an cdv ct) ps sp:=by
 refine⟨len,fun A outer s H args us vs Q E hr e0 hb r hsp=>?_⟩
 have hl:=len _ _ _ _ hsp
 have KX:K.In s.heap:=e0.mod.uK.keeps fun b o e=>(e0.bs b o e).1
 have lim:s.heap.NoLimit:=e0.mod.nolimit.keeps fun b o e=>(e0.bs b o e).1
 have hkind:∀ y ∈ ps.zip us,scope.names.lookup y.1=some .local\/(scope.names.lookup y.1=some .cell/\((cellsFrom (s.heap.objs.size+1) scope.names []).lookup y.1).isSome=true):=fun ⟨n,v⟩ hy=>by
  rcases S.par n (List.of_mem_zip hy).1 with q | q
  ·exact .inl q
  ·exact .inr ⟨q,PySem.W.cellsFrom_some _ _ _ (.inl q)⟩
 refine codeAny_call_function hr.depth (KX _ _ lk) rfl S.co S.gen rfl (PySem.W.codeRec_of KX hcd) (hb _ _ _ _ ?_)
 refine wpAny_newFunctionEnv_cells S.kind hkind fun env he s1 x=>?_
 subst he
 refine⟨lim.keeps x.toInCall.keep,codeAny_func ?_⟩
 obtain⟨t,ht,hq⟩:=hbody A outer s H vs Q E (hr.deeper _) hsp
 have I:Inv (kO CX P w K mg base N qual scope f cdv A outer s H E) [] (start N vs) H s1:=qe S hr.hd e0 hl r x
 refine wpAny_mono (ht [] s1 (start N vs) H _ I hq) (fun fl s' hs=>?_) fun e s' hs=>hs
 have fin:∀ {σ':St} {H':Hp} {v:V} {u:Value},Inv (kO CX P w K mg base N qual scope f cdv A outer s H E) [] σ' H' s'->RelV v u->Q v H'->CE outer P w H s Q u s' :=
  fun {σ' H' v u} J rv q=>⟨v,H',J.os,J.bare,J.base,J.aA,rv,q⟩
 cases fl with
 | ret u =>
  obtain⟨v,σ',H',J,rv,q⟩:=hs
  exact fin J rv q
 | next =>
  obtain⟨σ',H',J,q⟩:=hs
  exact fin (v:=V.ba) (u:=Value.none) J rfl q
 | brk =>
  obtain⟨_,_,_,q⟩:=hs
  exact False.elim q
 | cont =>
  obtain⟨_,_,_,q⟩:=hs
  exact False.elim q
section
variable {X:Cx} {x:Str} {p pos:Pos} {e:Expr} {es:List Expr} {t:TA} {id T:String} {r:List V->Hp->VK->Prop}
def wN (r:List V->Hp->VK->Prop) (t:TA):TE:=fun σ H Q=>t σ H fun vs H1=>r vs H1 Q
theorem bU (hc:fh X (.builtin id) r) (hg:Gl X x) (hm:X.mg x=none) (hv:bootBuiltins x=some (.builtin id)) (ha:PA X (e :: es) t) (hn:x ≠ "__name__" := by decide) (hdb:(x == ("__debug__" : Str))=false:=by decide)
  (he:starEach (e :: es) X.env=(false,eval e X.env) :: starEach es X.env:=by rfl) (hpl:(backTo pos (starEach es X.env)).any (·.1)=false:=by rfl):PE X (.Call (.Name x p) (e :: es) [] pos) (wN r t):=by
 intro pins s σ H Q I h
 refine wpAny_Call_Name_kw (hU I hg hm hv ?_ hn hdb)
 exact PyProof.Rows.callWith_builtin1 (aH (ha pos pins s σ H _ I h) fun us s1 ⟨vs,H1,I1,r1,q1⟩=>hc pins s1 σ H1 vs us Q I1 r1 q1) he hpl
theorem bF (hc:fh X (.type T) r) (hg:Gl X x) (hm:X.mg x=none) (hv:bootBuiltins x=some (.type T)) (ha:PA X (e :: es) t) (hn:x ≠ "__name__" := by decide) (hdb:(x == ("__debug__" : Str))=false:=by decide)
  (he:starEach (e :: es) X.env=(false,eval e X.env) :: starEach es X.env:=by rfl) (hpl:(backTo pos (starEach es X.env)).any (·.1)=false:=by rfl):PE X (.Call (.Name x p) (e :: es) [] pos) (wN r t):=by
 intro pins s σ H Q I h
 refine wpAny_Call_Name_kw (hU I hg hm hv ?_ hn hdb)
 exact PyProof.Rows.callWith_type1 (aH (ha pos pins s σ H _ I h) fun us s1 ⟨vs,H1,I1,r1,q1⟩=>hc pins s1 σ H1 vs us Q I1 r1 q1) he hpl
end
end L2
namespace HT
open PySem PyProof.Rows
section
open PySem.SeqAt
open PySem.AutoSeq1 (wpAny_loadPart')
open PySem.MeetsSeq PySem.MeetsSeq2 PySem.MeetsSeq3
end
section
variable {prog:Program} {w:World} {A:Around} {E:Value->Shared->Prop} {s:Shared}
def bg (n d:Nat):Option Int->Nat
 | none=>d
 | some v=>if v < 0 then (v+(n:Int)).toNat else min v.toNat n
theorem u0 (n d:Nat) (hd:d<=n) (o:Option Int):bg n d o<=n:=by
 cases o with
 | none=>exact hd
 | some v =>
  show (if v < 0 then (v+(n:Int)).toNat else min v.toNat n)<=n
  by_cases hv:v < 0
  ·rw [if_pos hv];omega
  ·rw [if_neg hv];exact Nat.min_le_right _ _
theorem ow (v:Int) (n d:Nat):(if v < 0 then max (v+(n:Int)) 0 else min v (n:Int))=((bg n d (some v):Nat):Int):=by
 show (if v < 0 then max (v+(n:Int)) 0 else min v (n:Int))=(((if v < 0 then (v+(n:Int)).toNat else min v.toNat n):Nat):Int)
 by_cases hv:v < 0
 ·simp only [if_pos hv];omega
 ·simp only [if_neg hv];omega
theorem o8 (lo hi:Option Int) (n:Nat):Builtin.Slice.sliceAdjust lo hi 1 (n:Int)=(((bg n 0 lo:Nat):Int),((bg n n hi:Nat):Int)):=by
 have h1:¬ ((1:Int) < 0):=by omega
 unfold Builtin.Slice.sliceAdjust
 simp only [h1,if_false]
 refine Prod.ext ?_ ?_
 ·cases lo with
  | none=>rfl
  | some v=>exact ow v n 0
 ·cases hi with
  | none=>rfl
  | some v=>exact ow v n n
theorem o9 (i j:Nat):Builtin.Slice.slicePlaces (i:Int) (j:Int) 1=j - i:=by
 unfold Builtin.Slice.slicePlaces
 have h1:(1:Int) > 0:=by omega
 simp only [h1,if_true,Int.ediv_one]
 split <;> omega
theorem ir {v:Value} {o:Option Int} {Q:Option Int->Shared->Prop} (p:IsPart v o) (h:Q o s):wpAny (model prog w) A (Builtin.Slice.slicePartIndex v) Q E s:=by
 cases p with
 | none=>exact slicePart_none h
 | int i t=>exact slicePart_int h
theorem gA {sl:Addr} {vl vu:Value} {lo hi:Option Int} {n:Nat} {Q:Int × Int × Nat->Shared->Prop} (hs:s.heap.IsSliceOf sl vl vu .none) (pl:IsPart vl lo) (pu:IsPart vu hi)
  (h:Q (((bg n 0 lo:Nat):Int),1,bg n n hi - bg n 0 lo) s):wpAny (model prog w) A (Builtin.Slice.sliceApplied (.ref sl) (pure (n:Int))) Q E s:=by
 obtain⟨os,hos,hcs,hds⟩:=id hs
 unfold Builtin.Slice.sliceApplied Builtin.Slice.sliceFields
 refine wpAny_bind (wpAny_bind (wpAny_field hos hds (x:=vl) rfl (wpAny_bind (wpAny_field hos hds (x:=vu) rfl (wpAny_bind (wpAny_field hos hds (x:=.none) rfl (wpAny_pure ?_)))))))
 refine wpAny_bind (slicePart_none ?_)
 show wpAny _ _ (if ((1:Int) == 0)=true then _ else _) _ _ s
 rw [if_neg (by decide)]
 refine wpAny_bind (ir pl (wpAny_bind (ir pu (wpAny_bind (wpAny_pure ?_)))))
 show wpAny _ _ (match Builtin.Slice.sliceAdjust lo hi 1 (n:Int) with | (lo,hi)=>pure (lo,(1:Int),Builtin.Slice.slicePlaces lo hi 1)) _ _ s
 rw [o8 lo hi n]
 show wpAny _ _ (pure (((bg n 0 lo:Nat):Int),(1:Int),Builtin.Slice.slicePlaces ((bg n 0 lo:Nat):Int) ((bg n n hi:Nat):Int) 1)) _ _ s
 rw [o9]
 exact wpAny_pure h
theorem rG (xs:Array Value) (i k:Nat):((List.range k).filterMap fun (m:Nat)=>xs[((i:Int)+(m:Int) * 1).toNat]?).toArray=((xs.toList.drop i).take k).toArray:=by
 have e:(fun (m:Nat)=>xs[((i:Int)+(m:Int) * 1).toNat]?)=fun m=>xs[i+m]?:=by
  funext m
  have:((i:Int)+(m:Int) * 1).toNat=i+m:=by omega
  rw [this]
 rw [e]
 have:=pick_run xs i k
 rw [List.filterMap_map] at this
 have e2:((fun x=>xs[x]?) ∘ fun x=>i+x)=fun m=>xs[i+m]?:=rfl
 rw [e2] at this
 rw [this]
theorem jx {t sl:Addr} {items:Array Value} {vl vu:Value} {lo hi:Option Int} {Q:Value->Shared->Prop} (ht:IsTup s.heap t items) (hs:s.heap.IsSliceOf sl vl vu .none) (pl:IsPart vl lo) (pu:IsPart vu hi)
  (hw:¬ (bg items.size 0 lo=0/\bg items.size items.size hi=items.size))
  (h:Q (.ref s.heap.objs.size) { s with heap:=s.heap.push { cls:=.type "tuple",data:=.seq ((items.toList.drop (bg items.size 0 lo)).take (bg items.size items.size hi - bg items.size 0 lo)).toArray } })
  (hsz:items.size<=sizeLine):wpAny (model prog w) A (getItem (.ref t) (.ref sl)) Q E s:=by
 have htake:sizeOk (.seq ((items.toList.drop (bg items.size 0 lo)).take (bg items.size items.size hi - bg items.size 0 lo)).toArray):=by
  show ((items.toList.drop (bg items.size 0 lo)).take (bg items.size items.size hi - bg items.size 0 lo)).toArray.size<=sizeLine
  rw [List.size_toArray,List.length_take,List.length_drop,Array.length_toList]
  omega
 have hj:bg items.size items.size hi<=items.size:=u0 _ _ (Nat.le_refl _) hi
 obtain⟨os,hos,hcs,hds⟩:=id hs
 have hTs:s.TypeIs (.ref sl) "slice" := ⟨os,hos,hcs⟩
 unfold getItem
 try with_reducible refine wpAny_holding ?_
 first | refine wpAny_bind (wpAny_pure ?_) | skip
 refine wpAny_bind (wpAny_sequenceKey ht.typeIs (by decide) ?_)
 refine wpAny_bind (wpAny_callSpecial?_slot (name:=Str.ofString "__getitem__") ht.typeIs PyProof.Rows.slot_tuple_getitem
  (wpAny_call_entry PyProof.Rows.slot_tuple_getitem ht.typeIs entry_tuple_getitem ?_ (args_tuple_getitem _ _)))
 show wpAny _ _ (Builtin.Tuple.tupleItemsOf (.ref t) >>= _) _ _ s
 refine wpAny_bind (tupleItemsOf_ ht ?_)
 refine wpAny_bind (wpAny_typeOf hTs ?_)
 rw [if_pos (by decide)]
 refine wpAny_bind (gA hs pl pu ?_)
 have hno:¬ ((((bg items.size 0 lo:Nat):Int) == 0 && (1:Int) == 1 && (bg items.size items.size hi - bg items.size 0 lo) == items.size)=true):=by
  intro q
  rw [Bool.and_eq_true,Bool.and_eq_true] at q
  have q1:((bg items.size 0 lo:Nat):Int)=0:=eq_of_beq q.1.1
  have q2:bg items.size items.size hi - bg items.size 0 lo=items.size:=eq_of_beq q.2
  exact hw ⟨by omega,by omega⟩
 show wpAny _ _ (if (((bg items.size 0 lo:Nat):Int) == 0 && (1:Int) == 1 && (bg items.size items.size hi - bg items.size 0 lo) == items.size)=true then _ else _) _ _ s
 rw [if_neg hno,rG]
 first
  | exact wpAny_bind (m:=Builtin.Tuple.tupleExact _) (wpAny_newObj_type (wpAny_pure ⟨_,rfl,wpAny_pure h⟩) htake)
  | exact wpAny_bind (m:=Builtin.Tuple.tupleExact _) (wpAny_newObj_type (wpAny_bind (wpAny_pure (wpAny_pure ⟨_,rfl,wpAny_pure h⟩))) htake)
  | exact wpAny_bind (wpAny_bind (m:=Builtin.Tuple.tupleExact _) (wpAny_newObj_type (wpAny_pure (wpAny_pure ⟨_,rfl,wpAny_pure h⟩)) htake))
  | exact wpAny_bind (wpAny_bind (m:=Builtin.Tuple.tupleExact _) (wpAny_newObj_type (wpAny_pure ⟨_,rfl,wpAny_pure h⟩) htake))
end
end HT
namespace L2
open PySem PySem.Spec PyProof.Rows
abbrev TO:=St->Hp->(Option Int->Hp->Prop)->Prop
def PO (X:Cx) (e:Option Expr) (t:TO):Prop :=
 ∀ (pins:List (Addr × Obj)) (s:Shared) (σ : St) (H:Hp) (Q:Option Int->Hp->Prop),Inv X pins σ H s->t σ H Q ->
  wpAny (model X.prog X.w) X.A (evalPart e X.env) (fun u s'=>∃ o H',Inv X pins σ H' s'/\IsPart u o/\Q o H') X.xe s
def tL:TO:=fun _ H Q=>Q none H
def wm (t:TE):TO:=fun σ H Q=>t σ H fun x H1=>∃ i,x=.int i/\Q (some i) H1
section
variable {X:Cx} {e:Expr} {te:TE} {lo hi:Option Expr} {tl th:TO} {pos p2:Pos}
theorem ox:PO X none tL:=by
 intro pins s σ H Q I h
 rw [evalPart_none]
 exact wpAny_pure ⟨none,H,I,.none,h⟩
theorem gg (h:PE X e te):PO X (some e) (wm te):=by
 intro pins s σ H Q I hw
 rw [evalPart_some]
 refine aH (h pins s σ H _ I hw) fun u s1 ⟨x,H1,I1,r1,q1⟩=>?_
 obtain⟨i,rfl,q⟩:=q1
 obtain⟨t,rfl⟩:=r1
 exact⟨some i,H1,I1,.int i t,q⟩
def u9 (X:Cx) (r:V->Option Int->Option Int->Hp->VK->Prop):Prop :=
 ∀ (pins:List (Addr × Obj)) (s:Shared) (σ : St) (H:Hp) (x:V) (v vl vu:Value) (lo hi:Option Int) (sl:Addr) (Q:VK),Inv X pins σ H s->RelV x v->s.heap.IsSliceOf sl vl vu .none->IsPart vl lo->IsPart vu hi->r x lo hi H Q ->
  ∃ T id,typeLookup (.type T) "__getitem__" = pure (some (.builtin id))/\s.TypeIs v T/\wpAny (model X.prog X.w) X.A (getItem v (.ref sl)) (EP X pins σ Q) X.xe s
def xP (r:V->Option Int->Option Int->Hp->VK->Prop) (te:TE) (tl th:TO):TE:=fun σ H Q=>te σ H fun x H1=>tl σ H1 fun l H2=>th σ H2 fun u H3=>r x l u H3 Q
theorem mx {r:V->Option Int->Option Int->Hp->VK->Prop} (hr:u9 X r) (he:PE X e te) (hl:PO X lo tl) (hu:PO X hi th):PE X (.Subscript e (.Slice lo hi none p2) pos) (xP r te tl th):=by
 intro pins s σ H Q I h
 refine Subscript_ (aH (he pins s σ H _ I h) fun v s1 ⟨x,H1,I1,r1,q1⟩=>?_)
 refine wpAny_Slice (aH (hl pins s1 σ H1 _ I1 q1) fun vl s2 ⟨l,H2,I2,pl,q2⟩=>aH (hu pins s2 σ H2 _ I2 q2) fun vu s3 ⟨u,H3,I3,pu,q3⟩=>?_)
 rw [evalPart_none]
 refine wpAny_pure ?_
 have I4:Inv X pins σ H3 { s3 with heap:=s3.heap.push { cls:=.type "slice",data:=.fields #[vl,vu,.none] } }:=I3.kept (t':=s3.toks) fun b ob q=>Heap.get?_push_of_some _ q
 obtain⟨T,id,hT,ht,hg⟩:=hr pins { s3 with heap:=s3.heap.push { cls:=.type "slice",data:=.fields #[vl,vu,.none] } } σ H3 x v vl vu l u s3.heap.objs.size Q I4 r1 (Heap.IsSliceOf.new ..) pl pu q3
 show wpAny (model X.prog X.w) X.A (subscriptTail e (.Slice lo hi none p2) v (.ref s3.heap.objs.size)) (EP X pins σ Q) X.xe { s3 with heap:=s3.heap.push { cls:=.type "slice",data:=.fields #[vl,vu,.none] } }
 exact tail_any (ops:=[.ref s3.heap.objs.size,v]) ht hT hg (by with_unfolding_all rfl)
def i3 (xs:List V) (lo hi:Option Int):List V:=(xs.drop (HT.bg xs.length 0 lo)).take (HT.bg xs.length xs.length hi - HT.bg xs.length 0 lo)
theorem nJ (xs:List V) (lo hi:Option Int):(i3 xs lo hi).length<=xs.length:=by
 unfold i3
 rw [List.length_take,List.length_drop]
 omega
def xp (K:PySem.W.Frag):V->Option Int->Option Int->Hp->VK->Prop:=fun x lo hi H Q=>∃ a xs,x=.ref a/\ar K H a xs /\
 ¬ (HT.bg xs.length 0 lo=0/\HT.bg xs.length xs.length hi=xs.length)/\∀ p,H p=none->Q (.ref p) (upd H p (.tup (i3 xs lo hi)))
theorem qf:u9 X (xp X.K):=by
 intro pins s σ H x v vl vu lo hi sl Q I rx hs pl pu h
 obtain⟨a,xs,rfl,hx,hw,q⟩:=h
 cases rx
 obtain⟨its,r,ht,hz⟩:=I.tuple hx
 have hlen:its.toArray.size=xs.length:=by rw [List.size_toArray];exact r.length.symm
 refine⟨"tuple",_,PyProof.Rows.slot_tuple_getitem.lookup,ht.typeIs,?_⟩
 refine HT.jx ht hs pl pu (by rw [hlen];exact hw) ?_ (by rw [hlen];exact hz)
 rw [hlen]
 refine⟨.ref s.heap.objs.size,_,I.laid (t':=s.toks) (o:=.tup (i3 xs lo hi)) (fun b ob q=>Heap.get?_push_of_some _ q) (Nat.le_refl _) ?_,rfl,q _ (I.aA.fresh (Nat.le_refl _))⟩
 exact⟨Nat.le_trans (nJ xs lo hi) hz,_,(r.drop (HT.bg xs.length 0 lo)).take (HT.bg xs.length xs.length hi - HT.bg xs.length 0 lo),⟨_,Heap.get?_push_size _ rfl,rfl,_,rfl,rfl⟩⟩
end
def i4 (n:Nat) (i:Int):Option Nat:=if 0<=i then (if i < n then some i.toNat else none) else if -(n:Int)<=i then some (i+n).toNat else none
def d0 {α : Type} (xs:List α) (i:Int):Option α:=(i4 xs.length i).bind fun j=>xs[j]?
theorem oy {n:Nat} {i:Int} {j:Nat} (h:i4 n i=some j):seqIndex? i n=some j/\j < n/\-(n:Int)<=i/\i < n:=by
 unfold i4 at h
 by_cases h0:0<=i
 ·rw [if_pos h0] at h
  by_cases h1:i < n
  ·rw [if_pos h1] at h
   have e:i.toNat=j:=Option.some.inj h
   exact⟨by rw [seqIndex_of h0 h1,e],by omega,by omega,h1⟩
  ·rw [if_neg h1] at h;cases h
 ·rw [if_neg h0] at h
  by_cases h1:-(n:Int)<=i
  ·rw [if_pos h1] at h
   have e:(i+n).toNat=j:=Option.some.inj h
   exact⟨by rw [seqIndex_neg (by omega) h1,e],by omega,h1,by omega⟩
  ·rw [if_neg h1] at h;cases h
theorem kP {α : Type} {xs:List α} {i:Int} {v:α} (h:d0 xs i=some v):∃ j,seqIndex? i xs.length=some j/\xs[j]? = some v/\j < xs.length/\-(xs.length:Int)<=i/\i < xs.length:=by
 unfold d0 at h
 cases e:i4 xs.length i with
 | none=>rw [e] at h;cases h
 | some j =>
  rw [e] at h
  obtain⟨h1,h2,h3,h4⟩:=oy e
  exact⟨j,h1,h,h2,h3,h4⟩
theorem bh {α : Type} {xs:List α} {j:Nat} {v:α} (h:xs[j]? = some v):d0 xs (j:Int)=some v:=by
 have hj:j < xs.length:=(List.getElem?_eq_some_iff.mp h).1
 have e:i4 xs.length (j:Int)=some j:=by
  unfold i4
  rw [if_pos (by omega),if_pos (by omega)];simp
 unfold d0;rw [e];exact h
def tM (b:Expr):Prop:=∀ o i,subscripted b false o i=operate [o,i] (getItem o i)
def qg (X:Cx) (r:R2):Prop :=
 ∀ (value slice:Expr) (pins:List (Addr × Obj)) (s:Shared) (σ : St) (H:Hp) (x y:V) (v u:Value) (Q:VK),Inv X pins σ H s->RelV x v->RelV y u->r x y H Q ->
  subscripted slice false v u=operate [v,u] (getItem v u)->wpAny (model X.prog X.w) X.A (subscriptTail value slice v u) (EP X pins σ Q) X.xe s
def va (X:Cx) (id:String) (r:V->List V->Hp->VK->Prop):Prop :=
 ∀ (pins:List (Addr × Obj)) (s:Shared) (σ : St) (H:Hp) (x:V) (xs:List V) (v:Value) (us:List Value) (Q:VK),Inv X pins σ H s->RelV x v->Vals xs us->r x xs H Q ->
  wpAny (model X.prog X.w) X.A (call (.builtin id) (v :: us)) (EP X pins σ Q) X.xe s
section
variable {X:Cx} {a b:Expr} {ta tb:TE} {pos:Pos}
theorem aJ {r:R2} (hr:qg X r) (ha:PE X a ta) (hb:PE X b tb) (hs:tM b):PE X (.Subscript a b pos) (sW r ta tb):=by
 intro pins s σ H Q I h
 exact Subscript_ (rD ha hb I h fun v u s2 x y H2 I2 rx ry q=>hr a b pins s2 σ H2 x y v u Q I2 rx ry q (hs _ _))
def xq (K:PySem.W.Frag):R2:=fun x y H Q=>∃ p xs i v,x=.ref p/\y=.int i/\av K H p xs/\d0 xs i=some v/\Q v H
def vb (K:PySem.W.Frag):R2:=fun x y H Q=>∃ p xs i v,x=.ref p/\y=.int i/\ar K H p xs/\d0 xs i=some v/\Q v H
def xr:R2:=fun x y H Q=>∃ z i c,x=.str z/\y=.int i/\z.length<=sizeLine/\d0 z.cps.toList i=some c/\Q (.str ⟨#[c]⟩) H
theorem bt:qg X (xq X.K):=by
 intro value slice pins s σ H x y v u Q I rx ry h hs
 obtain⟨p,xs,i,z,rfl,rfl,hq,he,q⟩:=h
 cases rx
 obtain⟨t,rfl⟩:=ry
 obtain⟨its,r,pl,hz⟩:=I.list hq
 obtain⟨j,h1,h2,h3,h4,h5⟩:=kP he
 obtain⟨w,ew,rw'⟩:=r.get h2
 have hl:=r.length
 have hn:=hV
 have fin:EP X pins σ Q w s:=⟨z,H,I,rw',q⟩
 by_cases h0:0<=i
 ·have hj:i.toNat=j:=by
   rw [seqIndex_of h0 h5] at h1
   exact Option.some.inj h1
  exact item_listR pl.isList h0 (by omega) (by rw [hj];simpa using ew) fin hs
 ·have hj:(i+(its.toArray.size:Int)).toNat=j:=by
   rw [seqIndex_neg (by omega) h4] at h1
   rw [List.size_toArray,<-hl]
   exact Option.some.inj h1
  exact subscriptTail_builtinR (x:=w) pl.isList.typeIs slot_list_getitem.lookup
   (wpAny_getItem_list_neg (Q:=fun r s'=>r=w/\EP X pins σ Q r s') pl.isList (by omega) (by rw [List.size_toArray] <;> omega) (by omega) (by rw [hj];simpa using ew) ⟨rfl,fin⟩) hs
theorem bo:qg X (vb X.K):=by
 intro value slice pins s σ H x y v u Q I rx ry h hs
 obtain⟨p,xs,i,z,rfl,rfl,hq,he,q⟩:=h
 cases rx
 obtain⟨t,rfl⟩:=ry
 obtain⟨its,r,pl,hz⟩:=I.tuple hq
 obtain⟨j,h1,h2,h3,h4,h5⟩:=kP he
 obtain⟨w,ew,rw'⟩:=r.get h2
 have hl:=r.length
 have hn:=hV
 have fin:EP X pins σ Q w s:=⟨z,H,I,rw',q⟩
 exact subscriptTail_builtinR (x:=w) pl.typeIs slot_tuple_getitem.lookup
  (getItem_tuple (j:=j) (Q:=fun r s'=>r=w/\EP X pins σ Q r s') pl (by omega) (by omega) (by rw [List.size_toArray,<-hl];exact h1) (by simpa using ew) ⟨rfl,fin⟩) hs
theorem kb:qg X xr:=by
  intro value slice pins s σ H x y v u Q I rx ry h hs
  obtain⟨z,i,c,rfl,rfl,hz,he,q⟩:=h
  obtain⟨t,rfl⟩:=rx
  obtain⟨t',rfl⟩:=ry
  obtain⟨j,h1,h2,h3,h4,h5⟩:=kP he
  have hl:z.cps.toList.length=z.length:=by simp [Str.length]
  rw [hl] at h1 h4 h5
  have hn:=hV
  exact tail_any (typeIs_str s z t) slot_str_getitem.lookup (getItem_str (c:=c) (by
    have e1:decide (i < -(2 ^ 63:Int))=false:=decide_eq_false (by omega)
    have e2:decide (i >= 2 ^ 63)=false:=decide_eq_false (by omega)
    rw [e1,e2,Bool.or_false]) (by rw [h1];simpa using h2) ⟨.str ⟨#[c]⟩,H,I.tok _,⟨_,rfl⟩,q⟩) hs
theorem pd (its:List Value) (n j:Nat) (u:Value):Obj.mapSeq (·.setIfInBounds j u) { cls:=.type "list",data:=.seq its.toArray n } = { cls:=.type "list",data:=.seq (its.set j u).toArray n }:=by
 simp [Obj.mapSeq]
theorem Inv.lst {pins:List (Addr × Obj)} {σ : St} {H:Hp} {s:Shared} {p:Addr} {xs:List V} (I:Inv X pins σ H s) (h:H p=some (.lst xs)) :
  ∃ (its:List Value) (n:Nat),Vals xs its/\s.heap.get? p=some { cls:=.type "list",data:=.seq its.toArray n }/\xs.length<=sizeLine:=by
 obtain⟨z,its,n,r,e⟩:=I.aA p _ h
 exact⟨its,n,r,e,z⟩
theorem Inv.vc {pins:List (Addr × Obj)} {σ : St} {H:Hp} {s:Shared} {p:Addr} {xs ys:List V} {its its':List Value} {n n':Nat} {f:Obj->Obj} (I:Inv X pins σ H s) (h:H p=some (.lst xs))
  (ho:s.heap.get? p=some { cls:=.type "list",data:=.seq its.toArray n }) (hf:f { cls:=.type "list",data:=.seq its.toArray n } = { cls:=.type "list",data:=.seq its'.toArray n' }) (r:Vals ys its') (hz:ys.length<=sizeLine) (t:Nat) :
  Inv X pins σ (upd H p (.lst ys)) { s with heap:=s.heap.update p f,toks:=t }:=by
 have e:(s.heap.update p f).get? p=some { cls:=.type "list",data:=.seq its'.toArray n' }:=by
  rw [Heap.get?_update_self f ho (by rw [hf] <;> rfl),hf]
 refine I.write (x:=p) (e:=p) (by rw [h];trivial) (.inl rfl) (fun b u hb q=>(Heap.get?_update_other _ _ (Ne.symm hb)).trans q) ⟨_,e⟩ ?_
 exact⟨hz,its',n',r,e⟩
def wo:V->V->V->Hp->(Hp->Prop)->Prop:=fun o i v H Q=>∃ p xs k j,o=.ref p/\i=.int k/\H p=some (.lst xs)/\i4 xs.length k=some j/\Q (upd H p (.lst (xs.set j v)))
theorem set_list:uQ X wo:=by
 intro pins s σ H o i v ov iv u Q I ro ri rv h
 obtain⟨p,xs,k,j,rfl,rfl,hp,hj,q⟩:=h
 cases ro
 obtain⟨t,rfl⟩:=ri
 obtain⟨its,n,r,ho,hz⟩:=I.lst hp
 obtain⟨h1,h2,h3,h4⟩:=oy hj
 have hl:=r.length
 have hn:=hV
 have I':Inv X pins σ (upd H p (.lst (xs.set j v))) { s with heap:=s.heap.update p (Obj.mapSeq (·.setIfInBounds j u)) } :=
  I.vc hp ho (pd its n j u) (r.set rv j) (by rw [List.length_set];exact hz) s.toks
 by_cases h0:0<=k
 ·have hk:k.toNat=j:=by
   rw [seqIndex_of h0 h4] at h1
   exact Option.some.inj h1
  exact PySem.W.ki_setAt ho h0 (by omega) (by rw [List.size_toArray,<-hl];exact h4) (by rw [hk];exact⟨_,I',q⟩)
 ·have hk:(k+(its.toArray.size:Int)).toNat=j:=by
   rw [seqIndex_neg (by omega) h3] at h1
   rw [List.size_toArray,<-hl]
   exact Option.some.inj h1
  exact PySem.W.ki_setBack ho (by omega) (by rw [List.size_toArray,<-hl];exact h3) (by omega) (by rw [hk];exact⟨_,I',q⟩)
def fG:V->Bool
 | .ba=>true
 | .bl _=>true
 | .int _=>true
 | .str _=>true
 | _=>false
def jE:V->V->Bool
 | .ba,.ba=>true
 | .bl a,.bl b=>a == b
 | .bl a,.int b=>(if a then 1 else 0) == b
 | .int a,.bl b=>a == (if b then 1 else 0)
 | .int a,.int b=>a == b
 | .str a,.str b=>a == b
 | _,_=>false
theorem vd {A:Around} {s:Shared} {y x:V} {u v:Value} (ry:RelV y u) (rx:RelV x v) (fy:fG y=true) (fx:fG x=true):SeqAt.EqAt A s u v (jE y x):=by
 cases y with
 | ba =>
  cases ry
  cases x with
  | ba=>cases rx;exact SeqAt.EqAt.same _
  | bl b=>cases rx;exact SeqAt.EqAt.none_bool b
  | int b=>obtain⟨t,rfl⟩:=rx;exact SeqAt.EqAt.none_int b t
  | str b=>obtain⟨t,rfl⟩:=rx;exact SeqAt.EqAt.none_str b t
  | _=>exact absurd (show false=true from fx) Bool.false_ne_true
 | bl a =>
  cases ry
  cases x with
  | ba=>cases rx;exact SeqAt.EqAt.bool_none a
  | bl b=>cases rx;exact SeqAt.EqAt.bool_bool a b
  | int b=>obtain⟨t,rfl⟩:=rx;exact SeqAt.EqAt.bool_int a b t
  | str b=>obtain⟨t,rfl⟩:=rx;exact SeqAt.EqAt.bool_str a b t
  | _=>exact absurd (show false=true from fx) Bool.false_ne_true
 | int a =>
  obtain⟨t',rfl⟩:=ry
  cases x with
  | ba=>cases rx;exact SeqAt.EqAt.int_none a t'
  | bl b=>cases rx;exact SeqAt.EqAt.int_bool a t' b
  | int b=>obtain⟨t,rfl⟩:=rx;exact SeqAt.EqAt.int_int a t' b t
  | str b=>obtain⟨t,rfl⟩:=rx;exact SeqAt.EqAt.int_str a t' b t
  | _=>exact absurd (show false=true from fx) Bool.false_ne_true
 | str a =>
  obtain⟨t',rfl⟩:=ry
  cases x with
  | ba=>cases rx;exact SeqAt.EqAt.str_none a t'
  | bl b=>cases rx;exact SeqAt.EqAt.str_bool a t' b
  | int b=>obtain⟨t,rfl⟩:=rx;exact SeqAt.EqAt.str_int a t' b t
  | str b=>obtain⟨t,rfl⟩:=rx;exact SeqAt.EqAt.str_str a t' b t
  | _=>exact absurd (show false=true from fx) Bool.false_ne_true
 | _=>exact absurd (show false=true from fy) Bool.false_ne_true
def gB (x:V) (u:Value):Bool:=match u with
 | .none=>jE .ba x
 | .bool b=>jE (.bl b) x
 | .int i _=>jE (.int i) x
 | .str z _=>jE (.str z) x
 | _=>false
theorem qh {x y:V} {u:Value} (r:RelV y u) (f:fG y=true):gB x u=jE y x:=by
 cases y with
 | ba=>cases r;rfl
 | bl b=>cases r;rfl
 | int i=>obtain⟨t,rfl⟩:=r;rfl
 | str z=>obtain⟨t,rfl⟩:=r;rfl
 | _=>exact absurd (show false=true from f) Bool.false_ne_true
theorem hX {x:V}:∀ {xs:List V} {us:List Value},Vals xs us->xs.all fG=true->us.any (gB x)=xs.any fun y=>jE y x
 | _,_,.nil,_=>rfl
 | y :: xs,u :: us,.cons r t,f=>by
  rw [List.all_cons,Bool.and_eq_true] at f
  rw [List.any_cons,List.any_cons,qh r f.1,hX t f.2]
theorem gC {A:Around} {s:Shared} {x:V} {v:Value} (rx:RelV x v) (fx:fG x=true):∀ {xs:List V} {us:List Value},Vals xs us->xs.all fG=true->∀ u ∈ us,SeqAt.EqAt A s u v (gB x u)
 | _,_,.nil,_=>fun u hu=>by cases hu
 | y :: xs,u :: us,.cons r t,f=>fun u' hu=>by
  rw [List.all_cons,Bool.and_eq_true] at f
  rcases List.mem_cons.mp hu with rfl | hu
  ·rw [qh r f.1];exact vd r rx f.1 fx
  ·exact gC rx fx t f.2 u' hu
def dD (x:V) (xs:List V):Bool:=xs.any fun y=>jE y x
def ve (K:PySem.W.Frag) (neg:Bool):R2:=fun x y H Q=>∃ p xs,y=.ref p/\(av K H p xs\/ar K H p xs)/\fG x=true/\xs.all fG=true/\Q (.bl (if neg then !dD x xs else dD x xs)) H
theorem eZ:de X (compareOp .In) (ve X.K false):=by
 intro pins s σ H x y v u Q I rx ry h
 obtain⟨p,xs,rfl,hq,fx,fs,q⟩:=h
 cases ry
 rcases hq with hq | hq
 ·obtain⟨its,r,pl,hz⟩:=I.list hq
  refine SeqAt.in_listAt (gB x) pl.isList (fun w hw=>gC rx fx r fs w (by simpa using hw)) ⟨.bl _,H,I,rfl,?_⟩
  rw [show its.toArray.any (gB x)=its.any (gB x) by simp,hX r fs]
  exact q
 ·obtain⟨its,r,pl,hz⟩:=I.tuple hq
  refine SeqAt.in_tupleAt (gB x) pl (fun w hw=>gC rx fx r fs w (by simpa using hw)) ⟨.bl _,H,I,rfl,?_⟩
  rw [show its.toArray.any (gB x)=its.any (gB x) by simp,hX r fs]
  exact q
theorem gD:de X (compareOp .NotIn) (ve X.K true):=by
 intro pins s σ H x y v u Q I rx ry h
 obtain⟨p,xs,rfl,hq,fx,fs,q⟩:=h
 cases ry
 rcases hq with hq | hq
 ·obtain⟨its,r,pl,hz⟩:=I.list hq
  refine SeqAt.notIn_listAt (gB x) pl.isList (fun w hw=>gC rx fx r fs w (by simpa using hw)) ⟨.bl _,H,I,rfl,?_⟩
  rw [show its.toArray.any (gB x)=its.any (gB x) by simp,hX r fs]
  exact q
 ·obtain⟨its,r,pl,hz⟩:=I.tuple hq
  refine SeqAt.notIn_tupleAt (gB x) pl (fun w hw=>gC rx fx r fs w (by simpa using hw)) ⟨.bl _,H,I,rfl,?_⟩
  rw [show its.toArray.any (gB x)=its.any (gB x) by simp,hX r fs]
  exact q
theorem bO:fh X (.builtin "len") (fun xs H Q=>∃ p ys,xs = [.ref p]/\(av X.K H p ys\/ar X.K H p ys)/\Q (.int ys.length) H):=by
 intro pins s σ H xs us Q I r h
 obtain⟨p,ys,rfl,hq,q⟩:=h
 obtain⟨u,rfl,rx⟩:=vals1 r
 cases rx
 have hn:=hV
 rcases hq with hq | hq
 ·obtain⟨its,r',pl,hz⟩:=I.list hq
  have hlen:=r'.length
  exact Calls.call_len_list pl.isList (by simp only [List.size_toArray] <;> omega) ⟨.int ys.length,H,I.tok _,⟨s.toks+1,by rw [List.size_toArray,hlen]⟩,q⟩
 ·obtain⟨its,r',pl,hz⟩:=I.tuple hq
  have hlen:=r'.length
  exact len_tuple pl (by simp only [List.size_toArray] <;> omega) ⟨.int ys.length,H,I.tok _,⟨s.toks+1,by rw [List.size_toArray,hlen]⟩,q⟩
theorem my:fh X (.type "list") (fun xs H Q=>∃ p ys,xs = [.ref p]/\(av X.K H p ys\/ar X.K H p ys)/\∀ l,H l=none->Q (.ref l) (upd H l (.lst ys))):=by
 intro pins s σ H xs us Q I r h
 obtain⟨p,ys,rfl,hq,q⟩:=h
 obtain⟨u,rfl,rx⟩:=vals1 r
 cases rx
 have fin:∀ (its:List Value),Vals ys its->ys.length<=sizeLine->∀ (h':Heap) (c':Nat),(∀ b o',s.heap.get? b=some o'->h'.get? b=some o') ->
   h'.get? s.heap.objs.size=some { cls:=.type "list",dict:=none,data:=.seq its.toArray c',slots:=#[] }->EP X pins σ Q (.ref s.heap.objs.size) { s with heap:=h' }:=fun its r' hz h' c' kp e =>
  ⟨.ref s.heap.objs.size,_,I.laid (t':=s.toks) kp (Nat.le_refl _) (show bA X.prog X.w _ h' _ (.lst ys) from ⟨hz,its,c',r',e⟩),rfl,q _ (I.aA.fresh (Nat.le_refl _))⟩
 rcases hq with hq | hq
 ·obtain⟨its,r',pl,hz⟩:=I.list hq
  have hlen:=r'.length
  obtain⟨o,ho,hc,n,hd⟩:=pl.isList
  exact call_list_seq p (.inl rfl) ho hc hd (fun h' c' kp e=>fin its r' hz h' c' kp e) (by simp only [List.size_toArray] <;> omega)
 ·obtain⟨its,r',pl,hz⟩:=I.tuple hq
  have hlen:=r'.length
  obtain⟨o,ho,hc,n,hd⟩:=pl
  exact call_list_seq p (.inr rfl) ho hc hd (fun h' c' kp e=>fin its r' hz h' c' kp e) (by simp only [List.size_toArray] <;> omega)
theorem bw:fh X (.type "tuple") (fun xs H Q=>∃ p ys,xs = [.ref p]/\((av X.K H p ys/\∀ l,H l=none->Q (.ref l) (upd H l (.tup ys)))\/(ar X.K H p ys/\Q (.ref p) H))):=by
 intro pins s σ H xs us Q I r h
 obtain⟨p,ys,rfl,h⟩:=h
 obtain⟨u,rfl,rx⟩:=vals1 r
 cases rx
 rcases h with ⟨hq,q⟩ | ⟨hq,q⟩
 ·obtain⟨its,r',pl,hz⟩:=I.list hq
  have hlen:=r'.length
  refine call_tuple_list pl.isList (fun h' kp=>?_) (by simp only [List.size_toArray] <;> omega)
  have I1:Inv X pins σ H { s with heap:=h' }:=I.kept (t':=s.toks) kp
  have I2:Inv X pins σ (upd H h'.objs.size (.tup ys)) { s with heap:=h'.push { cls:=.type "tuple",data:=.seq its.toArray } } :=
   I1.laid (t':=s.toks) (fun b o e=>Heap.get?_push_of_some _ e) (Nat.le_refl _) (show bA X.prog X.w _ _ _ (.tup ys) from ⟨hz,its,r',⟨_,Heap.get?_push_size _ rfl,rfl,_,rfl,rfl⟩⟩)
  exact⟨.ref h'.objs.size,_,I2,rfl,q _ (I1.aA.fresh (Nat.le_refl _))⟩
 ·obtain⟨its,r',pl,hz⟩:=I.tuple hq
  exact call_tuple_same pl ⟨.ref p,H,I,rfl,q⟩
def vf (K:PySem.W.Frag) (T:String) (x:V) (H:Hp):Prop:=match x with
 | .str _=>T = "str"
 | .int _=>T = "int"
 | .ref p=>(T = "list" /\ ∃ xs,av K H p xs)\/(T = "tuple" /\ ∃ o,K.lookup p=some o/\o.cls=.type "tuple" /\ o.dict=none) \/
   (T = "dict" /\ ((∃ kvs,H p=some (.dK kvs))\/∃ kvs,H p=some (.dT kvs)))\/(T = "set" /\ ∃ S n,H p=some (.set S n))
 | _=>False
theorem qi {pins:List (Addr × Obj)} {σ : St} {H:Hp} {s:Shared} {T:String} {x:V} {v:Value} (I:Inv X pins σ H s) (r:RelV x v) (ty:vf X.K T x H) :
  s.TypeIs v T/\∀ a,v=.ref a->∃ ob,s.heap.get? a=some ob/\ob.dict=none:=by
 cases x with
 | str z =>
  obtain⟨t,rfl⟩:=r
  cases (show T = "str" from ty)
  exact⟨typeIs_str s z t,fun _ e=>nomatch e⟩
 | int i =>
  obtain⟨t,rfl⟩:=r
  cases (show T = "int" from ty)
  exact⟨typeIs_int s i t,fun _ e=>nomatch e⟩
 | ref p =>
  cases r
  rcases ty with ⟨rfl,xs,hq⟩ | ⟨rfl,o,hk,hc,hd⟩ | ⟨rfl,hk⟩ | ⟨rfl,S,n,hk⟩
  ·obtain⟨its,_,pl,_⟩:=I.list hq
   refine⟨pl.isList.typeIs,fun a e=>?_⟩
   cases e
   obtain⟨o,n,e,c,hd,_⟩:=pl
   exact⟨o,e,hd⟩
  ·refine⟨⟨o,I.md p o hk,hc⟩,fun a e=>?_⟩
   cases e
   exact⟨o,I.md _ o hk,hd⟩
  ·have z:∃ o,s.heap.get? p=some o/\o.ExactDict:=by
    rcases hk with ⟨kvs,hk⟩ | ⟨kvs,hk⟩
    ·obtain⟨_,_,_,_,o,_,_,e,ex,_⟩:=I.aA p _ hk
     exact⟨o,e,ex⟩
    ·obtain⟨_,_,_,_,o,_,_,e,ex,_⟩:=I.aA p _ hk
     exact⟨o,e,ex⟩
   obtain⟨o,e,ex⟩:=z
   refine⟨⟨o,e,ex.1⟩,fun a e2=>?_⟩
   cases e2
   exact⟨o,e,ex.2.1⟩
  ·obtain⟨o,_,_,_,e,ex,_⟩:=I.aA p _ hk
   refine⟨⟨o,e,ex.1⟩,fun a e2=>?_⟩
   cases e2
   exact⟨o,e,ex.2.1⟩
 | _=>exact False.elim ty
def xt (K:PySem.W.Frag) (T:String) (r:V->List V->Hp->VK->Prop) (to:TE):TE:=fun σ H Q=>to σ H fun x H1=>vf K T x H1/\r x [] H1 Q
def xQ (K:PySem.W.Frag) (T:String) (r:V->List V->Hp->VK->Prop) (to:TE) (t:TA):TE:=fun σ H Q=>to σ H fun x H1=>vf K T x H1/\t σ H1 fun xs H2=>r x xs H2 Q
variable {o e:Expr} {es:List Expr} {to:TE} {t:TA} {name:Str} {apos cpos:Pos} {T id:String} {r:V->List V->Hp->VK->Prop}
theorem vg (pa:PlainAttrs T) (slot:Slot T name id) (hty:typeOf (.builtin id)=pure (.type "method_descriptor")) (hm:va X id r) (ho:PE X o to)
  (hbase:attributeBase o name X.env (eval o X.env)=eval o X.env:=by rfl) (hline:(apos.endLine == cpos.line)=true:=by rfl):PE X (.Call (.Attribute o name apos) [] [] cpos) (xt X.K T r to):=by
 intro pins s σ H Q I h
 refine wpAny_Call_method0_late hbase hline (aH (ho pins s σ H _ I h) fun v s1 ⟨x,H1,I1,r1,ty,q1⟩=>?_)
 obtain⟨h1,h2⟩:=qi I1 r1 ty
 exact⟨T,id,pa,slot,hty,h1,h2,Calls.callWith_builtin rfl (PySem.evalArgs_none (hm pins s1 σ H1 x [] v [] Q I1 r1 .nil q1))⟩
theorem cW (pa:PlainAttrs T) (slot:Slot T name id) (hty:typeOf (.builtin id)=pure (.type "method_descriptor")) (hm:va X id r) (ho:PE X o to) (ha:PA X (e :: es) t)
  (hbase:attributeBase o name X.env (eval o X.env)=eval o X.env:=by rfl)
  (hfew:((backTo cpos (starEach (e :: es) X.env)).all (fun x=>!x.1) && (backToKw cpos (keywordEach [] X.env)).all (fun x=>x.1.isSome)
   && decide ((e :: es).length+([]:List Keyword).length+(if ([]:List Keyword).isEmpty then 0 else 1) < 30))=true:=by rfl)
  (hline:(apos.endLine == cpos.line)=true:=by rfl) (hs:starEach (e :: es) X.env=(false,eval e X.env) :: starEach es X.env:=by rfl) (hplain:(backTo cpos (starEach es X.env)).any (·.1)=false:=by rfl) :
  PE X (.Call (.Attribute o name apos) (e :: es) [] cpos) (xQ X.K T r to t):=by
 intro pins s σ H Q I h
 refine wpAny_Call_method_late hbase hfew hline rfl (aH (ho pins s σ H _ I h) fun v s1 ⟨x,H1,I1,r1,ty,q1⟩=>?_)
 obtain⟨h1,h2⟩:=qi I1 r1 ty
 refine⟨T,id,pa,slot,hty,h1,h2,?_⟩
 have hA:=ha cpos pins s1 σ H1 _ I1 q1
 rw [hs] at hA ⊢
 refine Calls.callWith_builtin (by show (false || (backTo cpos (starEach es X.env)).any (·.1))=false;rw [hplain] <;> rfl) (Calls.evalArgs_plain ?_)
 exact aH hA fun us s2 ⟨vs,H2,I2,r2,q2⟩=>hm pins s2 σ H2 x vs v us Q I2 r1 r2 q2
end
def mz (X:Cx) (id:String) (r:V->List V->Hp->VK->Prop):Prop :=
 ∀ (pins:List (Addr × Obj)) (s:Shared) (σ : St) (H:Hp) (x:V) (xs:List V) (v:Value) (us:List Value) (Q:VK),Inv X pins σ H s->RelV x v->Vals xs us->r x xs H Q ->
  wpAny (model X.prog X.w) X.A (call (.builtin id) (v :: us)) (EP X pins σ Q) X.xe s
theorem Vals.one:∀ {x:V} {us:List Value},Vals [x] us->∃ u,us = [u]/\RelV x u
 | _,_,.cons r .nil=>⟨_,rfl,r⟩
theorem Vals.zero:∀ {us:List Value},Vals [] us->us = []
 | _,.nil=>rfl
theorem Vals.dropLast {xs:List V} {us:List Value} (h:Vals xs us):Vals xs.dropLast us.dropLast:=by
 induction h with
 | nil=>exact .nil
 | cons r t ih =>
  cases t with
  | nil=>exact .nil
  | cons q t'=>exact .cons r ih
theorem ph {α : Type} (l:List α):l.eraseIdx (l.length - 1)=l.dropLast:=by
 induction l with
 | nil=>rfl
 | cons a r ih =>
  cases r with
  | nil=>rfl
  | cons b r =>
   have e:(a :: b :: r).length - 1=((b :: r).length - 1)+1:=by
    have h1:(a :: b :: r).length=r.length+2:=rfl
    have h2:(b :: r).length=r.length+1:=rfl
    omega
   rw [e,List.eraseIdx_cons_succ,ih]
   all_goals rfl
section
variable {X:Cx} {pins:List (Addr × Obj)} {σ : St} {H:Hp} {s:Shared} {l b:Addr} {xs ys zs:List V}
theorem Inv.pA {its its':List Value} {n:Nat} {f:Array Value->Array Value} {t':Nat} (I:Inv X pins σ H s) (hH:H l=some (.lst xs))
  (e:s.heap.get? l=some { cls:=.type "list",data:=.seq its.toArray n }) (hf:f its.toArray=its'.toArray) (hv:Vals ys its') (hz:ys.length<=sizeLine) :
  Inv X pins σ (upd H l (.lst ys)) { s with heap:=s.heap.update l (Obj.mapSeq f),toks:=t' }:=by
 have q:=PySem.IsL.update e f
 rw [hf] at q
 refine I.write (x:=l) (e:=l) (by rw [hH];exact trivial) (.inl rfl) (fun b' u hb hu=>(Heap.get?_update_other s.heap (Obj.mapSeq f) (Ne.symm hb)).trans hu) ⟨_,q⟩ ?_
 exact⟨hz,its',_,hv,q⟩
theorem Inv.xu {its:List Value} {t':Nat} (I:Inv X pins σ H s) (hv:Vals ys its) (hz:ys.length<=sizeLine) :
  Inv X pins σ (upd H s.heap.objs.size (.lst ys)) { s with heap:=s.heap.push { cls:=.type "list",data:=.seq its.toArray },toks:=t' } :=
 I.laid (fun _ _ q=>Heap.get?_push_of_some _ q) (Nat.le_refl _) ⟨hz,its,0,hv,Heap.get?_push_size _ rfl⟩
theorem Inv.fresh (I:Inv X pins σ H s):H s.heap.objs.size=none:=I.aA.fresh (Nat.le_refl _)
theorem Inv.jP (I:Inv X pins σ H s) (hH:H l=some (.lst xs)):xs.length<=sizeLine/\∃ (its:List Value) (n:Nat),Vals xs its/\xs.length=its.length/\s.heap.get? l=some { cls:=.type "list",data:=.seq its.toArray n }:=by
 obtain⟨z,its,n,r,e⟩:=I.aA l _ hH
 exact⟨z,its,n,r,r.length,e⟩
theorem mB {n:Nat} (h:n<=sizeLine):Builtin.List.listTooLong n=false:=by
 unfold Builtin.List.listTooLong
 exact decide_eq_false (by omega)
end
section
variable {X:Cx}
def tN:V->List V->Hp->VK->Prop:=fun x vs H Q=>∃ l xs y,x=.ref l/\vs = [y]/\H l=some (.lst xs)/\xs.length < sizeLine/\Q .ba (upd H l (.lst (xs ++ [y])))
theorem bK:mz X "list.append" tN:=by
 intro pins s σ H x vs v us Q I rx rv h
 obtain⟨l,xs,y,rfl,rfl,hH,hz,q⟩:=h
 cases rx
 obtain⟨u,rfl,ru⟩:=rv.one
 obtain⟨z,its,n,r,hl,e⟩:=I.jP hH
 refine call_meets F.slot_list_append ⟨_,e,rfl⟩ F.entry_list_append (F.args_list_append_2 _ _) (PySem.list_append l its.toArray n u (by rw [List.size_toArray];omega)) ⟨e,?_⟩
 refine⟨.ba,_,I.pA (its':=its ++ [u]) hH e (by simp) (r.append (.cons ru .nil)) ?_,rfl,q⟩
 rw [List.length_append,List.length_singleton]
 omega
def tO:V->List V->Hp->VK->Prop:=fun x vs H Q=>∃ l b xs zs,x=.ref l/\vs = [.ref b]/\H l=some (.lst xs)/\H b=some (.lst zs)/\xs.length+zs.length<=sizeLine/\Q .ba (upd H l (.lst (xs++zs)))
theorem lH:mz X "list.extend" tO:=by
 intro pins s σ H x vs v us Q I rx rv h
 obtain⟨l,b,xs,zs,rfl,rfl,hH,hB,hz,q⟩:=h
 cases rx
 obtain⟨u,rfl,ru⟩:=rv.one
 cases ru
 obtain⟨z,its,n,r,hl,e⟩:=I.jP hH
 obtain⟨z2,its2,n2,r2,hl2,e2⟩:=I.jP hB
 have hsz:its.toArray.size+its2.toArray.size<=sizeLine:=by rw [List.size_toArray,List.size_toArray];omega
 have hlong:¬ (!its.toArray.isEmpty && Builtin.List.listTooLong (its.toArray.size+its2.toArray.size))=true:=by
  rw [mB hsz,Bool.and_false]
  exact Bool.false_ne_true
 refine call_meets F.slot_list_extend ⟨_,e,rfl⟩ F.entry_list_extend (F.args_list_extend_2 _ _)
  (AutoSeq1.list_extend_list_list_0 l its.toArray n b its2.toArray n2 hlong (by rw [List.size_toArray];omega) (by omega)) ⟨e,e2,?_⟩
 refine⟨.ba,_,I.pA (its':=its++its2) hH e (by simp) (r.append r2) ?_,rfl,q⟩
 rw [List.length_append]
 omega
def xw:V->List V->Hp->VK->Prop:=fun x vs H Q=>∃ l xs y,x=.ref l/\vs = []/\H l=some (.lst xs)/\xs[xs.length - 1]? = some y/\Q y (upd H l (.lst xs.dropLast))
theorem vh:mz X "list.pop" xw:=by
 intro pins s σ H x vs v us Q I rx rv h
 obtain⟨l,xs,y,rfl,rfl,hH,hy,q⟩:=h
 cases rx
 have hus:=rv.zero
 subst hus
 obtain⟨z,its,n,r,hl,e⟩:=I.jP hH
 obtain⟨u,hu,ru⟩:=r.get hy
 have hy':its.toArray[its.toArray.size - 1]? = some u:=by
  show its.toArray[its.length - 1]? = some u
  rw [<-Array.getElem?_toList,<-hl]
  exact hu
 refine call_meets F.slot_list_pop ⟨_,e,rfl⟩ F.entry_list_pop (F.args_list_pop_1 _) (MeetsSeq.list_pop_last l its.toArray n u hy' (by rw [List.size_toArray];omega)) ⟨e,?_⟩
 refine⟨y,_,I.pA (its':=its.dropLast) hH e ?_ r.dropLast ?_,ru,q⟩
 ·show its.toArray.eraseIdxIfInBounds (its.toArray.size - 1)=its.dropLast.toArray
  rw [List.size_toArray,List.eraseIdxIfInBounds_toArray,ph]
 ·rw [List.length_dropLast]
  omega
def xx:R2:=fun x y H Q=>∃ l b xs zs,x=.ref l/\y=.ref b/\H l=some (.lst xs)/\H b=some (.lst zs)/\xs.length+zs.length<=sizeLine/\∀ p,H p=none->Q (.ref p) (upd H p (.lst (xs++zs)))
theorem ql:de X (binaryOp .Add) xx:=by
 intro pins s σ H x y v u Q I rx ry h
 obtain⟨l,b,xs,zs,rfl,rfl,hH,hB,hz,q⟩:=h
 cases rx
 cases ry
 obtain⟨z,its,n,r,hl,e⟩:=I.jP hH
 obtain⟨z2,its2,n2,r2,hl2,e2⟩:=I.jP hB
 refine PySem.P.add_list e e2 ?_ (by rw [List.size_toArray,List.size_toArray];omega)
 have ea:its.toArray++its2.toArray=(its++its2).toArray:=by simp
 rw [ea]
 exact⟨.ref _,_,I.xu (t':=s.toks) (r.append r2) (by rw [List.length_append];omega),rfl,q _ I.fresh⟩
end
section
variable {prog:Program} {w:World} {A:Around} {E:Value->Shared->Prop} {s:Shared}
end
section
variable {X:Cx}
end
end L2
namespace wO
open PySem PySem.W PySem.Calls PyProof.Rows
theorem kc {P:Params} {h:Heap}:∀ (ns:List Int) (vs:List Value),WellAll P h vs (ns.map WData.int)->IntsAre vs ns:=by
 intro ns
 induction ns with
 | nil =>
  intro vs w
  rw [List.map_nil] at w
  cases w
  exact .nil
 | cons n ns ih =>
  intro vs w
  rw [List.map_cons] at w
  cases w with
  | cons a b =>
   cases a
   exact .cons _ _ (ih _ b)
theorem qm {l:OpenLaw} {n:Nat} (hn:l.most=some n) {P:Params} {h:Heap} {args:List WData} {vals:List Value}
  (hpre:l.row.toRowW.claim.pre args=true) (hwl:WellAll P h vals args) :
  ∃ a vs ns,vals = [Value.ref a]/\args = [WData.list (ns.map WData.int)]/\h.get? a=some { cls:=.type "list",data:=.seq vs.toArray }/\IntsAre vs ns/\ns.length<=n:=by
 have hsh:WShape.hasAll [] args [.list .int] = true:=(pre_splitW hpre).1
 have hc:l.pre.holds [] { args:=args }=true:=(pre_splitW hpre).2
 obtain⟨d,r,rfl,h1,h2⟩:=hasAllW_cons hsh
 obtain rfl:=hasAllW_nil h2
 obtain⟨xs,rfl,h3⟩:=hasW_list h1
 obtain⟨ns,rfl⟩:=items_int h3
 have hlen:ns.length<=n:=by
  unfold OpenLaw.pre at hc
  have h4:(WTm.not (.lt (.lit (.int (n:Int))) (.len (.arg 0)))).holds [] { args:=[.list (ns.map .int)] }=true:=by
   have h4:=(holds_andW hc).1
   rw [hn] at h4
   exact h4
  have h5:=condW_of h4 (w_not (w_lt w_lit (w_len_list (w_arg rfl))))
  rw [List.length_map] at h5
  refine Nat.le_of_not_lt fun q=>?_
  have q':(n:Int) < ((ns.length:Nat):Int):=by omega
  first
   | (rw [decide_eq_true q'] at h5;exact absurd h5 (by decide))
   | (simp at h5;omega)
 cases hwl with
 | cons w1 w2 =>
  cases w2
  cases w1 with
  | list ho hall=>exact⟨_,_,ns,rfl,rfl,ho,kc ns _ hall,hlen⟩
theorem qo (l:OpenLaw) (args:List WData):l.row.toRowW.claim.post args (.bool true) args=true :=
 postW_of (r:=l.row.toRowW) (X:=(true == true))
  (show WShape.has [] (.bool true) .bool=true by first | rfl | decide | simp [WShape.has,WShape.arms,WShape.armsAll])
  (show (WTm.eq .res (.lit (.bool true))).value [] { args:=args,res:=some (.bool true),after:=args }=some (.bool (true == true)) from w_eq_bool (w_res rfl) w_lit) rfl
theorem nK {l:OpenLaw} {n:Nat} {q:Program} {loose:List Str} {XP:(Str->Option Value)->Heap->Prop} {YP:World->Heap->Prop} {d:DefRec}
  (hn:l.most=some n) (hdf:d.params.defaults = [])
  (call:∀ (w:World) (cB s₁ : Shared) (mg mb:Str->Option Value) (fa:Addr) (o:Obj) (pm cd doc:Value) (a:Addr) (vs:List Value) (ns:List Int),
   Ground q loose [] XP w cB mg mb s₁.heap->YP w s₁.heap ->
   s₁.heap.get? fa=some o->o.data=.func (docDef d.name d.params d.body d.scope pm cd doc)->s₁.heap.CodeRec cd d.name->mg d.name=some (.ref fa) ->
   s₁.heap.get? a=some { cls:=.type "list",data:=.seq vs.toArray }->IntsAre vs ns->ns.length<=n->s₁.gens = #[] ->
   codeAny (model l.prog w) callerA (.call (.ref fa) ⟨[.ref a],[]⟩) (fun r s'=>r=.ok (.ret (.bool true))/\OldK s₁.heap s'.heap/\s'.os=s₁.os/\AllBare s'.gens) s₁) :
  WalkO q loose XP YP l.row.toRowW d [] (fun f vs=>PySem.call f vs):=by
 intro w cB s₁ mg mb G Y fa o pm cd doc dV kV ho hd hcd hD hmg hg args vals as hpre hlay hrd hwl hlo
 obtain rfl:dV=.none:=Dflts.none hD hdf
 obtain rfl:kV=.none:=Dflts.noKw hD
 obtain⟨a,vs,ns,rfl,rfl,hobj,hints,hlen⟩:=qm hn hpre hwl
 refine enter_call (codeAny_mono (call w cB s₁ mg mb fa o pm cd doc a vs ns G Y ho (fd_plain hd) hcd hmg hobj hints hlen hg) fun r s' hq=>?_)
 obtain⟨rfl,h2,h3,h4⟩:=hq
 exact⟨.inl ⟨.bool true,.bool true,[],rfl,fun _=>rfl,.bool true,qo l _,fun _=>⟨List.Pairwise.nil,fun _ hm=>(nomatch hm)⟩⟩,h2,h3,h4⟩
section
variable {prog:Program} {w:World} {A:Around} {E:Value->Shared->Prop} {s:Shared} {K:Frag}
def ledger (h:Heap) (L d:Addr):List (Addr × Obj):=(List.range h.objs.size).filterMap fun a=>if a=L\/a=d then none else (h.get? a).map fun o=>(a,o)
end
end wO
namespace L2
open PySem PySem.Spec PyProof.Rows
theorem lI:∀ {vs:List Value} {ns:List Int},IntsAre vs ns->Vals (ns.map V.int) vs
 | _,_,.nil=>.nil
 | _,_,.cons n t h=>.cons ⟨t,rfl⟩ (lI h)
def rH (H:Hp):Prop:=∀ b,H b=none\/∃ o xs,H b=some (.dC o (.lst xs))
theorem rJ {P:Program} {w:World} {K:PySem.W.Frag} {mg mb:Str->Option Value} {CX:iZ} {k:Nat} {fa a:Addr} {fd:FuncData} {x:Str} {sp:Sp} {s₁ : Shared} {vs:List Value} {ns:List Int}
    (KX:K.In s₁.heap) (hns:s₁.heap.Ns mainGlobals mg) (hb:s₁.heap.Ns builtinsNs mb) (hbb:∀ x:Str,x ≠ "__name__" -> mb x=bootBuiltins x) (hlim:s₁.heap.NoLimit) (hg:s₁.gens = #[])
    (ha:s₁.heap.get? a=some { cls:=.type "list",data:=.seq vs.toArray }) (hi:IntsAre vs ns) (hl:ns.length<=sizeLine) (hr:dB k callerA)
    (F:∀ base:Heap,K.In base->base.Ns mainGlobals mg->bI P w K mg base CX k fa fd [x] sp) (hbind:∀ (s:Shared) (u:Value),BindsTo s fd ⟨[u],[]⟩ [(x,u)])
    (hsp:∀ H:Hp,rH H->av K H a (ns.map V.int)->sp [.ref a] H (fun v _=>v=.bl true) fun _ _ _=>False)
    (hCX:∀ H e s',CX [] H s₁ (fun _ _ _=>False) e s'->False) :
    codeAny (model P w) callerA (.call (.ref fa) ⟨[.ref a],[]⟩) (fun r s'=>r=.ok (.ret (.bool true))/\OldK s₁.heap s'.heap/\s'.os=s₁.os/\AllBare s'.gens) s₁:=by
  have rv:=lI hi
  have lenV:=hi.length
  have core:∀ H:Hp,rH H->av K H a (ns.map V.int)->cH P w H s₁.heap->(∀ b,H b ≠ none->b=a)->(H a ≠ none->K.lookup a=none) ->
      codeAny (model P w) callerA (.call (.ref fa) ⟨[.ref a],[]⟩) (fun r s'=>r=.ok (.ret (.bool true))/\OldK s₁.heap s'.heap/\s'.os=s₁.os/\AllBare s'.gens) s₁:=by
    intro H hO hS aA hA hK
    have base_of:∀ {b:Addr} {o:Obj},s₁.heap.get? b=some o->H b=none->(ik s₁.heap H).get? b=some o:=fun e n=>rf e n
    have noA:∀ {b:Addr} {o:Obj} {es:Array DictEntry} {ep:Nat},s₁.heap.get? b=some o->o.data=.dict es ep->H b=none:=fun {b o es ep} e d=>by
      cases q:H b with
      | none=>rfl
      | some u =>
        have e':b=a:=hA b (by rw [q];simp)
        subst e'
        rw [ha] at e;cases e
        have d':Data.seq vs.toArray _=Data.dict es ep:=d
        cases d'
    have nsK:∀ {b:Addr} {m:Str->Option Value},s₁.heap.Ns b m->(ik s₁.heap H).Ns b m:=fun {b m} ⟨o,es,ep,e,d,r⟩=>⟨o,es,ep,base_of e (noA e d),d,r⟩
    have hKb:K.In (ik s₁.heap H):=fun b o e=>base_of (KX b o e) (by
      cases q:H b with
      | none=>rfl
      | some u =>
        have e':b=a:=hA b (by rw [q];simp)
        subst e'
        rw [hK (by rw [q];simp)] at e;cases e)
    have hM:Mod K mg (ik s₁.heap H):=⟨hKb,nsK hns,⟨mb,nsK hb,hbb⟩,let ⟨mc,h1,h2⟩:=hlim;⟨mc,nsK h1,h2⟩⟩
    have e0:o7 P w K mg (ik s₁.heap H) callerA [] s₁ H:=⟨rfl,hM,fun b o e=>tG e,Nat.le_of_eq (pZ _ _),trivial,fun b hb=>absurd (show b ∈ ([]:List Addr) from hb) (by simp),aA,.of_eq hg⟩
    refine codeAny_mono ((F _ hKb (nsK hns)).run callerA [] s₁ H ⟨[.ref a],[]⟩ [.ref a] [.ref a] _ _ hr e0 (hbind s₁ (.ref a)) (.cons rfl .nil) (hsp H hO hS)) fun r s' h=>?_
    cases r with
    | error e=>exact (hCX H e s' h).elim
    | ok fl =>
      cases fl with
      | next=>exact False.elim h
      | brk=>exact False.elim h
      | cont=>exact False.elim h
      | ret u =>
        obtain⟨v,H',os,bare,un,hok',r',q⟩:=h
        have q':v=.bl true:=q
        subst q'
        obtain rfl:u=Value.bool true:=r'
        refine⟨rfl,OldK.of_keep fun b o e=>?_,os,bare⟩
        cases q:H b with
        | none=>exact un.keep b o e q (by intro z;exact absurd (show b ∈ ([]:List Addr) from z) (by simp)) (by simp)
        | some u =>
          rcases hO b with z | ⟨ob,xs,z⟩
          · rw [q] at z;cases z
          · have z2:=un.fS b ob _ z
            obtain⟨e1,_⟩:=aA b _ z
            obtain⟨e2,_⟩:=hok' b _ z2
            rw [e] at e1;cases e1
            exact e2
  cases hk:K.lookup a with
  | some o =>
    have e:=KX a o hk
    rw [ha] at e
    cases e
    refine core (fun _=>none) (fun _=>.inl rfl) (.inr ⟨_,vs.toArray,_,hk,rfl,rfl,rfl,by rw [List.size_toArray,lenV];exact hl,by simpa using rv⟩) (fun b u z=>by have z':(none:Option HO)=some u:=z;cases z') (fun b z=>absurd rfl z) fun z=>absurd rfl z
  | none =>
    refine core (fun b=>if b=a then some (.dC { cls:=.type "list",data:=.seq vs.toArray } (.lst (ns.map V.int))) else none) (fun b=>?_) (.inl (.inr ⟨{ cls:=.type "list",data:=.seq vs.toArray },if_pos rfl⟩)) (fun b u z=>?_) (fun b z=>?_) fun _=>hk
    · by_cases hb:b=a
      · exact .inr ⟨_,_,if_pos hb⟩
      · exact .inl (if_neg hb)
    · by_cases hb:b=a
      · have z':=(if_pos hb).symm.trans z
        cases z'
        subst hb
        exact⟨ha,by rw [List.length_map];exact hl,vs,_,rv,ha⟩
      · have z':=(if_neg hb).symm.trans z
        cases z'
    · by_cases hb:b=a
      · exact hb
      · exact absurd (if_neg hb) z
abbrev KOf {K:PySem.W.Frag} {h:Heap} (_:K.In h):PySem.W.Frag:=K
theorem tP {l:PySem.W.OpenLaw} {n k:Nat} {q:Program} {loose:List Str} {XP:(Str->Option Value)->Heap->Prop} {YP:World->Heap->Prop} {d:DefRec} {K:Params->PySem.W.Frag} {CX:World->iZ} {sp:World->Sp} {x:Str}
  (hn:l.most=some n) (hn2:n<=sizeLine) (hdf:d.params.defaults = []) (hr:dB k callerA)
  (hY:∀ (w:World) (h:Heap),YP w h->(K w.params).In h)
  (F:∀ (w:World) (mg:Str->Option Value) (fa:Addr) (h:Heap),(K w.params).In h->h.Ns mainGlobals mg->mg d.name=some (.ref fa) ->
   ∃ fd:FuncData,(∀ (s:Shared) (u:Value),BindsTo s fd ⟨[u],[]⟩ [(x,u)]) /\
    ∀ base:Heap,(K w.params).In base->base.Ns mainGlobals mg->bI l.prog w (K w.params) mg base (CX w) k fa fd [x] (sp w))
  (hsp:∀ (w:World) (H:Hp) (a:Addr) (ns:List Int),ns.length<=n->rH H->av (K w.params) H a (ns.map V.int)->sp w [.ref a] H (fun v _=>v=.bl true) fun _ _ _=>False)
  (hCX:∀ (w:World) (H:Hp) (s:Shared) (e:Value) (s':Shared),CX w [] H s (fun _ _ _=>False) e s'->False) :
  PySem.W.WalkO q loose XP YP l.row.toRowW d [] (fun f vs=>PySem.call f vs):=by
 refine wO.nK hn hdf fun w cB s₁ mg mb fa o pm cd doc a vs ns G Y ho hd hcd hmg hobj hints hlen hg=>?_
 have KX:=hY w _ Y
 obtain⟨fd,hb,hF⟩:=F w mg fa _ KX G.T.g hmg
 exact rJ KX G.T.g G.T.b G.T.builtins G.T.nolimit hg hobj hints (Nat.le_trans hlen hn2) hr hF hb (fun H hO hS=>hsp w H a ns hlen hO hS) fun H e s'=>hCX w H s₁ e s'
def aT (s:Stmt):Arguments:=match s with
 | .FunctionDef _ a _ _ _ _ _ _ _ _=>a
 | _=>{ posonlyargs:=[],args:=[],vararg:=none,kwonlyargs:=[],kw_defaults:=[],kwarg:=none,defaults:=[] }
def aR (s:Stmt):List Stmt:=match s with
 | .FunctionDef _ _ b _ _ _ _ _ _ _=>b
 | _=>[]
def au (s:Stmt):Scope:=match s with
 | .FunctionDef _ _ _ _ _ _ sc _ _ _=>sc
 | _=>{ kind:=.function,names:=[],isGenerator:=false,isCoroutine:=false }
abbrev cQ:iZ:=fun _ _ _ _ _ _=>False
abbrev E0:XK:=fun _ _ _=>False
theorem wq {X:Cx}:Passes cQ X E0:=fun _ _ _ _ _ _ _ h=>h.elim
structure dg (K:PySem.W.Frag) (x qual:Str) (st:Stmt) (f:Addr) (fd:FuncData):Prop where
 ex:∃ (oc:Value) (od:Option Addr) (kV doc pm:Value) (an:Option Addr) (cdv ct:Value) (osl:Array (Option Value)),
  fd=PySem.W.fnOf x qual (aT st) (aR st) (au st) .none kV doc pm an cdv ct/\K.lookup f=some ⟨oc,od,.func fd,osl⟩/\PySem.W.codeIn K cdv qual=true
 kp:PySem.W.keepIn K (.ref f)=true
section
variable {P:Program} {w:World} {K:PySem.W.Frag} {mg:Str->Option Value} {base:Heap}
theorem dg.ok {x qual:Str} {st:Stmt} {f:Addr} {fd:FuncData} {N ps:List Str} {k:Nat} {sp:Sp} (F:dg K x qual st f fd) (S:aX N ps (au st)) (len:∀ vs H Q E,sp vs H Q E->vs.length=ps.length)
  (hbody:∀ (cdv:Value) (A:Around) (outer:List Env) (s:Shared) (H:Hp) (vs:List V) (Q:VK) (E:XK),dB k (A.deeper (envOfC qual (au st) s.heap.objs.size f cdv))->sp vs H Q E ->
   ∃ t,hJ (kO cQ P w K mg base N qual (au st) f cdv A outer s H E).sT (aR st) t/\t { nx:=fun _ H'=>Q .ba H',rt:=Q } (start N vs) H):bI P w K mg base cQ (k+1) f fd ps sp:=by
 obtain⟨oc,od,kV,doc,pm,an,cdv,ct,osl,rfl,lk,hcd⟩:=F.ex
 refine wk lk hcd S len fun A outer s H vs Q E hr hsp=>?_
 obtain⟨t,h,q⟩:=hbody cdv A outer s H vs Q E hr hsp
 exact⟨t,h.sT,q⟩
theorem dg.binds {x qual:Str} {st:Stmt} {f:Addr} {fd:FuncData} {ps:List Str} (F:dg K x qual st f fd)
  (h:∀ (kV doc pm:Value) (an:Option Addr) (cdv ct:Value) (us:List Value),us.length=ps.length->bindArgs (PySem.W.fnOf x qual (aT st) (aR st) (au st) .none kV doc pm an cdv ct) ⟨us,[]⟩=pure (ps.zip us)):Binds K fd ps []:=by
 obtain⟨oc,od,kV,doc,pm,an,cdv,ct,osl,rfl,lk,hcd⟩:=F.ex
 exact .all (h kV doc pm an cdv ct)
theorem bH {x qual:Str} {st:Stmt} {f:Addr} {oc:Value} {od an:Option Addr} {osl:Array (Option Value)} {kV doc pm cdv ct:Value} (l:K.lookup f=some ⟨oc,od,.func (PySem.W.fnOf x qual (aT st) (aR st) (au st) .none kV doc pm an cdv ct),osl⟩)
  (c:PySem.W.codeIn K cdv qual=true) (k:PySem.W.keepIn K (.ref f)=true):dg K x qual st f (PySem.W.fnOf x qual (aT st) (aR st) (au st) .none kV doc pm an cdv ct):=⟨⟨oc,od,kV,doc,pm,an,cdv,ct,osl,rfl,l,c⟩,k⟩
end
theorem fW {A:Around} {k:Nat} (hr:dB k A):A.units+1 < cLine:=Nat.lt_of_le_of_lt (Nat.add_le_add_left (by decide:1<=64) _) hr.units
theorem bZ {n:Nat} (h:n<=1000):n < sizeLine:=Nat.lt_of_le_of_lt h (by decide)
section
variable {X:Cx}
theorem pv (i:Nat) {x:Str} {pos:Pos} (hN:X.N[i]? = some x:=by rfl) (hv:uL X.env.scope x:=by first | exact Or.inl rfl | exact Or.inr (Or.inl rfl) | exact Or.inr (Or.inr rfl)) (hd:(x == ("__debug__" : Str))=false:=by decide)
  (hcd:(x == ("__classdict__" : Str))=false:=by decide):PE X (.Name x pos) (oX i):=uM hN hv hd hcd
end
theorem dh {A B:Prop} (h:B):if false=true then A else B:=by
 rw [if_neg Bool.false_ne_true]
 exact h
theorem eW {A B:Prop} (h:A):if true=true then A else B:=by
 rw [if_pos rfl]
 exact h
theorem fj {c A B:Prop} [Decidable c] (h1:c->A) (h2:¬ c->B):if c then A else B:=by
 by_cases h:c
 ·rw [if_pos h]
  exact h1 h
 ·rw [if_neg h]
  exact h2 h
def af (H H':Hp):Prop:=∀ b o,H b=some o->H' b=some o
theorem af.refl (H:Hp):af H H:=fun _ _ h=>h
theorem af.trans {H H1 H2:Hp} (a:af H H1) (b:af H1 H2):af H H2:=fun c o h=>b c o (a c o h)
theorem af.free {H H':Hp} (e:af H H') {l:Addr} (h:H' l=Option.none):H l=Option.none:=by
 cases q:H l with
 | none=>rfl
 | some o =>
  rw [e l o q] at h
  cases h
section
variable {X:Cx}
theorem tQ:de X (binaryOp .Mult) (rI IntMulOk fun i j=>.int (i * j)):=om fun _ _ _ _ _ _ _ hc q=>mul_int q hc
def wu (_i j:Int):Prop:=0 < j/\j.natAbs.log2 < 9000
theorem rK:de X (binaryOp .FloorDiv) (rI wu fun i j=>.int (i / j)):=om fun i j _ _ _ _ _ hc q=>by
 have h1:(0:Int) < j:=hc.1
 exact floordiv_int (by omega) (by rw [Int.fdiv_eq_ediv_of_nonneg i (by omega)];exact q) (.inl (PyProof.noPylong_of_log2 hc.2))
structure Own (P:Program) (w:World) (K:PySem.W.Frag) (mg:Str->Option Value) (base:Heap) (x:Str) (k:Nat) (ps:List Str) (sp:Sp):Prop where
 ex:∃ f fd,bI P w K mg base cQ k f fd ps sp/\mg x=some (.ref f)/\PySem.W.keepIn K (.ref f)=true/\Binds K fd ps []
variable {x:Str} {k:Nat} {ps:List Str} {sp:Sp} {e:Expr} {es:List Expr} {t:TA} {p pos:Pos}
theorem ay (o:Own X.prog X.w X.K X.mg X.base x k ps sp) (hr:dB k X.A) (hg:Gl X x) (ha:PA X (e :: es) t)
  (hdb:(x == ("__debug__" : Str))=false:=by decide) (he:starEach (e :: es) X.env=(false,eval e X.env) :: starEach es X.env:=by rfl)
  (hpl:(backTo pos (starEach es X.env)).any (·.1)=false:=by rfl):PE X (.Call (.Name x p) (e :: es) [] pos) (sX sp [] E0 t):=by
 obtain⟨f,fd,F,hm,hk,hb⟩:=o.ex
 exact tK F hr hg hm hk hb .nil wq ha hdb he hpl
end
theorem di {α : Type} {x:α} {xs:List α}:d0 (x :: xs) 0=some x:=bh (j:=0) rfl
theorem dE {α : Type} {x y:α} {xs:List α}:d0 (x :: y :: xs) 1=some y:=bh (j:=1) rfl
theorem at2 {α : Type} {x y z:α} {xs:List α}:d0 (x :: y :: z :: xs) 2=some z:=bh (j:=2) rfl
theorem pB {α : Type} {xs:List α} {i:Int} (h0:0<=i) (h1:i < xs.length):∃ v,d0 xs i=some v/\v ∈ xs:=by
 obtain⟨j,rfl⟩:∃ j:Nat,i=j:=⟨i.toNat,by omega⟩
 have hj:j < xs.length:=by omega
 exact⟨xs[j],bh (by simp [hj]),List.getElem_mem hj⟩
theorem fm:bootBuiltins "len" = some (.builtin "len"):=by decide +kernel
theorem vi:bootBuiltins "min" = some (.builtin "min"):=by decide +kernel
theorem qp:bootBuiltins "int" = some (.type "int"):=by decide +kernel
theorem cK:bootBuiltins "tuple" = some (.type "tuple"):=by decide +kernel
theorem tR:bootBuiltins "list" = some (.type "list"):=by decide +kernel
def bM (H:Hp) (b:Addr):Prop:=∃ x y:Int,H b=some (.lst [.int x,.int y])/\0<=y/\y < 2147483648
def Fix (b:Addr) (H H':Hp):Prop:=∀ c o,H c=some o->c ≠ b->H' c=some o
theorem Fix.trans {b:Addr} {H H1 H2:Hp} (u:Fix b H H1) (v:Fix b H1 H2):Fix b H H2:=fun c o h n=>v c o (u c o h n) n
theorem Fix.sY {b:Addr} {H:Hp} {o:HO}:Fix b H (upd H b o):=fun c u h n=>by rw [ae n];exact h
theorem Fix.new {b p:Addr} {H:Hp} {o:HO} (hp:H p=none):Fix b H (upd H p o):=fun c u h _=>by rw [ae (aK h hp)];exact h
theorem Fix.of_same {b:Addr} {H H':Hp} (h:af H H'):Fix b H H':=fun c o e _=>h c o e
theorem af.new {p:Addr} {H:Hp} {o:HO} (hp:H p=none):af H (upd H p o):=fun c u h=>by rw [ae (aK h hp)];exact h
theorem bM.new {b p:Addr} {H:Hp} {o:HO} (h:bM H b) (hp:H p=none):bM (upd H p o) b:=by
 obtain⟨x,y,e,q⟩:=h
 exact⟨x,y,by rw [ae (aK e hp)];exact e,q⟩
theorem bM.same {b:Addr} {H H':Hp} (h:bM H b) (s:af H H'):bM H' b:=by
 obtain⟨x,y,e,q⟩:=h
 exact⟨x,y,s _ _ e,q⟩
theorem sZ {α : Type} {x0:α}:[x0].length<=sizeLine:=by show 1<=sizeLine;decide
theorem ln2 {α : Type} {x0 x1:α}:[x0,x1].length<=sizeLine:=by show 2<=sizeLine;decide
theorem gR {α : Type} {x0 x1 x2:α}:[x0,x1,x2].length<=sizeLine:=by show 3<=sizeLine;decide
theorem xR {α : Type} {x0 x1 x2 x3 x4:α}:[x0,x1,x2,x3,x4].length<=sizeLine:=by show 5<=sizeLine;decide
theorem xS {α : Type} {x0 x1 x2 x3 x4 x5 x6:α}:[x0,x1,x2,x3,x4,x5,x6].length<=sizeLine:=by show 7<=sizeLine;decide
theorem af.vj {b:Addr} {H H1 H2:Hp} (s:af H H1) (n:H b=none) (f:Fix b H1 H2):af H H2:=fun c o e=>f c o (s c o e) (aK e n)
theorem bM.mC {b p:Addr} {H:Hp} {xs:List V} (h:bM H b) (e:H p=some (.tup xs)):p ≠ b:=by
 obtain⟨x,y,e1,_⟩:=h
 exact bS e e1 (by intro z;cases z)
theorem bM.dG {b p:Addr} {H:Hp} (h:bM H b) (e:H p=none):p ≠ b:=by
 obtain⟨x,y,e1,_⟩:=h
 exact fun z=>aK e1 e z.symm
def pC (K:PySem.W.Frag):Sp:=fun vs H Q _=>∃ (a:Addr) (ns:List Int) (k:Int),vs = [.ref a,.int k]/\av K H a (ns.map V.int)/\0<=k /\
 ∀ b H',H b=none->bM H' b->af H H'->Q (.ref b) H'
def eQ:Sp:=fun vs H Q _=>∃ (b:Addr) (m:Int),vs = [.ref b,.int m]/\bM H b/\(0 < m/\m.natAbs.log2 < 9000) /\
 ∀ r H',0<=r->r < m->bM H' b->Fix b H H'->Q (.int r) H'
def lX (K:PySem.W.Frag):Sp:=fun vs H Q _=>∃ (a:Addr) (ns:List Int),vs = [.ref a]/\av K H a (ns.map V.int)/\ns.length<=63/\∀ H',Q (.bl true) H'
def eR (cells:List (Str × Addr)):List (Str × NameKind)->List (Str × Addr)->List (Str × Addr)
 | [],cs=>cs
 | (n,k) :: r,cs=>eR cells r (if k == .free then (n,(cells.lookup n).getD 0) :: cs else cs)
theorem fX {scope:Scope} {env:Env} (hf:∀ y ∈ scope.names,y.2=.free->∃ c,env.cells.lookup y.1=some c):closureFor scope env=pure (eR env.cells scope.names []):=by
 have key:∀ (names:List (Str × NameKind)) (cs:List (Str × Addr)),(∀ y ∈ names,y.2=.free->∃ c,env.cells.lookup y.1=some c) ->
   (forIn names cs fun x r=>match x with
    | (name,kind)=>if (kind == NameKind.free)=true then (do let a <-cellOf env name;pure (ForInStep.yield ((name,a) :: r))) else pure (ForInStep.yield r):Sem (List (Str × Addr)))=pure (eR env.cells names cs):=by
  intro names
  induction names with
  | nil=>intro cs _;rfl
  | cons y r ih =>
   intro cs hy
   obtain⟨n,k⟩:=y
   have ih':=fun cs=>ih cs fun z hz=>hy z (List.mem_cons_of_mem _ hz)
   rw [List.forIn_cons]
   by_cases hk:(k == NameKind.free)=true
   ·have e:k=.free:=by simpa using hk
    obtain⟨c,hc⟩:=hy (n,k) List.mem_cons_self e
    have hc':env.cells.lookup n=some c:=hc
    simp only [hk,if_true,cellOf,hc',pure_bind,eR,Option.getD_some]
    exact ih' _
   ·have hk':(k == NameKind.free)=false:=by simpa using hk
    simp only [hk',Bool.false_eq_true,if_false,pure_bind,eR]
    exact ih' _
 unfold closureFor
 have e:=key scope.names [] hf
 show ((forIn scope.names ([]:List (Str × Addr)) fun x r=>match x with
    | (name,kind)=>if (kind == NameKind.free)=true then (do let a <-cellOf env name;pure (ForInStep.yield ((name,a) :: r))) else pure (ForInStep.yield r):Sem (List (Str × Addr))) >>= fun r=>pure r)=_
 rw [e,pure_bind]
theorem fO {cells:List (Str × Addr)}:∀ (names:List (Str × NameKind)) (cs:List (Str × Addr)),(∀ y ∈ names,y.2=.free->∃ c,cells.lookup y.1=some c) ->
  (∀ x c,cs.lookup x=some c->cells.lookup x=some c)->∀ x c,(eR cells names cs).lookup x=some c->cells.lookup x=some c
 | [],_,_,h,x,c,e=>h x c e
 | (n,k) :: r,cs,hf,h,x,c,e=>by
  refine fO r _ (fun y hy=>hf y (List.mem_cons_of_mem _ hy)) (fun z d hz=>?_) x c e
  by_cases hk:(k == NameKind.free)=true
  ·rw [if_pos hk] at hz
   obtain⟨c',hc⟩:=hf (n,k) List.mem_cons_self (by simpa using hk)
   have hc':cells.lookup n=some c':=hc
   rw [List.lookup_cons] at hz
   cases hzn:z == n with
   | true =>
    rw [hzn] at hz
    have:z=n:=by simpa using hzn
    subst this
    rw [hc'] at hz ⊢
    simpa using hz
   | false=>rw [hzn] at hz;exact h z d hz
  ·rw [if_neg hk] at hz;exact h z d hz
theorem hZ {cells:List (Str × Addr)} {x:Str}:∀ (names:List (Str × NameKind)) (cs:List (Str × Addr)),((x,NameKind.free) ∈ names\/∃ c,cs.lookup x=some c)->∃ c,(eR cells names cs).lookup x=some c
 | [],_,h=>by
  rcases h with h | h
  ·cases h
  ·exact h
 | (n,k) :: r,cs,h=>by
  refine hZ r _ ?_
  by_cases hk:(k == NameKind.free)=true
  ·rw [if_pos hk]
   cases hxn:x == n with
   | true=>exact .inr ⟨_,by rw [List.lookup_cons,hxn]⟩
   | false =>
    rcases h with h | ⟨c,h⟩
    ·rcases List.mem_cons.mp h with h | h
     ·have:x=n:=(Prod.mk.inj h).1
      subst this
      simp at hxn
     ·exact .inl h
    ·exact .inr ⟨c,by rw [List.lookup_cons,hxn];exact h⟩
  ·rw [if_neg hk]
   rcases h with h | h
   ·rcases List.mem_cons.mp h with h | h
    ·have:NameKind.free=k:=(Prod.mk.inj h).2
     subst this
     simp at hk
    ·exact .inl h
   ·exact .inr h
theorem gF {env:Env} {x:Str} {k:NameKind} (hk:k=.cell\/k=.free):∀ {names:List (Str × NameKind)},(∀ y ∈ names,y.2 ≠ .cell) ->
  (names.map fun (n,k)=>if (k == NameKind.free && env.scope.kind == .function && env.kindOf n == some .cell) then (n,NameKind.cell) else (n,k)).lookup x=some k->(x,NameKind.free) ∈ names
 | [],_,h=>by simp at h
 | (n,q) :: r,hc,h=>by
  have ih:=gF (env:=env) (x:=x) hk (names:=r) (fun y hy=>hc y (List.mem_cons_of_mem _ hy))
  have h':List.lookup x ((if (q == NameKind.free && env.scope.kind == .function && env.kindOf n == some .cell)=true then (n,NameKind.cell) else (n,q)) :: _)=some k:=h
  by_cases hq:(q == NameKind.free && env.scope.kind == .function && env.kindOf n == some .cell)=true
  ·rw [if_pos hq,List.lookup_cons] at h'
   have eq:q=.free:=by
    rw [Bool.and_eq_true,Bool.and_eq_true] at hq
    simpa using hq.1.1
   cases hxn:x == n with
   | true =>
    have:x=n:=by simpa using hxn
    subst this;subst eq
    exact List.mem_cons_self
   | false=>rw [hxn] at h';exact List.mem_cons_of_mem _ (ih h')
  ·rw [if_neg hq,List.lookup_cons] at h'
   cases hxn:x == n with
   | true =>
    rw [hxn] at h'
    have:x=n:=by simpa using hxn
    subst this
    have e:q=k:=Option.some.inj h'
    subst e
    rcases hk with hk | hk
    ·exact absurd hk (hc (x,q) List.mem_cons_self)
    ·subst hk;exact List.mem_cons_self
   | false=>rw [hxn] at h';exact List.mem_cons_of_mem _ (ih h')
theorem fo {env:Env} {x:Str}:∀ {names:List (Str × NameKind)},names.lookup x=some .free ->
  (names.map fun (n,k)=>if (k == NameKind.free && env.scope.kind == .function && env.kindOf n == some .cell) then (n,NameKind.cell) else (n,k)).lookup x=some .cell \/
  (names.map fun (n,k)=>if (k == NameKind.free && env.scope.kind == .function && env.kindOf n == some .cell) then (n,NameKind.cell) else (n,k)).lookup x=some .free
 | [],h=>by simp at h
 | (n,q) :: r,h=>by
  have ih:=fo (env:=env) (x:=x) (names:=r)
  show List.lookup x ((if (q == NameKind.free && env.scope.kind == .function && env.kindOf n == some .cell)=true then (n,NameKind.cell) else (n,q)) :: _)=some .cell \/
   List.lookup x ((if (q == NameKind.free && env.scope.kind == .function && env.kindOf n == some .cell)=true then (n,NameKind.cell) else (n,q)) :: _)=some .free
  rw [List.lookup_cons] at h
  by_cases hq:(q == NameKind.free && env.scope.kind == .function && env.kindOf n == some .cell)=true
  ·rw [if_pos hq,List.lookup_cons]
   cases hxn:x == n with
   | true=>exact .inl rfl
   | false=>rw [hxn] at h;exact ih h
  ·rw [if_neg hq,List.lookup_cons]
   cases hxn:x == n with
   | true=>rw [hxn] at h;exact .inr h
   | false=>rw [hxn] at h;exact ih h
def bB (X:Cx) (scope:Scope) (C:Addr) (N':List Str) (fp:List Addr) (s₁ : Shared) (H₁ : Hp):Cx where
 prog:=X.prog
 w:=X.w
 K:=X.K
 mg:=X.mg
 base:=X.base
 A:=X.A
 N:=N'
 cB:=s₁
 il:=H₁
 env:=compEnvC scope (eR X.env.cells scope.names []) C X.env
 outer:=X.stack
 stack:=X.stack
 ex:=fp
 fn:=fun _=>false
 calm:=X.calm
 pn:=[]
 xe:=fun _ _=>False
def d7 (X:Cx) (scope:Scope):List Str->List Nat->Prop
 | [],[]=>True
 | x :: fr,j :: js=>(X.N[j]? = some x/\(X.env.kindOf x=some .cell\/X.env.kindOf x=some .free)/\scope.names.lookup x=some .free)/\d7 X scope fr js
 | _,_=>False
theorem d7.len {X:Cx} {scope:Scope}:∀ {fr:List Str} {js:List Nat},d7 X scope fr js->fr.length=js.length
 | [],[],_=>rfl
 | _ :: _,_ :: _,h=>by simp [d7.len h.2]
 | [],_ :: _,h=>h.elim
 | _ :: _,[],h=>h.elim
theorem d7.mem {X:Cx} {scope:Scope} {x:Str}:∀ {fr:List Str} {js:List Nat},d7 X scope fr js->x ∈ fr->X.env.kindOf x=some .cell\/X.env.kindOf x=some .free
 | [],[],_,h=>by cases h
 | a :: fr,b :: js,h,hm=>by
  rcases List.mem_cons.mp hm with rfl | hm
  ·exact h.1.2.1
  ·exact d7.mem h.2 hm
 | [],_ :: _,h,_=>h.elim
 | _ :: _,[],h,_=>h.elim
theorem d7.get {X:Cx} {scope:Scope}:∀ {fr:List Str} {js:List Nat} {i:Nat} {x:Str} {j:Nat},d7 X scope fr js->fr[i]? = some x->js[i]? = some j ->
  X.N[j]? = some x/\(X.env.kindOf x=some .cell\/X.env.kindOf x=some .free)/\scope.names.lookup x=some .free
 | [],[],_,_,_,_,h,_=>by simp at h
 | a :: fr,b :: js,0,x,j,h,h1,h2=>by
  simp at h1 h2
  subst h1;subst h2
  exact h.1
 | a :: fr,b :: js,i+1,x,j,h,h1,h2=>d7.get h.2 (by simpa using h1) (by simpa using h2)
 | [],_ :: _,_,_,_,h,_,_=>h.elim
 | _ :: _,[],_,_,_,h,_,_=>h.elim
def dZ (n:Nat) (js:List Nat) (σ : St):St:=List.replicate n none++js.map fun j=>σ.getD j none
theorem mD {X:Cx} {pins:List (Addr × Obj)} {σ : St} {H:Hp} {s:Shared} {scope:Scope} {fp:List Addr} {C:Addr} {N':List Str} (I:Inv X pins σ H s) (hk:scope.kind=.function) (hcell:∀ y ∈ scope.names,y.2 ≠ .cell)
  (hf:∀ y ∈ scope.names,y.2=.free->∃ c,X.env.cells.lookup y.1=some c) (hC:s.heap.objs.size<=C) (hfp:∀ b ∈ fp,dW X pins H b) (hlt:∀ b ∈ fp,b < s.heap.objs.size):(bB X scope C N' fp s H).Ok:=by
 have ag:∀ x c,(eR X.env.cells scope.names []).lookup x=some c->X.env.cells.lookup x=some c:=fO scope.names [] hf fun x c e=>by simp at e
 refine⟨I.ok.mod,hk,I.ok.glob,I.ok.blt,hC,fun x y c h1 h2=>I.ok.inj x y c (ag x c h1) (ag y c h2),fun x hx=>?_,(fun x c h=>(by cases h)),I.ok.hd,I.ok.frames,.inl rfl,fun b hb=>?_,I.bs,?_,fun b o e hb=>?_,fun b hb=>?_,I.stack,I.nZ⟩
 ·refine hZ scope.names [] (.inl ?_)
  rcases hx with hx | hx
  ·exact gF (.inl rfl) hcell hx
  ·exact gF (.inr rfl) hcell hx
 ·obtain⟨h1,h2,h3,h4,h5,h6⟩:=hfp b hb
  exact⟨Nat.ne_of_lt (Nat.lt_of_lt_of_le (hlt b hb) hC),fun x c e=>h5 x c (ag x c e)⟩
 ·exact Nat.le_trans I.ok.lu I.sz
 ·obtain⟨h1,h2,h3,h4,h5,h6⟩:=hfp b hb
  rcases h4 with h4 | h4
  ·exact I.ok.ma b o e h4
  ·exact absurd (Nat.lt_of_lt_of_le (Heap.lt_size e) (Nat.le_trans I.ok.lu h4)) (Nat.lt_irrefl _)
 ·obtain⟨h1,h2,h3,h4,h5,h6⟩:=hfp b hb
  intro z
  rcases List.mem_cons.mp (I.hG b z) with z | z
  ·exact h2 z
  ·exact h3 z
def oz (J:It) (n:Nat) (js:List Nat) (g:TG) (ct:TT) (te:TE) (acc:Addr) (σ : St) (H1:Hp) (Q:VK):Prop :=
 ∃ W:Nat->Nat->List V->St->Hp->Prop,(∃ m,W 0 m [] (dZ n js σ) (upd H1 acc (.lst [])))/\∀ i m ys τ H2,W i m ys τ H2->H2 acc=some (.lst ys)/\ys.length < sizeLine /\
  ((J.stop i H2/\Q (.ref acc) H2)\/(J.go i H2/\∃ N:List V->St->Hp->Prop,(∀ ys' τ' H',N ys' τ' H'->∃ m',m' < m/\W (i+1) m' ys' τ' H')/\∀ x H3,J.iX i H2 x H3->g x τ H3 fun τ1 H4=>ct τ1 H4 fun b H5 =>
   if b=true then te τ1 H5 fun y H6=>H6 acc=some (.lst ys)/\N (ys ++ [y]) τ1 (upd H6 acc (.lst (ys ++ [y]))) else N ys τ1 H5))
def wQ (n:Nat) (js:List Nat) (wi:TI) (g:TG) (ct:TT) (te:TE):TE:=fun σ H Q=>wi σ H fun J H1=>∀ acc,H1 acc=none->oz J n js g ct te acc σ H1 Q
def i5 (X:Cx) (ifs:List Expr) (t:TT):Prop :=
 ∀ (pins:List (Addr × Obj)) (s:Shared) (σ : St) (H:Hp) (Q:Bool->Hp->Prop),Inv X pins σ H s->t σ H Q ->
  wpAny (model X.prog X.w) X.A (forIn ifs true fun c r=>if r=true then do let ok <-isTrue c X.env (eval c X.env);pure (ForInStep.yield ok) else pure (ForInStep.yield r)) (TP X pins σ Q) X.xe s
def vk:TT:=fun _ H Q=>Q true H
theorem cE {X:Cx}:i5 X [] vk:=fun _ _ σ H Q I h=>wpAny_pure ⟨H,I,h⟩
theorem gh {X:Cx} {c:Expr} {t:TT} (h:PT X c t):i5 X [c] t:=by
 intro pins s σ H Q I q
 rw [List.forIn_cons]
 simp only [if_true,bind_assoc,pure_bind]
 refine wpAny_bind (aH (h pins s σ H Q I q) fun b s1 h1=>?_)
 exact wpAny_pure h1
section
variable {X:Cx} {pos:Pos}
theorem iR {prog:Program} {w:World} {A:Around} {R:Result->Shared->Prop} {s:Shared} {elt target iter:Expr} {ifs:List Expr} {scope:Scope} {pos:Pos} {it acc:Value} {env:Env} (I:Nat->Shared->Prop)
  (turn:∀ n s,I n s->wpAny (model prog w) A (pyNext it) (fun r s₁=>match r with
   | none=>R (.ok .next) s₁
   | some v=>wpAny (model prog w) A (letOwnedTupleGo target it v) (fun _ s₁'=>wpAny (model prog w) A (assign target env v) (fun _ s₂ =>
     wpAny (model prog w) A (forIn ifs true fun c r=>if r=true then do let ok <-isTrue c env (eval c env);pure (ForInStep.yield ok) else pure (ForInStep.yield r)) (fun ok s₃ =>
      if ok=true then wpAny (model prog w) A (eval elt env) (fun x s₄ =>
       wpAny (model prog w) A (call (.builtin "list.append") [acc,x]) (fun _ s₅=>∃ m,m < n/\I m s₅) (fun _ _=>False) s₄) (fun _ _=>False) s₃
      else ∃ m,m < n/\I m s₃) (fun _ _=>False) s₂) (fun _ _=>False) s₁') (fun _ _=>False) s₁) (fun _ _=>False) s)
  (n:Nat) (h:I n s) :
  codeAny (model prog w) A (.compLoop (.ListComp elt [⟨target,iter,ifs,0⟩] scope pos) 0 it acc env) R s:=by
 refine codeAny_loop rfl I (fun n s hI=>?_) n h
 show wpAny _ A ((compTurn (.ListComp elt [⟨target,iter,ifs,0⟩] scope pos) 0 it acc env).onRaise (fun x=>do noteFrame x env;theTreesLotGoes x)) _ _ s
 refine wpAny_noted ?_
 rw [compTurn_list]
 refine wpAny_bind (wpAny_standAt (wpAny_bind (wpAny_mono (turn n s hI) (fun r s₁ h₁=>?_) fun _ _ h'=>h'.elim)))
 cases r with
 | none=>exact wpAny_pure h₁
 | some v =>
  refine wpAny_bind (wpAny_mono h₁ (fun _ s₁' h₁'=>?_) fun _ _ h'=>h'.elim)
  refine wpAny_bind (wpAny_mono h₁' (fun _ s₂ h₂=>wpAny_bind (wpAny_mono h₂ (fun ok s₃ h₃=>?_) fun _ _ h'=>h'.elim)) fun _ _ h'=>h'.elim)
  cases ok with
  | false=>exact wpAny_pure ⟨rfl,h₃⟩
  | true =>
   exact wpAny_bind (wpAny_bind (wpAny_mono h₃ (fun x s₄ h₄=>wpAny_bind (wpAny_mono h₄ (fun _ s₅ h₅=>wpAny_pure (wpAny_pure ⟨rfl,h₅⟩)) fun _ _ h'=>h'.elim)) fun _ _ h'=>h'.elim))
theorem oA {pins:List (Addr × Obj)} {σ : St} {H:Hp} {s:Shared} {E:Value->Shared->Prop} {tg elt iter:Expr} {ifs:List Expr} {scope:Scope} {g:TG} {ct:TT} {te:TE} {ts fr:List Str} {js:List Nat}
    {it:Addr} {fp:List Addr} {tn:Nat->Heap->Prop} {J:It} {Q:VK} {RR:Value->Addr->Result->Shared->Prop}
    (hc:X.calm=true) (hkind:scope.kind=.function) (hcell:∀ y ∈ scope.names,y.2 ≠ .cell) (hfree:∀ y ∈ scope.names,y.2=.free->X.env.kindOf y.1=some .cell\/X.env.kindOf y.1=some .free)
    (hfr:d7 X scope fr js) (htg:∀ C fp s₁ H₁,PG (bB X scope C (ts++fr) fp s₁ H₁) tg g) (hct:∀ C fp s₁ H₁,i5 (bB X scope C (ts++fr) fp s₁ H₁) ifs ct) (hte:∀ C fp s₁ H₁,PE (bB X scope C (ts++fr) fp s₁ H₁) elt te)
    (I:Inv X pins σ H s) (T:Turn X.prog X.w X.K tg J fp it tn) (st:tn 0 s.heap) (hfp:∀ b ∈ fp,dW X pins H b)
    (h:∀ acc,H acc=none->oz J ts.length js g ct te acc σ H Q)
    (hRR:∀ acc C H' s' m,Inv X pins σ H' s'->s'.heap.Ns C m->H' C=none->s.heap.objs.size<=C->Q (.ref acc) H'->RR (.ref acc) C (.ok .next) s') :
    wpAny (model X.prog X.w) X.A (newList []) (fun acc s₃=>wpAny (model X.prog X.w) X.A (newFunctionEnv scope X.env.globals (eR X.env.cells scope.names []) [] X.env.qual none .none (some X.env)) (fun cenv s₄ =>
      codeAny (model X.prog X.w) X.A (.compStart (.ListComp elt [⟨tg,iter,ifs,0⟩] scope pos) 0 (.ref it) acc { cenv with scope:=relabel scope X.env }) (RR acc cenv.locals) s₄) E s₃) E s:=by
  have hf:∀ y ∈ scope.names,y.2=.free->∃ c,X.env.cells.lookup y.1=some c:=fun y hy e=>I.ok.has y.1 (hfree y hy e)
  have ag:∀ x c,(eR X.env.cells scope.names []).lookup x=some c->X.env.cells.lookup x=some c:=fO scope.names [] hf fun x c e=>by simp at e
  have hlt:∀ b ∈ fp,b < s.heap.objs.size:=fun b hb=>by
    obtain⟨o,e,_⟩:=T.obj _ _ st b hb
    exact Heap.lt_size e
  refine wpAny_newObj_type (wpAny_newFunctionEnv hcell (by intro y hy;simp at hy) (fun h₁ hns₁ hsb₁=>?_) hkind)
  dsimp only at hns₁ hsb₁ ⊢
  generalize hH2:s.heap.push { cls:=.type "list",dict:=none,data:=.seq ([]:List Value).toArray }=G2 at hns₁ hsb₁ ⊢
  have hC:G2.objs.size=s.heap.objs.size+1:=by rw [<-hH2,Heap.size_push]
  have hDC:s.heap.objs.size ≠ G2.objs.size:=by rw [hC];exact Nat.ne_of_lt (Nat.lt_succ_self _)
  have hCle:s.heap.objs.size<=G2.objs.size:=by rw [hC];exact Nat.le_succ _
  have below:∀ b,b < s.heap.objs.size->b ≠ G2.objs.size/\b ≠ s.heap.objs.size:=fun b hb=>⟨by rw [hC];exact Nat.ne_of_lt (Nat.lt_succ_of_lt hb),Nat.ne_of_lt hb⟩
  have old:∀ b o,s.heap.get? b=some o->h₁.get? b=some o:=fun b o e=>hsb₁.extBut b o (below b (Heap.lt_size e)).1 (Heap.get?_push_of_some _ (hH2 ▸ Heap.get?_push_of_some _ e))
  have hacc:h₁.get? s.heap.objs.size=some { cls:=.type "list",data:=.seq ([]:List Value).toArray }:=hsb₁.extBut _ _ hDC (Heap.get?_push_of_some _ (hH2 ▸ Heap.get?_push_size _ rfl))
  have nD:H s.heap.objs.size=none:=I.aA.fresh (Nat.le_refl _)
  have nC:H G2.objs.size=none:=I.aA.fresh hCle
  obtain⟨W,⟨m0,w0⟩,turn⟩:=h s.heap.objs.size nD
  generalize hXb:bB X scope G2.objs.size (ts++fr) fp s H=Xb
  have Ib:∀ tk,Inv Xb [] (dZ ts.length js σ) (upd H s.heap.objs.size (.lst [])) { s with heap:=h₁,toks:=tk }:=by
    intro tk
    subst hXb
    refine⟨mD I hkind hcell hf hCle hfp hlt,rfl,I.bare,Un.laid old (Nat.le_refl _) nD,⟨_,hns₁,fun i x v e1 e2 e3=>?_⟩,fun x c e=>?_,?_,fun x c e=>?_,fun p hp=>absurd (show p ∈ ([]:List (Addr × Obj)) from hp) (by simp),I.aA.laid old (Nat.le_refl _) ⟨by show 0<=sizeLine;decide,[],_,.nil,hacc⟩,?_⟩
    · have hi:ts.length<=i:=by
        refine Nat.le_of_not_lt fun hi=>?_
        unfold dZ at e2
        rw [List.getElem?_append_left (by simpa using hi),List.getElem?_replicate] at e2
        split at e2 <;> cases e2
      have e1':fr[i - ts.length]? = some x:=by
        have e1'':(ts++fr)[i]? = some x:=e1
        rw [List.getElem?_append_right hi] at e1''
        exact e1''
      unfold dZ at e2
      rw [List.getElem?_append_right (by simpa using hi),List.length_replicate,List.getElem?_map] at e2
      cases ej:js[i - ts.length]? with
      | none=>rw [ej] at e2;cases e2
      | some j =>
        rw [ej] at e2
        have e2':σ.getD j none=some v:=by simpa using e2
        obtain⟨q1,q2,q3⟩:=hfr.get e1' ej
        have e2'':σ[j]? = some (some v):=by
          rw [List.getD_eq_getElem?_getD] at e2'
          cases ez:σ[j]? with
          | none=>rw [ez] at e2';cases e2'
          | some z=>rw [ez] at e2';rw [show z=some v from e2']
        obtain⟨m,hn,hl⟩:=I.loc
        obtain⟨u,r,l⟩:=hl j x v q1 e2'' (by
          rcases q2 with q2 | q2
          · exact .inr (.inl q2)
          · exact .inr (.inr q2))
        refine⟨u,r,.inr ⟨fo q3,?_⟩⟩
        rcases l with ⟨l,_⟩ | ⟨_,c,lc,lv⟩
        · rcases q2 with q2 | q2 <;> (rw [l] at q2;cases q2)
        · obtain⟨c',hc'⟩:=hZ (cells:=X.env.cells) scope.names [] (.inl (PySem.mem_of_lookup q3))
          have:=ag x c' hc'
          rw [lc] at this
          cases this
          obtain⟨o,ho,hd⟩:=lv
          exact⟨c,hc',o,old _ _ ho,hd⟩
    · obtain⟨v,o,ho,hd⟩:=I.cell x c (ag x c e)
      exact⟨v,o,old _ _ ho,hd⟩
    · show upd H s.heap.objs.size (.lst []) G2.objs.size=none
      rw [ae hDC.symm];exact nC
    · obtain⟨v,o,ho,hd⟩:=I.cell x c (ag x c e)
      rw [ae (Nat.ne_of_lt (Heap.lt_size ho))]
      exact I.cV x c (ag x c e)
    · show (dZ ts.length js σ).length=(ts++fr).length
      unfold dZ
      rw [List.length_append,List.length_replicate,List.length_map,List.length_append,hfr.len]
  have fpB:∀ {H':Hp},(∀ b ∈ fp,H' b=none)->∀ b ∈ fp,dW Xb [] H' b:=fun {H'} hn b hb=>by
    subst hXb
    obtain⟨h1,h2,h3,h4,h5,h6⟩:=hfp b hb
    refine⟨hn b hb,(below b (hlt b hb)).1,fun z=>?_,.inl hb,fun x c e=>h5 x c (ag x c e),fun p hp=>absurd (show p ∈ ([]:List (Addr × Obj)) from hp) (by simp)⟩
    rcases List.mem_cons.mp (I.hG b z) with z | z
    · exact h2 z
    · exact h3 z
  have fin:∀ {τ : St} {H':Hp} {s':Shared},Inv Xb [] τ H' s'->Q (.ref s.heap.objs.size) H'->RR (.ref s.heap.objs.size) G2.objs.size (.ok .next) s':=fun {τ H' s'} Jb q=>by
    subst hXb
    obtain⟨m,hn,_⟩:=Jb.loc
    refine hRR _ _ H' s' m (I.oW (ch:=fp) Jb.os Jb.base Jb.aA Jb.bare fun b hb=>?_) hn Jb.free hCle q
    obtain⟨h1,h2,h3,h4,h5,h6⟩:=hfp b hb
    exact⟨h4,h2,h5,h6⟩
  have loop:∀ tk,codeAny (model X.prog X.w) X.A (.compLoop (.ListComp elt [⟨tg,iter,ifs,0⟩] scope pos) 0 (.ref it) (.ref s.heap.objs.size) (compEnvC scope (eR X.env.cells scope.names []) G2.objs.size X.env))
        (RR (.ref s.heap.objs.size) G2.objs.size) { s with heap:=h₁,toks:=tk }:=by
    intro tk
    refine iR (fun n s'=>∃ i ys τ H',Inv Xb [] τ H' s'/\tn i s'.heap/\(∀ b ∈ fp,H' b=none)/\W i n ys τ H') ?_ m0 ⟨0,[],_,_,Ib tk,T.keep _ _ _ st fun b hb o e=>old b o e,fun b hb=>?_,w0⟩
    · rintro n s3 ⟨i,ys,τ,H3,I3,st3,fr3,w3⟩
      have htg':=htg G2.objs.size fp s H
      have hct':=hct G2.objs.size fp s H
      have hte':=hte G2.objs.size fp s H
      rw [hXb] at htg' hct' hte'
      have eP:Xb.prog=X.prog:=by subst hXb;rfl
      have ew:Xb.w=X.w:=by subst hXb;rfl
      have eK:Xb.K=X.K:=by subst hXb;rfl
      have eA:Xb.A=X.A:=by subst hXb;rfl
      have ec:Xb.calm=true:=by subst hXb;exact hc
      have ee:Xb.env=compEnvC scope (eR X.env.cells scope.names []) G2.objs.size X.env:=by subst hXb;rfl
      have ex:Xb.xe=fun _ _=>False:=by subst hXb;rfl
      rw [<-eP,<-ew,<-eA,<-ee]
      obtain⟨ha,hl,turn'⟩:=turn i n ys τ H3 w3
      rcases turn' with ⟨stop,q⟩ | ⟨go,N,hN,step⟩
      · have hd:=T.done Xb eP ew eK ec i [] s3 τ H3 (fun _ _=>False) I3 (fpB fr3) st3 stop
        rw [<-eP,<-ew] at hd
        refine wpAny_mono hd (fun r s4 hr4=>?_) fun _ _ z=>z
        obtain⟨hr,I4⟩:=hr4
        subst hr
        exact fin I4 q
      · have hd:=T.item Xb eP ew eK ec i [] s3 τ H3 (fun _ _=>False) I3 (fpB fr3) st3 go
        rw [<-eP,<-ew] at hd
        refine wpAny_mono hd (fun r s4 hr4=>?_) fun _ _ z=>z
        obtain⟨u,hr,h4⟩:=hr4
        subst hr
        refine wpAny_mono h4 (fun _ s5 ⟨x,H5,I5,r5,y5,st5,fr5⟩=>?_) fun _ _ z=>z
        have I5':=I5.pinned (fpB fr5) (T.obj _ _ st5)
        have keepT:∀ {σ7:St} {H7:Hp} {s7:Shared},Inv Xb ([] ++ fM fp s5.heap) σ7 H7 s7->tn (i+1) s7.heap/\∀ b ∈ fp,H7 b=none:=fun {σ7 H7 s7} I7=>by
          refine⟨T.keep _ _ _ st5 fun b hb o e=>(I7.pin (b,o) (List.mem_append_right _ (List.mem_append_right _ (bW hb e)))).1,fun b hb=>?_⟩
          obtain⟨o,e,d⟩:=T.obj _ _ st5 b hb
          exact (I7.pin (b,o) (List.mem_append_right _ (List.mem_append_right _ (bW hb e)))).2.1
        refine wpAny_mono (htg' _ s5 τ H5 x u _ I5' r5 (step x H5 y5)) (fun _ s6 ⟨τ6,H6,I6,q6⟩=>?_) (fun _ _ z=>by rw [ex] at z;exact z)
        refine wpAny_mono (hct' _ s6 τ6 H6 _ I6 q6) (fun ok s7 ⟨H7,I7,q7⟩=>?_) (fun _ _ z=>by rw [ex] at z;exact z)
        cases ok with
        | false =>
          have q7':N ys τ6 H7:=by rw [if_neg (by simp)] at q7;exact q7
          rw [if_neg (by simp)]
          obtain⟨m',hm,w7⟩:=hN _ _ _ q7'
          exact⟨m',hm,i+1,ys,τ6,H7,I7.cI,(keepT I7).1,(keepT I7).2,w7⟩
        | true =>
          rw [if_pos rfl] at q7 ⊢
          refine wpAny_mono (hte' _ s7 τ6 H7 _ I7 q7) (fun v s8 ⟨y,H8,I8,r8,ha8,n8⟩=>?_) (fun _ _ z=>by rw [ex] at z;exact z)
          refine wpAny_mono (bK (X:=Xb) _ s8 τ6 H8 (.ref s.heap.objs.size) [y] (.ref s.heap.objs.size) [v] (fun _ H9=>H9=upd H8 s.heap.objs.size (.lst (ys ++ [y]))) I8 rfl (.cons r8 .nil) ⟨_,ys,y,rfl,rfl,ha8,hl,rfl⟩) (fun _ s9 ⟨_,H9,I9,_,e9⟩=>?_) (fun _ _ z=>by rw [ex] at z;exact z)
          subst e9
          obtain⟨m',hm,w8⟩:=hN _ _ _ n8
          exact⟨m',hm,i+1,_,τ6,_,I9.cI,(keepT I9).1,(keepT I9).2,w8⟩
    · rw [ae (Nat.ne_of_lt (hlt b hb))]
      exact (hfp b hb).1
  exact codeAny_compStart_list (loop _) (T.self _ 0 _ _ _ (T.keep _ _ _ st fun b hb o e=>old b o e) (loop _))
theorem Inv.ke {pins:List (Addr × Obj)} {σ : St} {H H':Hp} {s s':Shared} {C:Addr} {h':Heap} (I:Inv X pins σ H s) {σ':St} (I':Inv X pins σ' H' s') (hC:H' C=none) (hle:s.heap.objs.size<=C) (hsb:Heap.SameBut C s'.heap h') :
  Inv X pins σ' H' { s' with heap:=h' }:=by
 obtain⟨h1,h2,h3,h4,h5,h6⟩:=I.gx (H':=H') hle hC
 exact I'.turned (t':=s'.toks) (fun b o hb e=>hsb.extBut b o hb e) hC h2 h4 h5 h6
theorem cL {tg elt iter:Expr} {ifs:List Expr} {scope:Scope} {wi:TI} {g:TG} {ct:TT} {te:TE} (ts fr:List Str) (js:List Nat)
  (hc:X.calm=true) (hi:PI X tg iter wi) (hkind:scope.kind=.function) (hcell:∀ y ∈ scope.names,y.2 ≠ .cell) (hnames:∀ y ∈ scope.names,y.2=.local->scope.names.lookup y.1=some .local)
  (hfree0:∀ y ∈ scope.names,y.2=.free->y.1 ∈ fr) (hfr:d7 X scope fr js)
  (htg:∀ C fp s₁ H₁,PG (bB X scope C (ts++fr) fp s₁ H₁) tg g) (hct:∀ C fp s₁ H₁,i5 (bB X scope C (ts++fr) fp s₁ H₁) ifs ct) (hte:∀ C fp s₁ H₁,PE (bB X scope C (ts++fr) fp s₁ H₁) elt te)
  (hs:∀ x,foldedSetIterable iter X.env x=pure x:=by intro _;rfl):PE X (.ListComp elt [⟨tg,iter,ifs,0⟩] scope pos) (wQ ts.length js wi g ct te):=by
 have hfree:∀ y ∈ scope.names,y.2=.free->X.env.kindOf y.1=some .cell\/X.env.kindOf y.1=some .free:=fun y hy e=>hfr.mem (hfree0 y hy e)
 intro pins s σ H Q I h
 rw [eval_ListComp]
 refine wpAny_comprehension_free (use:=none) rfl hs (fX fun y hy e=>I.ok.has y.1 (hfree y hy e)) hkind hnames (aH (hi pins s σ H _ I h) fun xv s1 h1=>aH h1 fun itv s2 h2=>?_)
 obtain⟨it,fp,tn,J,H2,e,I2,T,st2,f2,hW⟩:=h2
 subst e
 refine oA (RR:=fun acc C=>compPost (model X.prog X.w) X.A X.xe none (EP X pins σ Q) acc C) hc hkind hcell hfree hfr htg hct hte I2 T st2 f2 hW ?_
 intro acc C H' s' m I' hn hC hle q
 exact⟨m,hn,fun h' hsb=>⟨.ref acc,H',I2.ke I' hC hle hsb,rfl,q⟩⟩
theorem gG {tg elt iter:Expr} {ifs:List Expr} {scope:Scope} {wi:TI} {g:TG} {ct:TT} {te:TE} {i:Nat} {y:Str} {py spos:Pos} (ts fr:List Str) (js:List Nat)
  (hsw:swapsWith (.ListComp elt [⟨tg,iter,ifs,0⟩] scope pos) (some (.Name y py)) spos.line X.env=pure true) (hN:X.N.Nodup) (hi0:X.N[i]? = some y) (hx:X.env.scope.names.lookup y=some .local)
  (hc:X.calm=true) (hi:PI X tg iter wi) (hkind:scope.kind=.function) (hcell:∀ y ∈ scope.names,y.2 ≠ .cell) (hnames:∀ y ∈ scope.names,y.2=.local->scope.names.lookup y.1=some .local)
  (hfree0:∀ y ∈ scope.names,y.2=.free->y.1 ∈ fr) (hfr:d7 X scope fr js)
  (htg:∀ C fp s₁ H₁,PG (bB X scope C (ts++fr) fp s₁ H₁) tg g) (hct:∀ C fp s₁ H₁,i5 (bB X scope C (ts++fr) fp s₁ H₁) ifs ct) (hte:∀ C fp s₁ H₁,PE (bB X scope C (ts++fr) fp s₁ H₁) elt te)
  (hs:∀ x,foldedSetIterable iter X.env x=pure x:=by intro _;rfl):PS X (.Assign [.Name y py] (.ListComp elt [⟨tg,iter,ifs,0⟩] scope pos) spos) (oZ (wQ ts.length js wi g ct te) (j4 i)):=by
 have hfree:∀ y ∈ scope.names,y.2=.free->X.env.kindOf y.1=some .cell\/X.env.kindOf y.1=some .free:=fun y hy e=>hfr.mem (hfree0 y hy e)
 intro pins s σ H D I h
 rw [exec_Assign_Name_used _ _ _ _ hsw]
 refine wpAny_bind (wpAny_standAt (wpAny_bind ?_))
 show wpAny _ X.A (do let _ <-comprehension (.ListComp elt [⟨tg,iter,ifs,0⟩] scope pos) scope X.env _ (newList []) false (eval iter X.env) (some (assign (.Name y py) X.env))) _ _ s
 refine wpAny_bind (wpAny_mono (wpAny_comprehension_free (use:=some (assign (.Name y py) X.env)) (Q:=fun _ s'=>SP X pins D .next s') rfl hs (fX fun y hy e=>I.ok.has y.1 (hfree y hy e)) hkind hnames
  (aH (hi pins s σ H _ I h) fun xv s1 h1=>aH h1 fun itv s2 h2=>?_)) (fun _ s' hq=>wpAny_pure (wpAny_pure hq)) fun _ _ e=>e)
 obtain⟨it,fp,tn,J,H2,e,I2,T,st2,f2,hW⟩:=h2
 subst e
 refine oA (Q:=fun v H'=>D.nx (σ.set i (some v)) H') (RR:=fun acc C=>compPost (model X.prog X.w) X.A X.xe (some (assign (.Name y py) X.env)) (fun _ s'=>SP X pins D .next s') acc C) hc hkind hcell hfree hfr htg hct hte I2 T st2 f2 hW ?_
 intro acc C H' s' m I' hn hC hle q
 show wpAny _ X.A (assign (.Name y py) X.env (.ref acc)) _ _ _
 refine wpAny_assign_Name (iW I' hN hi0 (.inl hx) (v:=.ref acc) rfl (fun s'' I'' hch=>?_) (.inr hx))
 obtain⟨h1,h2,h3,h4,h5,h6⟩:=I2.gx (H':=H') hle hC
 obtain⟨a,hsb,ha⟩:=hch
 refine⟨m,hn.sameBut hsb ?_,fun h' hsb'=>⟨_,H',I2.ke I'' hC hle hsb',q⟩⟩
 rcases ha with ha | ha
 ·rw [ha];exact h2
 ·exact fun z=>h5 y a ha z.symm
end
theorem eB {K:PySem.W.Frag} {a acc:Addr} {xs:List V} {n:Nat} {js:List Nat} {g:TG} {ct:TT} {te:TE} {σ : St} {H1:Hp} {Q:VK} (Pv:Nat->List V->St->Hp->Prop) (h0:Pv 0 [] (dZ n js σ) (upd H1 acc (.lst [])))
  (hl:∀ i ys τ H,i<=xs.length->Pv i ys τ H->av K H a xs/\H acc=some (.lst ys)/\ys.length < sizeLine)
  (hs:∀ i x ys τ H,xs[i]? = some x->Pv i ys τ H->g x τ H fun τ1 H4=>ct τ1 H4 fun b H5=>if b=true then te τ1 H5 fun y H6=>H6 acc=some (.lst ys)/\Pv (i+1) (ys ++ [y]) τ1 (upd H6 acc (.lst (ys ++ [y]))) else Pv (i+1) ys τ1 H5)
  (hd:∀ ys τ H,Pv xs.length ys τ H->Q (.ref acc) H) :
  oz (mq K a) n js g ct te acc σ H1 Q:=by
 refine⟨fun i m ys τ H=>m=xs.length - i/\i<=xs.length/\Pv i ys τ H,⟨xs.length,by simp,Nat.zero_le _,h0⟩,?_⟩
 rintro i m ys τ H ⟨rfl,hi,p⟩
 obtain⟨q,q2,q3⟩:=hl i ys τ H hi p
 refine⟨q2,q3,?_⟩
 by_cases hlt:i < xs.length
 ·refine .inr ⟨⟨xs,xs[i],q,by simp [hlt]⟩,Pv (i+1),fun ys' τ' H' p'=>⟨xs.length - (i+1),by omega,rfl,hlt,p'⟩,fun x H' y=>?_⟩
  obtain⟨e,y⟩:=y
  subst e
  exact hs i x ys τ _ (y xs q) p
 ·have e:i=xs.length:=by omega
  subst e
  exact .inl ⟨⟨xs,q,Nat.le_refl _⟩,hd ys τ H p⟩
theorem mE {K:PySem.W.Frag} {a acc:Addr} {xs:List V} {n:Nat} {js:List Nat} {g:TG} {ct:TT} {te:TE} {σ : St} {H1:Hp} {Q:VK} (Pv:Nat->List V->St->Hp->Prop) (h0:Pv 0 [] (dZ n js σ) (upd H1 acc (.lst [])))
  (hl:∀ i ys τ H,i<=xs.length->Pv i ys τ H->ar K H a xs/\H acc=some (.lst ys)/\ys.length < sizeLine)
  (hs:∀ i x ys τ H,xs[i]? = some x->Pv i ys τ H->g x τ H fun τ1 H4=>ct τ1 H4 fun b H5=>if b=true then te τ1 H5 fun y H6=>H6 acc=some (.lst ys)/\Pv (i+1) (ys ++ [y]) τ1 (upd H6 acc (.lst (ys ++ [y]))) else Pv (i+1) ys τ1 H5)
  (hd:∀ ys τ H,Pv xs.length ys τ H->Q (.ref acc) H) :
  oz (oh K a) n js g ct te acc σ H1 Q:=by
 refine⟨fun i m ys τ H=>m=xs.length - i/\i<=xs.length/\Pv i ys τ H,⟨xs.length,by simp,Nat.zero_le _,h0⟩,?_⟩
 rintro i m ys τ H ⟨rfl,hi,p⟩
 obtain⟨q,q2,q3⟩:=hl i ys τ H hi p
 refine⟨q2,q3,?_⟩
 by_cases hlt:i < xs.length
 ·refine .inr ⟨⟨xs,xs[i],q,by simp [hlt]⟩,Pv (i+1),fun ys' τ' H' p'=>⟨xs.length - (i+1),by omega,rfl,hlt,p'⟩,fun x H' y=>?_⟩
  obtain⟨e,y⟩:=y
  subst e
  exact hs i x ys τ _ (y xs q) p
 ·have e:i=xs.length:=by omega
  subst e
  exact .inl ⟨⟨xs,q,Nat.le_refl _⟩,hd ys τ H p⟩
theorem iu {lo:Int} {k:Nat} {acc:Addr} {n:Nat} {js:List Nat} {g:TG} {ct:TT} {te:TE} {σ : St} {H1:Hp} {Q:VK} (Pv:Nat->List V->St->Hp->Prop) (h0:Pv 0 [] (dZ n js σ) (upd H1 acc (.lst [])))
  (hl:∀ i ys τ H,i<=k->Pv i ys τ H->H acc=some (.lst ys)/\ys.length < sizeLine)
  (hs:∀ i ys τ H,i < k->Pv i ys τ H->g (.int (lo+i)) τ H fun τ1 H4=>ct τ1 H4 fun b H5=>if b=true then te τ1 H5 fun y H6=>H6 acc=some (.lst ys)/\Pv (i+1) (ys ++ [y]) τ1 (upd H6 acc (.lst (ys ++ [y]))) else Pv (i+1) ys τ1 H5)
  (hd:∀ ys τ H,Pv k ys τ H->Q (.ref acc) H) :
  oz (mr lo k) n js g ct te acc σ H1 Q:=by
 refine⟨fun i m ys τ H=>m=k - i/\i<=k/\Pv i ys τ H,⟨k,by simp,Nat.zero_le _,h0⟩,?_⟩
 rintro i m ys τ H ⟨rfl,hi,p⟩
 obtain⟨q2,q3⟩:=hl i ys τ H hi p
 refine⟨q2,q3,?_⟩
 by_cases hlt:i < k
 ·refine .inr ⟨hlt,Pv (i+1),fun ys' τ' H' p'=>⟨k - (i+1),by omega,rfl,hlt,p'⟩,fun x H' y=>?_⟩
  obtain⟨e,y⟩:=y
  subst e y
  exact hs i ys τ _ hlt p
 ·have e:i=k:=by omega
  subst e
  exact .inl ⟨Nat.le_refl _,hd ys τ H p⟩
section
variable {X:Cx}
end
def xy (t:TS):TS:=fun D σ H=>∃ M:St->Hp->Prop,t { D with nx:=M } σ H/\∀ σ' H',M σ' H'->D.nx σ' H'
theorem mF {X:Cx} {st:Stmt} {t:TS} (h:PS X st t):PS X st (xy t):=by
 intro pins s σ H D I q
 obtain⟨M,q,hM⟩:=q
 refine aH (h pins s σ H _ I q) fun f s' hs=>?_
 cases f with
 | next =>
  obtain⟨σ',H',I',m⟩:=hs
  exact⟨σ',H',I',hM _ _ m⟩
 | brk=>exact hs
 | cont=>exact hs
 | ret u=>exact hs
theorem fP {m:Int} (h0:0 < m) (h1:m < 1073741824):m.natAbs.log2 < 9000:=by
 have h:m.natAbs.log2 < 30:=(Nat.log2_lt (by omega)).mpr (by omega)
 omega
theorem kQ {X:Cx} {K:PySem.W.Frag} {es:List Expr} {k:Nat} {t:lA} {n:Nat} {pos:Pos} (hK:X.K=K) (h:PG X (.Tuple es k pos) (rA X.K n t)):PG X (.Tuple es k pos) (rA K n t):=by
 subst hK
 exact h
mutual
inductive aP (H:Hp):V->PyData->Prop
 | ba:aP H .ba .none
 | bl (b:Bool):aP H (.bl b) (.bool b)
 | int (i:Int):aP H (.int i) (.int i)
 | str (x:Str):aP H (.str x) (.str x)
 | lst {p:Addr} {xs:List V} {ds:List PyData}:H p=some (.lst xs)->aD H xs ds->aP H (.ref p) (.list ds)
 | tup {p:Addr} {xs:List V} {ds:List PyData}:H p=some (.tup xs)->aD H xs ds->aP H (.ref p) (.tuple ds)
inductive aD (H:Hp):List V->List PyData->Prop
 | nil:aD H [] []
 | cons {x:V} {xs:List V} {d:PyData} {ds:List PyData}:aP H x d->aD H xs ds->aD H (x :: xs) (d :: ds)
end
section
variable {P:Program} {w:World} {H:Hp} {h:Heap}
mutual
theorem aP.reads (ok:cH P w H h):∀ {x:V} {d:PyData} {v:Value},aP H x d->RelV x v->∃ as,Reads h v d as
 | _,_,v,.ba,r=>by
  cases (show v=Value.none from r)
  exact⟨_,.none⟩
 | _,_,v,.bl b,r=>by
  cases (show v=Value.bool b from r)
  exact⟨_,.bool b⟩
 | _,_,v,.int i,r=>by
  obtain⟨t,e⟩:=(show ∃ t,v=Value.int i t from r)
  cases e
  exact⟨_,.int i t⟩
 | _,_,v,.str x,r=>by
  obtain⟨t,e⟩:=(show ∃ t,v=Value.str x t from r)
  cases e
  exact⟨_,.str x t⟩
 | _,_,v,.lst (p:=p) (xs:=xs) e ds,r=>by
  cases (show v=Value.ref p from r)
  obtain⟨_,its,n,rv,h1⟩:=(show bA P w H h p (.lst xs) from ok p _ e)
  obtain⟨as,ra⟩:=aD.reads ok ds rv
  exact⟨_,.list (vs:=its.toArray) h1 rfl rfl (by simpa using ra)⟩
 | _,_,v,.tup (p:=p) (xs:=xs) e ds,r=>by
  cases (show v=Value.ref p from r)
  obtain⟨_,its,rv,o,h1,h2,n,h3⟩:=(show bA P w H h p (.tup xs) from ok p _ e)
  obtain⟨as,ra⟩:=aD.reads ok ds rv
  exact⟨_,.tuple (vs:=its.toArray) h1 h2 h3.1 (by simpa using ra)⟩
theorem aD.reads (ok:cH P w H h):∀ {xs:List V} {ds:List PyData} {vs:List Value},aD H xs ds->Vals xs vs->∃ as,ReadsAll h vs ds as
 | _,_,_,.nil,.nil=>⟨_,.nil⟩
 | _,_,_,.cons r rs,.cons q qs=>by
  obtain⟨as,ra⟩:=aP.reads ok r q
  obtain⟨bs,rb⟩:=aD.reads ok rs qs
  exact⟨_,.cons ra rb⟩
end
end
section
variable {X:Cx}
def vm (neg:Bool):R2:=fun x y H Q=>∃ dx dy,aP H x dx/\aP H y dy/\dx.canLay0=true/\dy.canLay0=true/\min dx.depth dy.depth<=60/\Q (.bl (if neg then !PyData.eqv dx dy else PyData.eqv dx dy)) H
theorem mG (hu:X.A.units+64 < cLine):de X (compareOp .Eq) (vm false):=by
 intro pins s σ H x y v u Q I rx ry h
 obtain⟨dx,dy,r1,r2,c1,c2,hd,q⟩:=h
 obtain⟨as,ra⟩:=r1.reads I.aA rx
 obtain⟨bs,rb⟩:=r2.reads I.aA ry
 exact PySem.SeqAt.compareEq_reads ra rb c1 c2 (by omega) ⟨.bl _,H,I,rfl,q⟩
theorem vn (hu:X.A.units+64 < cLine):de X (compareOp .NotEq) (vm true):=by
 intro pins s σ H x y v u Q I rx ry h
 obtain⟨dx,dy,r1,r2,c1,c2,hd,q⟩:=h
 obtain⟨as,ra⟩:=r1.reads I.aA rx
 obtain⟨bs,rb⟩:=r2.reads I.aA ry
 exact PySem.SeqAt.neOverData X.prog X.w X.A X.xe s v u dx dy as bs _ ra rb c1 c2 (by omega) ⟨.bl _,H,I,rfl,q⟩
end
def one (c:Nat):Str:=⟨#[c]⟩
theorem mH (rest:List Str):∀ a:Array Nat,(rest.foldl (fun acc p=>acc++Str.empty.cps++p.cps) a).toList=a.toList++rest.flatMap (·.cps.toList):=by
 induction rest with
 | nil=>intro a;simp
 | cons x r ih =>
  intro a
  rw [List.foldl_cons,ih]
  have e:Str.empty.cps = #[]:=rfl
  simp [e]
theorem join_ones (cs:List Nat):(Txt.join Str.empty (cs.map one)).cps.toList=cs:=by
 cases cs with
 | nil=>rfl
 | cons c r =>
  show (List.foldl (fun acc p=>acc++Str.empty.cps++p.cps) (#[c]:Array Nat) (r.map one)).toList=c :: r
  rw [mH]
  simp only [List.flatMap_map,one]
  simp
theorem rM:Str.ofString "" = Str.empty:=by decide +kernel
theorem kf {ys:List Str}:∀ {us:List Value},Vals (ys.map V.str) us->StrsAre us ys:=by
 induction ys with
 | nil=>intro us r;cases r;exact .nil
 | cons y ys ih =>
  intro us r
  cases r with
  | cons h t =>
   obtain⟨k,e⟩:=h
   subst e
   exact .cons y k (ih t)
section
variable {X:Cx}
def rJoin (K:PySem.W.Frag):V->List V->Hp->VK->Prop:=fun x vs H Q=>∃ (z:Str) (p:Addr) (ys:List Str),x=.str z/\vs = [.ref p]/\av K H p (ys.map V.str)/\(ys.map (·.length)).sum+ys.length * z.length<=16777216/\Q (.str (Txt.join z ys)) H
theorem oB:va X "str.join" (rJoin X.K):=by
 intro pins s σ H x vs v us Q I rx rv h
 obtain⟨z,p,ys,rfl,rfl,hS,hz,q⟩:=h
 obtain⟨t,e⟩:=(show ∃ t,v=Value.str z t from rx)
 subst e
 obtain⟨u,rfl,ru⟩:=vals1 rv
 cases (show u=Value.ref p from ru)
 obtain⟨its,rv',pl,_⟩:=I.list hS
 exact join_list pl.isList (by simpa using kf rv') hz fun t' k=>⟨.str _,H,I.tok k,⟨_,rfl⟩,q⟩
end
inductive aG where
 | put (x:Str) (n:Int)
 | copy (x y:Str)
 | add (x:Str) (n:Int)
 | read (x:Str)
 | tell (x:Str)
inductive End where
 | stop
 | go (p:Nat)
 | eS (less:Bool) (x:Str) (n:Int) (p q:Nat)
abbrev Piece:=List aG × End
def wT (b:Bool):Str:=if b=true then "less" else "is"
def aY:aG->PyData
 | .put x n=>.tuple [.str "put",.str x,.int n]
 | .copy x y=>.tuple [.str "copy",.str x,.str y]
 | .add x n=>.tuple [.str "add",.str x,.int n]
 | .read x=>.tuple [.str "read",.str x]
 | .tell x=>.tuple [.str "tell",.str x]
def gH:End->PyData
 | .stop=>.tuple [.str "stop"]
 | .go p=>.tuple [.str "go",.int p]
 | .eS b x n p q=>.tuple [.str (wT b),.str x,.int n,.int p,.int q]
def bP (p:Piece):PyData:=.tuple [.tuple (p.1.map aY),gH p.2]
def bQ (ps:List Piece):PyData:=.tuple (ps.map bP)
structure bT (x:Str):Prop where
 lo:1<=x.length
 hi:x.length<=8
 az:∀ c ∈ x.cps.toList,97<=c/\c<=122
def iw (n:Int):Prop:=-(10 ^ 40) < n/\n < 10 ^ 40
def d8 (xs:List Str):aG->Prop
 | .put x n=>x ∈ xs/\iw n
 | .copy x y=>x ∈ xs/\y ∈ xs
 | .add x n=>x ∈ xs/\iw n
 | .read x=>x ∈ xs
 | .tell x=>x ∈ xs
def kg (xs:List Str) (count:Nat):End->Prop
 | .stop=>True
 | .go p=>p < count
 | .eS _ x n p q=>x ∈ xs/\iw n/\p < count/\q < count
structure cR (xs:List Str) (most:Nat) (ps:List Piece):Prop where
 cS:∀ p ∈ ps,p.1.length<=most/\∀ d ∈ p.1,d8 xs d
 ends:∀ p ∈ ps,kg xs ps.length p.2
mutual
def d9:PyData->Bool
 | .list _=>false
 | .tuple xs=>bR xs
 | _=>true
def bR:List PyData->Bool
 | []=>true
 | x :: xs=>d9 x && bR xs
end
mutual
theorem aP.cv {H H':Hp} (k:∀ p xs,H p=some (.tup xs)->H' p=some (.tup xs)):∀ {x:V} {d:PyData},aP H x d->d9 d=true->aP H' x d
 | _,_,.ba,_=>.ba
 | _,_,.bl b,_=>.bl b
 | _,_,.int i,_=>.int i
 | _,_,.str x,_=>.str x
 | _,_,.lst _ _,h=>nomatch h
 | _,_,.tup e ds,h=>.tup (k _ _ e) (aD.cv k ds h)
theorem aD.cv {H H':Hp} (k:∀ p xs,H p=some (.tup xs)->H' p=some (.tup xs)):∀ {xs:List V} {ds:List PyData},aD H xs ds->bR ds=true->aD H' xs ds
 | _,_,.nil,_=>.nil
 | _,_,.cons r rs,h=>by
  simp only [bR,Bool.and_eq_true] at h
  exact .cons (aP.cv k r h.1) (aD.cv k rs h.2)
end
theorem aP.fix {b:Addr} {H H':Hp} {x:V} {d:PyData} (r:aP H x d) (hb:bM H b) (f:Fix b H H') (n:d9 d=true):aP H' x d :=
 r.cv (fun p xs e=>f p _ e (hb.mC e)) n
theorem aP.same {H H':Hp} {x:V} {d:PyData} (r:aP H x d) (f:af H H') (n:d9 d=true):aP H' x d :=
 r.cv (fun p xs e=>f p _ e) n
theorem aD.fix {b:Addr} {H H':Hp} {xs:List V} {ds:List PyData} (r:aD H xs ds) (hb:bM H b) (f:Fix b H H') (n:bR ds=true):aD H' xs ds :=
 r.cv (fun p xs e=>f p _ e (hb.mC e)) n
theorem aD.same {H H':Hp} {xs:List V} {ds:List PyData} (r:aD H xs ds) (f:af H H') (n:bR ds=true):aD H' xs ds :=
 r.cv (fun p xs e=>f p _ e) n
theorem aD.put {H:Hp} {xs ys:List V} {ds:List PyData} {l:Addr} {o:HO} (r:aD H xs ds) (hl:H l=some (.lst ys)) (n:bR ds=true):aD (upd H l o) xs ds :=
 r.cv (fun p zs e=>by rw [ae (bS e hl (by intro z;cases z))];exact e) n
theorem aD.app {H:Hp} {x:V} {d:PyData}:∀ {xs:List V} {ds:List PyData},aD H xs ds->aP H x d->aD H (xs ++ [x]) (ds ++ [d])
 | _,_,.nil,q=>.cons q .nil
 | _,_,.cons r rs,q=>.cons r (aD.app rs q)
theorem aD.len {H:Hp}:∀ {xs:List V} {ds:List PyData},aD H xs ds->xs.length=ds.length
 | _,_,.nil=>rfl
 | _,_,.cons _ rs=>by simp [aD.len rs]
theorem gY (d:aG):d9 (aY d)=true:=by cases d <;> rfl
theorem fY (e:End):d9 (gH e)=true:=by cases e <;> rfl
theorem aO:∀ ds:List aG,bR (ds.map aY)=true
 | []=>rfl
 | d :: ds=>by show (d9 (aY d) && bR (ds.map aY))=true;rw [gY,aO ds];rfl
theorem gI (p:Piece):d9 (bP p)=true:=by
 show (bR (p.1.map aY) && (d9 (gH p.2) && true))=true
 rw [aO,fY];rfl
theorem aB:∀ ps:List Piece,bR (ps.map bP)=true
 | []=>rfl
 | p :: ps=>by show (d9 (bP p) && bR (ps.map bP))=true;rw [gI,aB ps];rfl
theorem cD (ps:List Piece):d9 (bQ ps)=true:=aB ps
structure dm (H:Hp) (b l:Addr) (xs:List Str):Prop where
 at_:H l=some (.lst (xs.map V.str))
 ne:l ≠ b
 lY:xs ≠ []
 du:xs.length<=1000
 ok:∀ x ∈ xs,bT x
theorem dm.fix {H H':Hp} {b l:Addr} {xs:List Str} (h:dm H b l xs) (f:Fix b H H'):dm H' b l xs:=⟨f l _ h.at_ h.ne,h.ne,h.lY,h.du,h.ok⟩
theorem dm.pos {H:Hp} {b l:Addr} {xs:List Str} (h:dm H b l xs):0 < ((xs.map V.str).length:Int)/\((xs.map V.str).length:Int) < 1073741824:=by
 have h1:=h.lY
 have h2:=h.du
 have h3:0 < xs.length:=by cases xs with | nil=>exact absurd rfl h1 | cons _ _=>simp
 rw [List.length_map]
 omega
def kR:Sp:=fun vs H Q _=>∃ (b:Addr),vs = [.ref b]/\bM H b/\∀ l xs H',dm H' b l xs->xs.length<=4->bM H' b->Fix b H H'->Q (.ref l) H'
def ix:Sp:=fun vs H Q _=>∃ (b:Addr),vs = [.ref b]/\bM H b/\∀ n H',iw n->bM H' b->Fix b H H'->Q (.int n) H'
def kh:Sp:=fun vs H Q _=>∃ (b l:Addr) (xs:List Str),vs = [.ref b,.ref l]/\bM H b/\dm H b l xs/\∀ v d H',aP H' v (aY d)->d8 xs d->bM H' b->Fix b H H'->Q v H'
def ki:Sp:=fun vs H Q _=>∃ (b l:Addr) (xs:List Str) (c:Nat),vs = [.ref b,.ref l,.int c]/\bM H b/\dm H b l xs/\0 < c/\c < 1073741824/\∀ v e H',aP H' v (gH e)->kg xs c e->bM H' b->Fix b H H'->Q v H'
def mI:Sp:=fun vs H Q _=>∃ (b:Addr) (c m:Nat),vs = [.ref b,.int c,.int m]/\bM H b/\0 < c/\c<=1000/\m<=1000/\∀ v xs ps H',aP H' v (bQ ps)->ps.length=c->cR xs m ps->((∀ x ∈ xs,bT x)/\xs.length<=4)->bM H' b->Fix b H H'->Q v H'
def kT:Sp:=fun vs H Q _=>∃ (b:Addr) (m:Nat),vs = [.ref b,.int m]/\bM H b/\0 < m/\m<=1000/\∀ (n:Nat) H',0 < n->n<=max m 4->bM H' b->Fix b H H'->Q (.int n) H'
def ia:Str := "abcdefghijklmnopqrstuvwxyz"
theorem mJ:ia.cps.toList=(List.range 26).map (· + 97):=by decide +kernel
theorem jn:ia.length<=sizeLine:=by decide +kernel
theorem kj {r:Int} (h0:0<=r) (h1:r < 26):∃ c,d0 ia.cps.toList r=some c/\97<=c/\c<=122:=by
 have hl:ia.cps.toList.length=26:=by rw [mJ];simp
 obtain⟨c,hc,hm⟩:=pB (xs:=ia.cps.toList) h0 (by rw [hl];exact h1)
 refine⟨c,hc,?_⟩
 rw [mJ] at hm
 obtain⟨k,hk,rfl⟩:=List.mem_map.mp hm
 have:=List.mem_range.mp hk
 omega
theorem jQ {xs:List Str} {r:Int} (h0:0<=r) (h1:r < ((xs.map V.str).length:Int)):∃ x,d0 (xs.map V.str) r=some (V.str x)/\x ∈ xs:=by
 obtain⟨v,hv,hm⟩:=pB h0 h1
 obtain⟨x,hx,rfl⟩:=List.mem_map.mp hm
 exact⟨x,hv,hx⟩
theorem pD {σ : L2.St} {H:Hp} {Q:Bool->Hp->Prop} (h:Q true H):vk σ H Q:=h
theorem cc {i:Nat} {v:V} {σ : L2.St} {H:Hp} {Q:L2.St->Hp->Prop} (h:Q (σ.set i (some v)) H):j4 i v σ H Q:=h
section
variable {κ : Type} [DecidableEq κ]
def cw (kvs:List (κ × V)) (k:κ):Option V:=(kvs.find? fun kv=>decide (kv.1=k)).map (·.2)
def putK (kvs:List (κ × V)) (k:κ) (v:V):List (κ × V) :=
 if (kvs.any fun kv=>decide (kv.1=k))=true then kvs.map (fun kv=>if kv.1=k then (kv.1,v) else kv) else kvs ++ [(k,v)]
theorem cx {p:κ × V} {r:List (κ × V)} {k:κ} (e:p.1=k):cw (p :: r) k=some p.2:=by simp [cw,List.find?_cons,e]
theorem cy {p:κ × V} {r:List (κ × V)} {k:κ} (e:¬ p.1=k):cw (p :: r) k=cw r k:=by simp [cw,List.find?_cons,e]
theorem iy (k:κ):∀ kvs:List (κ × V),(kvs.any fun kv=>decide (kv.1=k))=(cw kvs k).isSome
 | []=>rfl
 | p :: r=>by
  rw [List.any_cons]
  by_cases e:p.1=k
  ·simp only [cx e,decide_eq_true e,Bool.true_or,Option.isSome_some]
  ·rw [cy e,decide_eq_false e,Bool.false_or];exact iy k r
theorem mK (k j:κ) (y:V):∀ kvs:List (κ × V),cw (kvs.map fun kv=>if kv.1=k then (kv.1,y) else kv) j=(cw kvs j).map fun x=>if j=k then y else x
 | []=>rfl
 | p :: r=>by
  have ih:=mK k j y r
  rw [List.map_cons]
  by_cases h:p.1=k
  ·rw [if_pos h]
   by_cases e:p.1=j
   ·rw [cx (p:=(p.1,y)) e,cx e,Option.map_some,if_pos (e.symm.trans h)]
   ·rw [cy (p:=(p.1,y)) e,cy e,ih]
  ·rw [if_neg h]
   by_cases e:p.1=j
   ·rw [cx (p:=p) e,cx e,Option.map_some,if_neg (fun z=>h (e.trans z))]
   ·rw [cy (p:=p) e,cy e,ih]
theorem lJ (k j:κ) (y:V):∀ kvs:List (κ × V),cw kvs k=none->cw (kvs ++ [(k,y)]) j=if j=k then some y else cw kvs j
 | [],_=>by
  by_cases e:k=j
  ·rw [if_pos e.symm];exact cx (p:=(k,y)) e
  ·rw [if_neg (fun z=>e z.symm)];exact cy (p:=(k,y)) e
 | p :: r,hn=>by
  rw [List.cons_append]
  have hk:¬ p.1=k:=fun z=>by rw [cx z] at hn;cases hn
  rw [cy hk] at hn
  have ih:=lJ k j y r hn
  by_cases e:p.1=j
  ·rw [cx e,cx e,if_neg (fun z=>hk (e.trans z))]
  ·rw [cy e,cy e,ih]
theorem rN (kvs:List (κ × V)) (k j:κ) (y:V):cw (putK kvs k y) j=if j=k then some y else cw kvs j:=by
 unfold putK
 by_cases a:(kvs.any fun kv=>decide (kv.1=k))=true
 ·rw [if_pos a,mK]
  rw [iy] at a
  by_cases e:j=k
  ·obtain⟨x,hx⟩:=Option.isSome_iff_exists.mp a
   rw [if_pos e,e,hx,Option.map_some,if_pos rfl]
  ·rw [if_neg e]
   cases cw kvs j with
   | none=>rfl
   | some x=>rw [Option.map_some,if_neg e]
 ·rw [if_neg a]
  refine lJ k j y kvs ?_
  rw [iy] at a
  cases q:cw kvs k with
  | none=>rfl
  | some x=>rw [q] at a;exact (a rfl).elim
theorem cT (kvs:List (κ × V)) (k:κ) (v:V):(putK kvs k v).length<=kvs.length+1:=by
 unfold putK
 split
 ·rw [List.length_map];omega
 ·rw [List.length_append,List.length_cons,List.length_nil];omega
theorem iT.i6 {o:Option V} {u:Option Value} (r:iT o u):o.isSome=u.isSome:=by
 cases o with
 | none=>cases u with
  | none=>rfl
  | some _=>exact (show False from r).elim
 | some _=>cases u with
  | none=>exact (show False from r).elim
  | some _=>rfl
theorem iT.getD {o:Option V} {u:Option Value} {d:V} {d':Value} (r:iT o u) (rd:RelV d d'):RelV (o.getD d) (u.getD d'):=by
 cases o with
 | none=>cases u with
  | none=>exact rd
  | some _=>exact (show False from r).elim
 | some _=>cases u with
  | none=>exact (show False from r).elim
  | some _=>exact r
theorem KV.val {kvs:List (κ × V)} {vs:List (κ × Value)} (r:KV kvs vs) (k:κ):iT (cw kvs k) (valueAt vs k):=by
 unfold KV at r
 induction r with
 | nil=>exact True.intro
 | @cons p q ps qs h t ih =>
  obtain⟨h1,h2⟩:=h
  by_cases e:p.1=k
  ·have e':q.1=k:=h1.symm.trans e
   have b:valueAt (q :: qs) k=some q.2:=by simp [valueAt,List.find?_cons,e']
   rw [cx e,b];exact h2
  ·have e':¬ q.1=k:=fun z=>e (h1.trans z)
   have b:valueAt (q :: qs) k=valueAt qs k:=by simp [valueAt,List.find?_cons,e']
   rw [cy e,b];exact ih
theorem KV.any {kvs:List (κ × V)} {vs:List (κ × Value)} (r:KV kvs vs) (k:κ):(kvs.any fun kv=>decide (kv.1=k))=vs.any fun kv=>decide (kv.1=k):=by
 unfold KV at r
 induction r with
 | nil=>rfl
 | cons h t ih=>rw [List.any_cons,List.any_cons,ih,h.1]
theorem KV.rO {kvs:List (κ × V)} {vs:List (κ × Value)} (r:KV kvs vs) (k:κ) {y:V} {u:Value} (ry:RelV y u) :
  KV (kvs.map fun kv=>if kv.1=k then (kv.1,y) else kv) (vs.map fun kv=>if kv.1=k then (kv.1,u) else kv):=by
 unfold KV at r ⊢
 induction r with
 | nil=>exact .nil
 | @cons p q ps qs h t ih =>
  rw [List.map_cons,List.map_cons]
  refine .cons ?_ ih
  obtain⟨h1,h2⟩:=h
  by_cases e:p.1=k
  ·rw [if_pos e,if_pos (h1.symm.trans e)];exact⟨h1,ry⟩
  ·rw [if_neg e,if_neg (fun z=>e (h1.trans z))];exact⟨h1,h2⟩
theorem KV.put {kvs:List (κ × V)} {vs:List (κ × Value)} (r:KV kvs vs) (k:κ) {y:V} {u:Value} (ry:RelV y u):KV (putK kvs k y) (stored vs k u):=by
 unfold putK stored
 rw [r.any k]
 by_cases e:(vs.any fun kv=>decide (kv.1=k))=true
 ·rw [if_pos e,if_pos e];exact r.rO k ry
 ·rw [if_neg e,if_neg e];exact Paired.snoc r ⟨rfl,ry⟩
theorem KV.keys {kvs:List (κ × V)} {vs:List (κ × Value)} (r:KV kvs vs):kvs.map (·.1)=vs.map (·.1):=by
 unfold KV at r
 induction r with
 | nil=>rfl
 | cons h t ih=>rw [List.map_cons,List.map_cons,ih,h.1]
theorem KV.length {kvs:List (κ × V)} {vs:List (κ × Value)} (r:KV kvs vs):kvs.length=vs.length:=Paired.length r
end
theorem jo {P:Program} {w:World} {k:Key} {u:Value} (r:RelV (kV k) u):(ax P w).is k u=true:=by
 cases k with
 | inl i=>obtain⟨t,e⟩:=(show ∃ t,u=Value.int i t from r);subst e;exact jC P w i t
 | inr x=>obtain⟨t,e⟩:=(show ∃ t,u=Value.str x t from r);subst e;exact jD P w x t
theorem lK {P:Program} {w:World}:∀ {ks:List Key} {us:List Value},Vals (ks.map kV) us->ItemsAre (ax P w) ks us
 | [],_,r=>by rw [List.map_nil] at r;cases r;exact .nil
 | k :: ks,_,r=>by
  rw [List.map_cons] at r
  cases r with
  | cons h t=>exact .cons (jo h) (lK t)
abbrev KT (H:Hp):List (List Key × V)->List (List Key × Addr × Value)->Prop:=Paired fun p q=>p.1=q.1/\H q.2.1=some (.tup (p.1.map kV))/\RelV p.2 q.2.2
theorem KT.val {H:Hp} {kvs:List (List Key × V)} {xs:List (List Key × Addr × Value)} (r:KT H kvs xs) (k:List Key):iT (cw kvs k) ((atKey xs k).map (·.2)):=by
 induction r with
 | nil=>exact True.intro
 | @cons p q ps qs h t ih =>
  obtain⟨h1,_,h2⟩:=h
  by_cases e:p.1=k
  ·have e':q.1=k:=h1.symm.trans e
   have b:atKey (q :: qs) k=some q.2:=by simp [atKey,List.find?_cons,e']
   rw [cx e,b];exact h2
  ·have e':¬ q.1=k:=fun z=>e (h1.trans z)
   have b:atKey (q :: qs) k=atKey qs k:=by simp [atKey,List.find?_cons,e']
   rw [cy e,b];exact ih
theorem KT.rO {H:Hp} {kvs:List (List Key × V)} {xs:List (List Key × Addr × Value)} (r:KT H kvs xs) (k:List Key) {y:V} {u:Value} (ry:RelV y u) :
  KT H (kvs.map fun kv=>if kv.1=k then (kv.1,y) else kv) (xs.map (putAt k u)):=by
 induction r with
 | nil=>exact .nil
 | @cons p q ps qs h t ih =>
  rw [List.map_cons,List.map_cons]
  refine .cons ?_ ih
  obtain⟨h1,h2,h3⟩:=h
  unfold putAt
  by_cases e:p.1=k
  ·rw [if_pos e,if_pos (h1.symm.trans e)];exact⟨h1,h2,ry⟩
  ·rw [if_neg e,if_neg (fun z=>e (h1.trans z))];exact⟨h1,h2,h3⟩
theorem KT.put {H:Hp} {kvs:List (List Key × V)} {xs:List (List Key × Addr × Value)} (r:KT H kvs xs) (k:List Key) {b:Addr} {y:V} {u:Value} (hb:H b=some (.tup (k.map kV))) (ry:RelV y u) :
  KT H (putK kvs k y) (storedH xs k b u):=by
 have e:(kvs.any fun kv=>decide (kv.1=k))=(atKey xs k).isSome:=by
  rw [iy,(r.val k).i6,Option.isSome_map]
 unfold putK storedH
 rw [e]
 by_cases q:(atKey xs k).isSome=true
 ·rw [if_pos q,if_pos q];exact r.rO k ry
 ·rw [if_neg q,if_neg q];exact Paired.snoc r ⟨rfl,hb,ry⟩
theorem KT.keeps {H H':Hp} {kvs:List (List Key × V)} {xs:List (List Key × Addr × Value)} (r:KT H kvs xs) (ht:∀ b ys,H b=some (.tup ys)->H' b=some (.tup ys)):KT H' kvs xs :=
 Paired.q9 r fun _ _ z=>⟨z.1,ht _ _ z.2.1,z.2.2⟩
section
variable {P:Program} {w:World} {H:Hp} {h:Heap} {a:Addr}
theorem tf {u:HO} (ok:cH P w H h) (e:Rd H a u):bA P w H h a u:=e.ok ok
theorem km {kvs:List (Key × V)} (ok:cH P w H h) (e:Rd H a (.dK kvs)):kvs.length<=sizeLine/\(a == sysModules)=false/\∃ vs,KV kvs vs/\h.DictOf (ax P w) a vs :=
 show bA P w H h a (.dK kvs) from tf ok e
theorem kn {kvs:List (Key × V)} (ok:cH P w H h) (e:H a=some (.dK kvs)):kvs.length<=sizeLine/\(a == sysModules)=false/\∃ vs,KV kvs vs/\h.DictOf (ax P w) a vs:=km ok (.inl e)
theorem ko {ks:List Key} (ok:cH P w H h) (e:H a=some (.tup (ks.map kV))):(tupleKind (ax P w)).is h ks a:=by
 obtain⟨_,its,r,o,h1,h2,n,h3⟩:=(show bA P w H h a (.tup (ks.map kV)) from ok a _ e)
 exact⟨o,its.toArray,n,h1,h2,h3.1,by simpa using lK r⟩
theorem lZ {kvs:List (List Key × V)} (ok:cH P w H h) (e:Rd H a (.dT kvs)):kvs.length<=sizeLine/\(a == sysModules)=false /\
  ∃ xs,KT H kvs xs/\h.DictOfH (tupleKind (ax P w)) a xs:=by
 obtain⟨z,y,xs,r,o,es,ep,h1,h2,h3,h4,h5⟩:=(show bA P w H h a (.dT kvs) from tf ok e)
 refine⟨z,y,xs,r,o,es,ep,h1,h2,h3,h4,fun x hx=>?_,h5⟩
 have all:∀ {l:List (List Key × V)} {m:List (List Key × Addr × Value)},KT H l m->∀ x ∈ m,(tupleKind (ax P w)).is h x.1 x.2.1:=by
  intro l m q
  induction q with
  | nil=>intro x hx;exact nomatch hx
  | @cons p q ps qs hq t ih =>
   intro x hx
   rcases List.mem_cons.mp hx with e | hx
   ·subst e
    exact ko ok (by rw [<-hq.1];exact hq.2.1)
   ·exact ih x hx
 exact all r x hx
theorem wx {kvs:List (List Key × V)} (ok:cH P w H h) (e:H a=some (.dT kvs)):kvs.length<=sizeLine/\(a == sysModules)=false /\
  ∃ xs,KT H kvs xs/\h.DictOfH (tupleKind (ax P w)) a xs:=lZ ok (.inl e)
end
def fT (H:Hp) (a:Addr) (y:V) (r:Option V):Prop :=
 (∃ kvs k,Rd H a (.dK kvs)/\y=kV k/\r=cw kvs k)\/∃ kvs k b,Rd H a (.dT kvs)/\y=.ref b/\H b=some (.tup (k.map kV))/\r=cw kvs k
def i7 (H:Hp) (a:Addr) (y v:V) (H':Hp):Prop :=
 (∃ kvs k,H a=some (.dK kvs)/\y=kV k/\kvs.length < sizeLine/\H' = upd H a (.dK (putK kvs k v))) \/
 ∃ kvs k b,H a=some (.dT kvs)/\y=.ref b/\H b=some (.tup (k.map kV))/\kvs.length < sizeLine/\H' = upd H a (.dT (putK kvs k v))
theorem fT.k {H:Hp} {a:Addr} {kvs:List (Key × V)} {k:Key} (e:H a=some (.dK kvs)):fT H a (kV k) (cw kvs k):=.inl ⟨kvs,k,.inl e,rfl,rfl⟩
theorem i7.k {H:Hp} {a:Addr} {kvs:List (Key × V)} {k:Key} {v:V} (e:H a=some (.dK kvs)) (hl:kvs.length < sizeLine):i7 H a (kV k) v (upd H a (.dK (putK kvs k v))):=.inl ⟨kvs,k,e,rfl,hl,rfl⟩
section
variable {X:Cx} {pins:List (Addr × Obj)} {σ : St} {H:Hp} {s:Shared} {a:Addr} {y v:V} {u r:Value} {o:Option V} {A:Around} {E:Value->Shared->Prop}
theorem Inv.big (I:Inv X pins σ H s):sysModules < s.heap.objs.size:=by
 have h:mainGlobals < s.heap.objs.size:=(I.mod.glob.keeps I.bk).lt
 exact Nat.lt_trans (by decide) h
theorem tS {Q:Value->Shared->Prop} (hu:A.units+1 < cLine) (I:Inv X pins σ H s) (g:fT H a y o) (ry:RelV y u) (h:∀ s',Inv X pins σ H s'->Q (.bool (!o.isSome)) s') :
  wpAny (model X.prog X.w) A (compareOp .NotIn u (.ref a)) Q E s:=by
 rcases g with ⟨kvs,k,e,ey,l⟩ | ⟨kvs,k,b,e,ey,eb,l⟩
 ·subst ey
  obtain⟨z,hd,vs,rel,dd⟩:=km I.aA e
  refine wpAny_notIn_of (jo ry) hd dd.mapOf ?_
  rw [<-(rel.val k).i6,<-l]
  exact h _ (I.tok _)
 ·subst ey
  cases (show u=Value.ref b from ry)
  obtain⟨z,hd,xs,rel,dd⟩:=lZ I.aA e
  refine wpAny_notIn_heap (tupleKind_room_in1 hu) (ko I.aA eb) hd dd ?_
  have q:=(rel.val k).i6
  rw [Option.isSome_map] at q
  rw [<-q,<-l]
  exact h _ (I.tok _)
theorem jq {h':Heap} {t':Nat} {ob:HO} (I:Inv X pins σ H s) (mu:pY (H a)) (hs:Heap.SameBut a s.heap h') (he:∃ q,h'.get? a=some q) (new:bA X.prog X.w (upd H a ob) h' a ob) :
  Inv X pins σ (upd H a ob) { s with heap:=h',toks:=t' } :=
 I.write (x:=a) (e:=a) mu (.inl rfl) (fun b q hb z=>(hs.2 b hb).trans z) he new
theorem ib {P:Program} {w:World} {H':Hp} {h':Heap} {kvs:List (Key × V)} {vs:List (Key × Value)} (z:kvs.length<=sizeLine) (hd:(a == sysModules)=false) (rel:KV kvs vs) (dd:h'.DictOf (ax P w) a vs) :
  bA P w H' h' a (.dK kvs):=⟨z,hd,vs,rel,dd⟩
theorem qq {H':Hp} {Q:Unit->Shared->Prop} (hu:A.units+1 < cLine) (I:Inv X pins σ H s) (g:i7 H a y v H') (ry:RelV y u) (rv:RelV v r) (h:∀ s',Inv X pins σ H' s'->Q () s') :
  wpAny (model X.prog X.w) A (setItem (.ref a) u r) Q E s:=by
 rcases g with ⟨kvs,k,e,ey,l,eH⟩ | ⟨kvs,k,b,e,ey,eb,l,eH⟩
 ·subst ey eH
  obtain⟨z,hd,vs,rel,dd⟩:=kn I.aA e
  have hz:vs.length<=sizeLine:=by rw [<-rel.length];exact z
  have hl:(putK kvs k v).length<=sizeLine:=by have:=cT kvs k v;omega
  refine wpAny_setItem_pairs (hsz:=hz) (jo ry) dd fun h' dd' hs=>h _ ?_
  have he:∃ q,h'.get? a=some q:=let ⟨q,_,_,hq,_⟩:=dd';⟨q,hq⟩
  exact jq I (by rw [e];exact True.intro) hs he (ib hl hd (rel.put k rv) dd')
 ·subst ey eH
  cases (show u=Value.ref b from ry)
  obtain⟨z,hd,xs,rel,dd⟩:=wx I.aA e
  have hz:xs.length<=sizeLine:=by rw [<-Paired.length rel];exact z
  have hl:(putK kvs k v).length<=sizeLine:=by have:=cT kvs k v;omega
  refine wpAny_setItem_heap (hsz:=hz) (tupleKind_room_in1 hu) (ko I.aA eb) dd fun h' dd' hs=>h _ ?_
  obtain⟨q,es,ep,hq,h2,h3,h4,_,h5⟩:=dd'
  refine jq I (by rw [e];exact True.intro) hs ⟨q,hq⟩ ⟨hl,hd,_,(rel.put k eb rv).keeps fun c ys ec=>?_,q,es,ep,hq,h2,h3,h4,h5⟩
  rw [ae (bS ec e (fun z=>nomatch z))]
  exact ec
end
section
variable {X:Cx} {pins:List (Addr × Obj)} {σ : St} {H:Hp} {s:Shared} {a:Addr} {kvs:List (Key × V)} {k:Key} {u:Value} {A:Around} {E:Value->Shared->Prop}
end
def vo (i:Expr):Prop:=∀ ov iv,subscripted i false ov iv=operate [ov,iv] (getItem ov iv)
theorem tT {prog:Program} {w:World} {A:Around} {E:Value->Shared->Prop} {s:Shared} {env:Env} {value slice:Expr} {pos:Pos} {T id:String} {Q:Value->Shared->Prop}
  (hl:typeLookup (.type T) "__getitem__" = pure (some (.builtin id))) (hs:vo slice)
  (h:wpAny (model prog w) A (eval value env) (fun o s₁=>wpAny (model prog w) A (eval slice env) (fun i s₂=>s₂.TypeIs o T/\wpAny (model prog w) A (getItem o i) Q E s₂) E s₁) E s) :
  wpAny (model prog w) A (eval (.Subscript value slice pos) env) Q E s:=by
 refine Subscript_ (wpAny_mono h (fun o s₁ h₁=>wpAny_mono h₁ (fun i s₂ h₂=>?_) fun _ _ x=>x) fun _ _ x=>x)
 obtain⟨hT,h₂⟩:=h₂
 unfold subscriptTail
 refine wpAny_bind ?_
 rw [getitemInPython_of_ne hT.not_modules]
 refine wpAny_bind (wpAny_specialOf hT hl ?_)
 have fin:wpAny (model prog w) A (subscripted slice false o i) (fun r s₃=>wpAny (model prog w) A (letTemporaryGo value o r >>= fun _=>pure r) Q E s₃) E s₂:=by
  rw [hs o i]
  exact wpAny_operating (wpAny_mono h₂ (fun r s₃ h₃=>wpAny_bind (wpAny_letTemporaryGo (wpAny_pure h₃))) fun _ _ x=>x)
 first
  | exact wpAny_pure (wpAny_bind fin)
  | exact wpAny_bind (wpAny_pure (wpAny_bind fin))
  | exact wpAny_bind fin
def tU (ty td:TE):TE:=fun σ H Q=>ty σ H fun y H1=>td σ H1 fun x H2=>∃ a o,x=.ref a/\fT H2 a y o/\Q (.bl (!o.isSome)) H2
def wy (td ty tv:TE):TS:=fun D σ H=>tv σ H fun v H1=>td σ H1 fun x H2=>ty σ H2 fun y H3=>∃ a H4,x=.ref a/\i7 H3 a y v H4/\D.nx σ H4
section
variable {X:Cx} {o i e value:Expr} {pos pos' tpos:Pos} {td ty tv:TE}
theorem qr (hu:X.A.units+1 < cLine) (hi:PE X i ty) (ho:PE X o td):PC X .NotIn i o (tU ty td):=by
 intro pins s σ H Q I h
 refine aH (hi pins s σ H _ I h) fun iv s1 ⟨y,H1,I1,ry,q1⟩=>aH (ho pins s1 σ H1 _ I1 q1) fun u s2 ⟨x,H2,I2,rx,a,ov,ex,g,q2⟩=>?_
 subst ex
 obtain rfl:u=Value.ref a:=rx
 exact tS hu I2 g ry fun s3 I3=>⟨.bl (!ov.isSome),H2,I3,rfl,q2⟩
theorem kU (hu:X.A.units+1 < cLine) (ho:PE X o td) (hi:PE X i ty) (hv:PE X value tv) (hs:swapsWith value (some (.Subscript o i pos')) pos.line X.env=pure false) :
  PS X (.Assign [.Subscript o i pos'] value pos) (wy td ty tv):=by
 intro pins s σ H D I h
 refine wpAny_Assign_Subscript (aH (hv pins s σ H _ I h) fun r s1 ⟨v,H1,I1,rv,q1⟩=>aH (ho pins s1 σ H1 _ I1 q1) fun u s2 ⟨x,H2,I2,rx,q2⟩=>aH (hi pins s2 σ H2 _ I2 q2) fun iv s3 ⟨y,H3,I3,ry,a,H4,ex,g,q3⟩=>?_) hs
 subst ex
 obtain rfl:u=Value.ref a:=rx
 exact qq hu I3 g ry rv fun s4 I4=>⟨σ,H4,I4,q3⟩
end
theorem mL {P:Program} {w:World} {H:Hp} (h:Heap) (hb:sysModules < h.objs.size):bA P w H (h.push { cls:=.type "dict",data:=.dict #[] }) h.objs.size (.dK []) :=
 ⟨Nat.zero_le _,beq_eq_false_iff_ne.mpr (Ne.symm (Nat.ne_of_lt hb)),[],.nil,Heap.DictOf.new h⟩
def vp:TE:=fun _ H Q=>∀ p,H p=none->Q (.ref p) (upd H p (.dK []))
section
variable {X:Cx} {pos:Pos}
theorem rP:PE X (.Dict [] [] pos) vp:=fun pins s σ H Q I h =>
 wpAny_Dict_empty ⟨.ref s.heap.objs.size,_,I.laid (a:=s.heap.objs.size) (o:=.dK []) (t':=s.toks) (fun _ _ q=>Heap.get?_push_of_some _ q) (Nat.le_refl _) (mL s.heap I.big),rfl,h _ (I.aA.fresh (Nat.le_refl _))⟩
end
def mM:List (TE × TE)->St->Hp->(List (V × V)->Hp->Prop)->Prop
 | [],_,H,Q=>Q [] H
 | (tk,tv) :: r,σ,H,Q=>tk σ H fun x H1=>tv σ H1 fun y H2=>mM r σ H2 fun ps H3=>Q ((x,y) :: ps) H3
abbrev VV:List (V × V)->List (Value × Value)->Prop:=Paired fun p q=>RelV p.1 q.1/\RelV p.2 q.2
def tj (X:Cx) (pos:Pos) (keys:List (Option Expr)) (values:List Expr) (trs:List (TE × TE)):Prop :=
 ∀ (pins:List (Addr × Obj)) (s:Shared) (σ : St) (H:Hp) (Q:List (V × V)->Hp->Prop),Inv X pins σ H s->mM trs σ H Q ->
  wpAny (model X.prog X.w) X.A (evalPairs (pairTrees keys values X.env pos)) (fun vs s'=>∃ ps H',Inv X pins σ H' s'/\VV ps vs/\Q ps H') X.xe s
theorem tV {X:Cx} {pos:Pos}:tj X pos [] [] []:=fun pins s σ H Q I h=>pairTrees_nil_walk ⟨[],H,I,.nil,h⟩
theorem mN {X:Cx} {pos:Pos} {k v:Expr} {ks:List (Option Expr)} {vs:List Expr} {tk tv:TE} {trs:List (TE × TE)} (hk:PE X k tk) (hv:PE X v tv) (hr:tj X pos ks vs trs) :
  tj X pos (some k :: ks) (v :: vs) ((tk,tv) :: trs):=fun pins s σ H Q I h =>
 pairTrees_cons_walk (aH (hk pins s σ H _ I h) fun u s1 ⟨x,H1,I1,rx,q1⟩=>aH (hv pins s1 σ H1 _ I1 q1) fun w2 s2 ⟨y,H2,I2,ry,q2⟩ =>
  aH (hr pins s2 σ H2 _ I2 q2) fun ws s3 ⟨ps,H3,I3,rel,q3⟩=>⟨(x,y) :: ps,H3,I3,.cons ⟨rx,ry⟩ rel,q3⟩)
def ef (kvs more:List (Key × V)):List (Key × V):=more.foldl (fun acc kv=>putK acc kv.1 kv.2) kvs
theorem KV.merge:∀ {more:List (Key × V)} {rs:List (Key × Value)} {kvs:List (Key × V)} {vs:List (Key × Value)},KV more rs->KV kvs vs->KV (ef kvs more) (merged vs rs):=by
 intro more rs kvs vs r
 unfold KV at r
 induction r generalizing kvs vs with
 | nil=>intro q;exact q
 | @cons p q ps qs h t ih =>
  intro r0
  have e:KV (putK kvs p.1 p.2) (stored vs q.1 q.2):=by
   have:=r0.put p.1 h.2
   rw [<-h.1];exact this
  exact ih e
theorem iO:∀ (more kvs:List (Key × V)),(ef kvs more).length<=kvs.length+more.length
 | [],kvs=>by show kvs.length<=kvs.length+0;omega
 | p :: r,kvs=>by
  have h1:=iO r (putK kvs p.1 p.2)
  have h2:=cT kvs p.1 p.2
  show (ef (putK kvs p.1 p.2) r).length<=_
  rw [List.length_cons];omega
theorem kq {P:Program} {w:World}:∀ {kvs:List (Key × V)} {ws:List (Value × Value)},VV (kvs.map fun kv=>(kV kv.1,kv.2)) ws->∃ rs,Carries (ax P w) ws rs/\KV kvs rs
 | [],_,r=>by rw [List.map_nil] at r;cases r;exact⟨[],True.intro,.nil⟩
 | p :: kvs,_,r=>by
  rw [List.map_cons] at r
  cases r with
  | @cons a b as bs h t =>
   obtain⟨rs,c,q⟩:=kq (P:=P) (w:=w) t
   obtain⟨b1,b2⟩:=b
   exact⟨(p.1,b2) :: rs,⟨jo h.1,rfl,c⟩,.cons ⟨rfl,h.2⟩ q⟩
def wz (trs:List (TE × TE)):TE:=fun σ H Q=>∀ p,H p=none->mM trs σ (upd H p (.dK [])) fun ps H2=>H2 p=some (.dK [])/\∃ kvs:List (Key × V),ps=kvs.map (fun kv=>(kV kv.1,kv.2))/\kvs.length<=15/\Q (.ref p) (upd H2 p (.dK (ef [] kvs)))
theorem tW {X:Cx} {pos:Pos} {keys:List (Option Expr)} {values:List Expr} {trs:List (TE × TE)} (h:tj X pos keys values trs) (hall:keys.all (·.isSome)=true) (hl:keys.length=values.length) (h0:keys ≠ [])
  (h15:keys.length<=15):PE X (.Dict keys values pos) (wz trs):=by
 intro pins s σ H Q I q
 have hn:=I.aA.fresh (Nat.le_refl s.heap.objs.size)
 have I1:=I.laid (a:=s.heap.objs.size) (o:=.dK []) (h':=s.heap.push { cls:=.type "dict",data:=.dict #[] }) (t':=s.toks) (fun _ _ q=>Heap.get?_push_of_some _ q) (Nat.le_refl _) (mL s.heap I.big)
 refine wpAny_Dict_walk (knd:=ax X.prog X.w) hall hl h0 h15 (aH (h pins _ σ _ _ I1 (q _ hn)) fun ws s2 ⟨ps,H2,I2,rel,e,kvs,ep,lk,q2⟩=>?_)
 subst ep
 obtain⟨rs,c,rk⟩:=kq (P:=X.prog) (w:=X.w) rel
 obtain⟨z,hd,vs0,r0,dd⟩:=kn I2.aA e
 cases r0
 refine⟨rs,c,dd,fun h' dd' hs=>⟨.ref s.heap.objs.size,_,?_,rfl,q2⟩⟩
 have hz:(ef [] kvs).length<=sizeLine:=by
  have h1:=iO kvs []
  rw [List.length_nil] at h1
  rw [sizeLine_eq];omega
 have he:∃ q,h'.get? s.heap.objs.size=some q:=let ⟨q,_,_,hq,_⟩:=dd';⟨q,hq⟩
 exact jq I2 (by rw [e];exact True.intro) hs he (ib hz hd (rk.merge .nil) dd')
structure M2 (X:Cx) (o:Expr) (m:Str) (apos:Pos) (e f:Expr) (cpos:Pos):Prop where
 base:attributeBase o m X.env (eval o X.env)=eval o X.env
 du:((backTo cpos (starEach [e,f] X.env)).all (fun x=>!x.1) && (backToKw cpos (keywordEach [] X.env)).all (fun x=>x.1.isSome)
  && decide (([e,f]:List Expr).length+([]:List Keyword).length+(if ([]:List Keyword).isEmpty then 0 else 1) < 30))=true
 line:(apos.endLine == cpos.line)=true
 trees:backTo cpos (starEach [e,f] X.env) = [(false,eval e X.env),(false,eval f X.env)]
def wR (H:Hp) (a:Addr):Prop:=(∃ kvs,Rd H a (.dK kvs))\/∃ kvs,Rd H a (.dT kvs)
theorem vq {X:Cx} {pins:List (Addr × Obj)} {σ : St} {H:Hp} {s:Shared} {a:Addr} (I:Inv X pins σ H s) (d:wR H a) :
  s.TypeIs (.ref a) "dict" /\ (∀ b,Value.ref a=.ref b->∃ ob,s.heap.get? b=some ob/\ob.dict=none)/\(a == sysModules)=false:=by
 rcases d with ⟨kvs,e⟩ | ⟨kvs,e⟩
 ·obtain⟨_,hd,vs,_,dd⟩:=km I.aA e
  refine⟨dd.typeIs,fun b q=>?_,hd⟩
  cases q
  obtain⟨ob,_,_,h1,h2,_⟩:=dd
  exact⟨ob,h1,h2.2.1⟩
 ·obtain⟨_,hd,xs,_,dd⟩:=lZ I.aA e
  refine⟨dd.typeIs,fun b q=>?_,hd⟩
  cases q
  obtain⟨ob,_,_,h1,h2,_⟩:=dd
  exact⟨ob,h1,h2.2.1⟩
section
variable {X:Cx} {pins:List (Addr × Obj)} {σ : St} {H:Hp} {s:Shared} {a:Addr} {y d:V} {u r:Value} {o:Option V} {A:Around} {E:Value->Shared->Prop}
theorem vt {Q:Value->Shared->Prop} (hu:A.units+1 < cLine) (I:Inv X pins σ H s) (g:fT H a y o) (ry:RelV y u) (rd:RelV d r) (h:∀ w' s',Inv X pins σ H s'->RelV (o.getD d) w'->Q w' s') :
  wpAny (model X.prog X.w) A (call (.builtin "dict.get") [.ref a,u,r]) Q E s:=by
 rcases g with ⟨kvs,k,e,ey,l⟩ | ⟨kvs,k,b,e,ey,eb,l⟩
 ·subst ey
  obtain⟨z,hd,vs,rel,dd⟩:=km I.aA e
  refine call_meetsIn PySem.F.slot_dict_get dd.typeIs PySem.F.entry_dict_get (PySem.F.args_dict_get_3 _ _ _) (meets_dict_get_default (ax X.prog X.w) a (jo ry) hd r) ⟨_,dd.mapOf,h _ _ (I.tok _) ?_⟩
  rw [l]
  exact (rel.val k).getD rd
 ·subst ey
  cases (show u=Value.ref b from ry)
  obtain⟨z,hd,xs,rel,dd⟩:=lZ I.aA e
  refine call_meetsIn PySem.F.slot_dict_get dd.typeIs PySem.F.entry_dict_get (PySem.F.args_dict_get_3 _ _ _) (meetsH_dict_get_default (tupleKind (ax X.prog X.w)) a b hd r) ⟨tupleKind_room_in1 hu,k,xs,ko I.aA eb,dd,h _ _ (I.tok _) ?_⟩
  rw [l]
  exact (rel.val k).getD rd
end
section
variable {X:Cx} {o e f:Expr} {apos cpos:Pos} {td ty tx:TE}
end
section
variable {X:Cx} {pins:List (Addr × Obj)} {σ : St} {H:Hp} {s:Shared} {a:Addr} {kvs:List (Key × V)} {A:Around} {E:Value->Shared->Prop}
end
section
variable {X:Cx} {pins:List (Addr × Obj)} {σ : St} {H:Hp} {s:Shared} {a:Addr} {y:V} {u:Value} {A:Around} {E:Value->Shared->Prop}
end
section
variable {X:Cx}
end
section
variable {κ : Type} [DecidableEq κ]
end
theorem aP.cm {H:Hp} {v:V} {ds:List PyData} (h:aP H v (.tuple ds)):∃ p xs,v=.ref p/\H p=some (.tup xs)/\aD H xs ds:=by
 cases h with
 | tup e r=>exact⟨_,_,rfl,e,r⟩
theorem aP.int_inv {H:Hp} {v:V} {i:Int} (h:aP H v (.int i)):v=.int i:=by cases h;rfl
theorem aP.str_inv {H:Hp} {v:V} {x:Str} (h:aP H v (.str x)):v=.str x:=by cases h;rfl
theorem aD.cons_inv {H:Hp} {xs:List V} {d:PyData} {ds:List PyData} (h:aD H xs (d :: ds)):∃ x r,xs=x :: r/\aP H x d/\aD H r ds:=by
 cases h with
 | cons a b=>exact⟨_,_,rfl,a,b⟩
theorem aD.nil_inv {H:Hp} {xs:List V} (h:aD H xs []):xs = []:=by cases h;rfl
theorem aD.get {H:Hp}:∀ {xs:List V} {ds:List PyData} {i:Nat} {d:PyData},aD H xs ds->ds[i]? = some d->∃ x,xs[i]? = some x/\aP H x d
 | _,_,_,_,.nil,e=>by simp at e
 | _,_,0,_,.cons r _,e=>by
  simp at e
  subst e
  exact⟨_,rfl,r⟩
 | _,_,i+1,d,.cons _ t,e=>by
  obtain⟨x,h1,h2⟩:=aD.get (i:=i) (d:=d) t (by simpa using e)
  exact⟨x,by simpa using h1,h2⟩
def kr:aG->List V
 | .put x n=>[.str "put",.str x,.int n]
 | .copy x y=>[.str "copy",.str x,.str y]
 | .add x n=>[.str "add",.str x,.int n]
 | .read x=>[.str "read",.str x]
 | .tell x=>[.str "tell",.str x]
def gJ:End->List V
 | .stop=>[.str "stop"]
 | .go p=>[.str "go",.int p]
 | .eS b x n p q=>[.str (wT b),.str x,.int n,.int p,.int q]
theorem jr {H:Hp} {v:V} {d:aG} (h:aP H v (aY d)):∃ p,v=.ref p/\H p=some (.tup (kr d)):=by
  cases d <;> (
    obtain⟨p,xs,rfl,e,r⟩:=aP.cm h
    obtain⟨x1,r1,rfl,h1,r⟩:=r.cons_inv
    obtain⟨x2,r2,rfl,h2,r⟩:=r.cons_inv
    first
      | (obtain⟨x3,r3,rfl,h3,r⟩:=r.cons_inv
         have z:=r.nil_inv
         subst z
         refine⟨p,rfl,?_⟩
         first
           | rw [e,h1.str_inv,h2.str_inv,h3.int_inv];rfl
           | rw [e,h1.str_inv,h2.str_inv,h3.str_inv];rfl)
      | (have z:=r.nil_inv
         subst z
         refine⟨p,rfl,?_⟩
         rw [e,h1.str_inv,h2.str_inv];rfl))
theorem vw {H:Hp} {v:V} {e:End} (h:aP H v (gH e)):∃ p,v=.ref p/\H p=some (.tup (gJ e)):=by
 cases e with
 | stop =>
  obtain⟨p,xs,rfl,e,r⟩:=aP.cm h
  obtain⟨x1,r1,rfl,h1,r⟩:=r.cons_inv
  have z:=r.nil_inv
  subst z
  exact⟨p,rfl,by rw [e,h1.str_inv];rfl⟩
 | go q =>
  obtain⟨p,xs,rfl,e,r⟩:=aP.cm h
  obtain⟨x1,r1,rfl,h1,r⟩:=r.cons_inv
  obtain⟨x2,r2,rfl,h2,r⟩:=r.cons_inv
  have z:=r.nil_inv
  subst z
  exact⟨p,rfl,by rw [e,h1.str_inv,h2.int_inv];rfl⟩
 | eS b x n q q' =>
  obtain⟨p,xs,rfl,e,r⟩:=aP.cm h
  obtain⟨x1,r1,rfl,h1,r⟩:=r.cons_inv
  obtain⟨x2,r2,rfl,h2,r⟩:=r.cons_inv
  obtain⟨x3,r3,rfl,h3,r⟩:=r.cons_inv
  obtain⟨x4,r4,rfl,h4,r⟩:=r.cons_inv
  obtain⟨x5,r5,rfl,h5,r⟩:=r.cons_inv
  have z:=r.nil_inv
  subst z
  exact⟨p,rfl,by rw [e,h1.str_inv,h2.str_inv,h3.int_inv,h4.int_inv,h5.int_inv];rfl⟩
theorem eX {H:Hp} {v:V} {ps:List Piece} {i:Nat} {ds:List aG} {e:End} (h:aP H v (bQ ps)) (hi:ps[i]? = some (ds,e)) :
  ∃ p xs pc da ea vs,v=.ref p/\H p=some (.tup xs)/\xs.length=ps.length/\xs[i]? = some (.ref pc)/\H pc=some (.tup [.ref da,.ref ea])/\H da=some (.tup vs)/\aD H vs (ds.map aY)/\H ea=some (.tup (gJ e)):=by
 obtain⟨p,xs,rfl,e1,r⟩:=aP.cm h
 have hl:=r.len
 obtain⟨x,hx,rx⟩:=r.get (i:=i) (d:=bP (ds,e)) (by rw [List.getElem?_map,hi];rfl)
 obtain⟨pc,ys,rfl,e2,r2⟩:=aP.cm rx
 obtain⟨y1,t1,rfl,q1,r2⟩:=r2.cons_inv
 obtain⟨y2,t2,rfl,q2,r2⟩:=r2.cons_inv
 have z:=r2.nil_inv
 subst z
 obtain⟨da,vs,rfl,e3,r3⟩:=aP.cm q1
 obtain⟨ea,rfl,e4⟩:=vw q2
 exact⟨p,xs,pc,da,ea,vs,rfl,e1,by rw [hl,List.length_map],hx,e2,e3,r3,e4⟩
theorem aw {n:Nat} (h:n<=1000000):n < sizeLine:=Nat.lt_of_le_of_lt h (by decide)
theorem aI {c:Bool} {A B:Prop} (hc:c=false) (h:B):if c=true then A else B:=by subst hc;exact dh h
theorem aZ {c:Bool} {A B:Prop} (hc:c=true) (h:A):if c=true then A else B:=by subst hc;exact eW h
def tX (td ty tx:TE):TE:=fun σ H Q=>td σ H fun x H1=>∃ a,x=.ref a/\wR H1 a/\ty σ H1 fun y H2=>tx σ H2 fun z H3=>∃ o v,fT H3 a y o/\o.getD z=v/\Q v H3
theorem fQ {X:Cx} {o e f:Expr} {apos cpos:Pos} {td ty tx:TE} (hu:X.A.units+1 < cLine) (ho:PE X o td) (he:PE X e ty) (hf:PE X f tx) (m:M2 X o "get" apos e f cpos):PE X (.Call (.Attribute o "get" apos) [e,f] [] cpos) (tX td ty tx):=by
 intro pins s σ H Q I h
 refine wpAny_Call_method m.base m.du m.line PySem.F.plainAttrs_dict PySem.F.slot_dict_get PySem.F.type_dict_get (aH (ho pins s σ H _ I h) fun u s1 ⟨x,H1,I1,rx,a,ex,d,q1⟩=>?_)
 subst ex
 obtain rfl:u=Value.ref a:=rx
 obtain⟨t1,t2,_⟩:=vq I1 d
 refine⟨t1,t2,?_⟩
 rw [m.trees]
 refine Calls.callWith_builtin rfl (Calls.evalArgs_plain (Calls.spliced_cons (aH (he pins s1 σ H1 _ I1 q1) fun iv s2 ⟨y,H2,I2,ry,q2⟩ =>
  Calls.spliced_cons (aH (hf pins s2 σ H2 _ I2 q2) fun fv s3 ⟨z,H3,I3,rz,ov,v,g,ev,q3⟩=>Calls.spliced_nil ?_))))
 exact vt hu I3 g ry rz fun w' s4 I4 rw'=>⟨v,H3,I4,by rw [<-ev];exact rw',q3⟩
structure RS where
 wA:Nat
 place:Nat
 w:Str->Int
 taken:Nat
 told:List Int
 word:Str
 rQ:List Nat
def DW (kvs:List (Key × V)) (w:Str->Int):Prop:=∀ x:Str,(cw kvs (Sum.inr x:Key)).getD (.int 0)=.int (w x)
def i8 (ps:List Piece):Prop:=∀ p ∈ ps,match p.2 with
 | .stop=>True
 | .go q=>q < ps.length
 | .eS _ _ _ q r=>q < ps.length/\r < ps.length
theorem cR.i9 {xs:List Str} {m:Nat} {ps:List Piece} (h:cR xs m ps):i8 ps:=fun p hp=>by
 have:=h.ends p hp
 cases e:p.2 with
 | stop=>exact True.intro
 | go q=>rw [e] at this;exact this
 | eS b x n q r=>rw [e] at this;exact⟨this.2.2.1,this.2.2.2⟩
theorem af.put {H H':Hp} {l:Addr} {o:HO} (s:af H H') (n:H l=none):af H (upd H' l o):=fun c u e=>by rw [ae (aK e n)];exact s c u e
section
variable {X:Cx} {C:Addr} {m x:Str} {k:Nat} {ps:List Str} {sp:Sp} {oe e:Expr} {es:List Expr} {ta:TE} {t:TA} {p pos apos:Pos}
end
def xT (a0 a1 a2 a3 a4 a5 a6 a7:V):List (Str × V):=[("pieces",a0),("passed",a1),("place",a2),("worths",a3),("numbers",a4),("taken",a5),("spoken",a6),("over",a7)]
section
variable {a0 a1 a2 a3 a4 a5 a6 a7 z:V}
end
structure e5 (C:Addr) (H:Hp) (p pl d nl sl:Addr) (plv:V) (nums:List Int) (S:RS) (m:Nat):Prop where
 ob:∃ dx,H p=some (.ins C dx (xT plv (.ref pl) (.int S.place) (.ref d) (.ref nl) (.int S.taken) (.ref sl) (.bl (decide (S.word = "stop")))))
 xU:H pl=some (.lst (S.rQ.map fun k=>V.int (k:Nat)))
 last:∃ xs,S.rQ=xs ++ [S.wA]
 dict:∃ kvs,H d=some (.dK kvs)/\DW kvs S.w/\kvs.length<=m
 nums:H nl=some (.lst (nums.map V.int))
 xV:H sl=some (.lst (S.told.map V.int))
 ne:pl ≠ nl/\pl ≠ sl/\nl ≠ sl
 du:S.told.length<=m/\S.rQ.length<=m+1
section
variable {C:Addr} {H H':Hp} {p pl d nl sl:Addr} {plv:V} {nums:List Int} {S:RS} {m:Nat}
end
end L2
namespace HT
open PySem PyProof.Rows PySem.Spec
section
variable {prog:Program} {w:World} {A:Around} {E:Value->Shared->Prop} {s:Shared}
theorem jy {t sl:Addr} {items:Array Value} {vl vu:Value} {lo hi:Option Int} {Q:Value->Shared->Prop} (ht:IsTup s.heap t items) (hs:s.heap.IsSliceOf sl vl vu .none) (pl:IsPart vl lo) (pu:IsPart vu hi)
  (hw:bg items.size 0 lo=0/\bg items.size items.size hi=items.size) (h:Q (.ref t) s):wpAny (model prog w) A (getItem (.ref t) (.ref sl)) Q E s:=by
 obtain⟨os,hos,hcs,hds⟩:=id hs
 have hTs:s.TypeIs (.ref sl) "slice" := ⟨os,hos,hcs⟩
 unfold getItem
 try with_reducible refine wpAny_holding ?_
 first | refine wpAny_bind (wpAny_pure ?_) | skip
 refine wpAny_bind (wpAny_sequenceKey ht.typeIs (by decide) ?_)
 refine wpAny_bind (wpAny_callSpecial?_slot (name:=Str.ofString "__getitem__") ht.typeIs PyProof.Rows.slot_tuple_getitem
  (wpAny_call_entry PyProof.Rows.slot_tuple_getitem ht.typeIs entry_tuple_getitem ?_ (args_tuple_getitem _ _)))
 show wpAny _ _ (Builtin.Tuple.tupleItemsOf (.ref t) >>= _) _ _ s
 refine wpAny_bind (tupleItemsOf_ ht ?_)
 refine wpAny_bind (wpAny_typeOf hTs ?_)
 rw [if_pos (by decide)]
 refine wpAny_bind (gA hs pl pu ?_)
 have hno:((((bg items.size 0 lo:Nat):Int) == 0 && (1:Int) == 1 && (bg items.size items.size hi - bg items.size 0 lo) == items.size)=true):=by
  rw [hw.1,hw.2]
  simp
 show wpAny _ _ (if (((bg items.size 0 lo:Nat):Int) == 0 && (1:Int) == 1 && (bg items.size items.size hi - bg items.size 0 lo) == items.size)=true then _ else _) _ _ s
 rw [if_pos hno]
 refine wpAny_bind ?_
 unfold Builtin.Tuple.tupleIsExact
 refine wpAny_bind (wpAny_typeOf ht.typeIs (wpAny_pure ?_))
 rw [if_pos (by decide)]
 refine wpAny_bind (wpAny_rule ?_)
 first
  | exact wpAny_pure ⟨_,rfl,wpAny_pure h⟩
  | exact wpAny_bind (wpAny_pure (wpAny_pure ⟨_,rfl,wpAny_pure h⟩))
  | exact wpAny_pure (wpAny_pure ⟨_,rfl,wpAny_pure h⟩)
end
end HT
namespace L2
open PySem PySem.Spec PyProof.Rows
section
variable {X:Cx}
def wB (K:PySem.W.Frag):V->Option Int->Option Int->Hp->VK->Prop:=fun x lo hi H Q=>∃ a xs,x=.ref a/\ar K H a xs /\
 ((HT.bg xs.length 0 lo=0/\HT.bg xs.length xs.length hi=xs.length)->Q (.ref a) H)/\(¬ (HT.bg xs.length 0 lo=0/\HT.bg xs.length xs.length hi=xs.length)->∀ p,H p=none->Q (.ref p) (upd H p (.tup (i3 xs lo hi))))
theorem tY:u9 X (wB X.K):=by
 intro pins s σ H x v vl vu lo hi sl Q I rx hs pl pu h
 obtain⟨a,xs,rfl,hx,q1,q2⟩:=h
 by_cases hw:HT.bg xs.length 0 lo=0/\HT.bg xs.length xs.length hi=xs.length
 ·cases rx
  obtain⟨its,r,ht,hz⟩:=I.tuple hx
  have hlen:its.toArray.size=xs.length:=by rw [List.size_toArray];exact r.length.symm
  refine⟨"tuple",_,PyProof.Rows.slot_tuple_getitem.lookup,ht.typeIs,?_⟩
  exact HT.jy ht hs pl pu (by rw [hlen];exact hw) ⟨.ref a,H,I,rfl,q1 hw⟩
 ·exact qf pins s σ H (.ref a) v vl vu lo hi sl Q I rx hs pl pu ⟨a,xs,rfl,hx,hw,q2 hw⟩
end
theorem jF {P:Program} {w:World} {x:Str} {v:Value} (h:(ax P w).is (Sum.inr x) v=true):∃ t,v=.str x t:=by
 cases v with
 | str y t =>
  have:y=x:=by simpa [ax,fV,Value.isStrOf] using h
  exact⟨t,by rw [this]⟩
 | _=>simp [ax,fV,Value.isStrOf] at h
theorem ku:∀ {vs:List Value} {ks:List Str},vs.length=ks.length->(∀ (j:Nat) (v:Value) (x:Str),vs[j]? = some v->ks[j]? = some x->∃ t,v=.str x t)->StrsAre vs ks
 | [],[],_,_=>.nil
 | v :: vs,x :: ks,hl,h=>by
  obtain⟨t,rfl⟩:=h 0 v x rfl rfl
  exact .cons x t (ku (by simpa using hl) fun j v' x' h1 h2=>h (j+1) v' x' (by simpa using h1) (by simpa using h2))
 | [],_ :: _,hl,_=>by simp at hl
 | _ :: _,[],hl,_=>by simp at hl
section
variable {prog:Program} {w:World} {A:Around} {E:Value->Shared->Prop} {s:Shared}
open PySem.Calls PySem.W in
theorem gather {T:String} {r d:Addr} {n:Nat} {P:Nat->Value->Prop} {OK:Heap->Prop} {G:List Value->Shared->Prop} (src:KdlSrc prog w T r d n P OK) (calm:A.handled=none) (ok:OK s.heap) (du:n<=sizeLine)
  (fin:∀ (g:Heap) (tk:Nat) (got:Array Value),(∀ b o,s.heap.get? b=some o->g.get? b=some o)->ItemsOf P got n->s.heap.objs.size<=g.objs.size->G got.toList { s with heap:=g,toks:=tk }) :
  wpAny (model prog w) A (collect (.ref r)) G E s:=by
 obtain⟨lt1,lt2⟩:=src.there _ ok
 unfold collect
 refine wpAny_bind (wpAny_runValue (codeAny_builtin entry_proto_collect' ?_))
 rw [Around.under_plainId PySem.F.plain_proto_collect _]
 show wpAny _ A.in1 (newList [] >>= fun z=>again (.builtin "list.__iadd__" ⟨[z,.ref r],[]⟩)) _ _ s
 refine wpAny_bind (wpAny_newObj_type (wpAny_pure ⟨plainId_quiet PySem.F.plain_list_iadd _,codeAny_builtin entry_list_iadd' ?_⟩))
 rw [Around.under_plainId PySem.F.plain_list_iadd _]
 show wpAny _ A.in1 (Builtin.List.listExtendWith (.ref s.heap.objs.size) (.ref r) (.ref s.heap.objs.size)) _ _ _
 have made:(s.heap.push { cls:=.type "list",data:=.seq ([]:List Value).toArray }).get? s.heap.objs.size=some { cls:=.type "list",data:=.seq #[] }:=Heap.get?_push_size _ rfl
 have run:=kdl_extend (A:=A) (s:={ s with heap:=s.heap.push { cls:=.type "list",data:=.seq ([]:List Value).toArray } })
  (R:=fun (z:Result) (t:Shared)=>∃ (g:Heap) (tk:Nat) (got:Array Value) (c:Nat),z=.ok (.ret (.ref s.heap.objs.size))/\t = { s with heap:=g,toks:=tk } /\
   (∀ b o,s.heap.get? b=some o->g.get? b=some o)/\g.get? s.heap.objs.size=some { cls:=.type "list",dict:=none,data:=.seq got c,slots:=#[] }/\ItemsOf P got n)
  src calm (src.keep _ _ ok fun b _ o e=>Heap.get?_push_of_some _ e) s.heap.objs.size (Nat.ne_of_gt lt1) (Nat.ne_of_gt lt2) (.ref s.heap.objs.size) 0 made
  (fun g tk got c kept at_ its=>⟨g,tk,got,c,rfl,rfl,fun b o e=>kept b o (Nat.ne_of_lt (Heap.lt_size e)) (Heap.get?_push_of_some _ e),at_,its⟩) du
 refine wpAny_mono run (fun z t x=>?_) fun z t ⟨_,_,_,_,bad,_⟩=>by cases bad
 cases z with
 | done f =>
  obtain⟨g,tk,got,c,e,rfl,kept,at_,its⟩:=x
  cases e
  show wpAny _ A (load s.heap.objs.size >>= _) _ _ _
  exact wpAny_bind (wpAny_load at_ (wpAny_pure (fin g tk got kept its (Nat.le_of_lt (Heap.lt_size at_)))))
 | again more =>
  refine⟨x.1,codeAny_mono x.2 fun z' t' ⟨g,tk,got,c,e1,e2,kept,at_,its⟩=>?_⟩
  subst e1 e2
  show wpAny _ A (load s.heap.objs.size >>= _) _ _ _
  exact wpAny_bind (wpAny_load at_ (wpAny_pure (fin g tk got kept its (Nat.le_of_lt (Heap.lt_size at_)))))
theorem mO {a:Addr} {kvs:List (Key × Value)} {ks:List Str} {Q:Value->Shared->Prop} (hh:A.handled=none) (lo:(a == sysModules)=false) (dd:s.heap.DictOf (ax prog w) a kvs)
  (hk:kvs.map (·.1)=ks.map Sum.inr) (h64:ks.length < 64)
  (h:∀ (h':Heap) (tk:Nat) (D:Addr) (out:Array Value) (ss':List Str) (e:Nat),(∀ b o,s.heap.get? b=some o->h'.get? b=some o)->s.heap.objs.size<=D->h'.get? D=some { cls:=.type "list",data:=.seq out e } ->
   StrsAre out.toList ss'->ss'.Perm ks->sortedS ss' = true->Q (.ref D) { s with heap:=h',toks:=tk }) :
  wpAny (model prog w) A (call (.builtin "sorted") [.ref a]) Q E s:=by
 refine Calls.call_function_entry kind_sorted plain_sorted entry_sorted (args_sorted1 _) ?_
 unfold Builtin.«sorted»
 refine wpAny_bind (m:=checkCount "sorted" 1 1 _) (wpAny_pure ?_)
 obtain⟨ep,hat⟩:=dd.dictAt
 have hlk:kvs.length=ks.length:=by have:=congrArg List.length hk;simpa using this
 have hs:sizeLine=16777216\/64<=sizeLine:=.inr (by decide)
 have hz:kvs.length<=sizeLine:=by rw [hlk];exact Nat.le_trans (Nat.le_of_lt h64) (by decide)
 refine wpAny_bind (gather (A:=A.in1) (PySem.W.kdl_dict (knd:=ax prog w) (kvs:=kvs) (ep:=ep) lo) hh hat hz fun h' tk acc hkeep hacc hsz=>?_)
 have hl:acc.toList.length=ks.length:=by rw [Array.length_toList,hacc.1,hlk]
 have hS:StrsAre acc.toList ks:=ku hl fun j v x h1 h2=>by
  obtain⟨k,y,e1,e2⟩:=hacc.2 j v (by rw [<-Array.getElem?_toList];exact h1)
  have e3:(kvs.map (·.1))[j]? = some k:=by rw [List.getElem?_map,e1];rfl
  rw [hk,List.getElem?_map,h2] at e3
  cases (Option.some.inj e3)
  exact jF e2
 refine wpAny_bind (wpAny_newList ?_ (by rw [hl];exact Nat.le_trans (Nat.le_of_lt h64) (by decide)))
 have hoL:(h'.push (seqObj "list" acc.toList.toArray 0)).get? h'.objs.size=some (seqObj "list" acc.toList.toArray 0):=Heap.get?_push_size _ rfl
 refine wpAny_bind (wpAny_holding (wpAny_call_entry slot_list_sort ⟨_,hoL,rfl⟩ entry_list_sort (list_sort_treeK strKind_oneLt hoL hS.keysOf (fun v₁ v₂ rest e=>keyKind_strs (by rw [<-e];exact hS)) (by rw [hl];exact h64) fun st' a1 a2=>⟨_,rfl,?_⟩) (args_list_sort _)))
 obtain⟨ss',b1,b2,b3⟩:=sorted_out_str hS a1 a2
 obtain⟨e,he⟩:=sortedHeap_at (out:=(arrOf st').map (·.2)) hoL
 refine wpAny_pure ⟨_,rfl,h _ tk _ _ ss' e (fun b o ho=>?_) hsz he b1 b2 b3⟩
 have h1:=hkeep b o ho
 have hlt:=Heap.lt_size h1
 rw [sortedHeap_old (Nat.ne_of_lt hlt) (by rw [size_push'];exact Nat.lt_succ_of_lt hlt)]
 exact Heap.get?_push_of_some _ h1
end
theorem kW:∀ {us:List Value} {ys:List Str},StrsAre us ys->Vals (ys.map V.str) us
 | _,_,.nil=>.nil
 | _,_,.cons x t r=>.cons ⟨t,rfl⟩ (kW r)
section
variable {X:Cx}
theorem mP (hc:X.calm=true):fh X (.builtin "sorted") (fun vs H Q=>∃ (a:Addr) (kvs:List (Key × V)) (ks:List Str),vs = [.ref a]/\H a=some (.dK kvs)/\kvs.map (·.1)=ks.map Sum.inr/\ks.length < 64 /\
  ∀ (l:Addr) (ss:List Str),ss.Perm ks->sortedS ss=true->H l=none->Q (.ref l) (upd H l (.lst (ss.map V.str)))):=by
 intro pins s σ H xs us Q I r h
 obtain⟨a,kvs,ks,rfl,ha,hk,h64,q⟩:=h
 obtain⟨u,rfl,ru⟩:=vals1 r
 cases (show u=Value.ref a from ru)
 obtain⟨z,hd,vs,rel,dd⟩:=kn I.aA ha
 refine mO (I.ok.hd hc) hd dd (by rw [<-rel.keys];exact hk) h64 fun h' tk D out ss' e hkeep hD he hS hp hs=>?_
 have hv:Vals (ss'.map V.str) out.toList:=kW hS
 refine⟨.ref D,_,I.laid (t':=tk) (o:=.lst (ss'.map V.str)) hkeep hD (show bA X.prog X.w _ h' _ (.lst (ss'.map V.str)) from ⟨?_,out.toList,e,hv,by simpa using he⟩),rfl,q D ss' hp hs (I.aA.fresh hD)⟩
 rw [List.length_map,hp.length_eq]
 exact Nat.le_trans (Nat.le_of_lt h64) (by decide)
end
section
variable {X:Cx}
end
theorem ja:bootBuiltins "sorted" = some (.builtin "sorted"):=PyProof.Rows.boot_sorted
def jt:aG->Str
 | .put x _=>x
 | .copy x _=>x
 | .add x _=>x
 | .read x=>x
 | .tell x=>x
theorem rR (dd:aG):d0 (kr dd) 1=some (.str (jt dd)):=by cases dd <;> exact dE
theorem bM.put {H:Hp} {b p:Addr} {o:HO} (h:bM H b) (n:b ≠ p):bM (upd H p o) b:=by
 obtain⟨x,y,e,z⟩:=h
 exact⟨x,y,by rw [ae n];exact e,z⟩
theorem ky (l:Addr) (items:Array Value) (n:Nat) (b:Addr) (items2:Array Value) (n2:Nat) (dd:Option Addr) (sl:Array (Option Value)) (hs0:¬(!items.isEmpty && Builtin.List.listTooLong (items.size+items2.size))=true) (hs1:items.size<=sizeLine) (hs2:items.size+items2.size<=sizeLine+1) :
  Meets (Builtin.«list.extend» ⟨[.ref l,.ref b],[]⟩) (fun _ R s=>s.heap.get? l=some { cls:=.type "list",dict:=none,data:=.seq items n,slots:=#[] }/\s.heap.get? b=some { cls:=.type "tuple",dict:=dd,data:=.seq items2 n2,slots:=sl }/\R (.ok (.ret Value.none)) { s with heap:=s.heap.update l (Obj.mapSeq fun x=>x++items2),toks:=s.toks }) :=
 .of_wp fun prog w A R s h=>by
  obtain⟨hp,g,d,tk,os⟩:=s;obtain⟨hl,hb,h⟩:=h;have f1:=AutoSeq1.idx_int;have f2:=AutoSeq1.sub_tuple_tuple;have f3:=AutoSeq1.sub_list_list;have f4:=AutoSeq1.sub_tuple_list;have f5:=AutoSeq1.sub_list_tuple
  have hz':(items++items2).size<=sizeLine+1:=by rw [Array.size_append];exact hs2
  wp_walk using (wpAny_updateSeq hl rfl (hz:=hs1) (_hz':=hz')),wpAny_loadPart' hl,wpAny_loadPart' hb;exact⟨_,rfl,h⟩
section
variable {X:Cx}
def rS (K:PySem.W.Frag):V->List V->Hp->VK->Prop:=fun x vs H Q=>∃ l b xs zs,x=.ref l/\vs = [.ref b]/\H l=some (.lst xs)/\ar K H b zs/\xs.length+zs.length<=sizeLine/\Q .ba (upd H l (.lst (xs++zs)))
theorem pE:mz X "list.extend" (rS X.K):=by
 intro pins s σ H x vs v us Q I rx rv h
 obtain⟨l,b,xs,zs,rfl,rfl,hH,hB,hz,q⟩:=h
 cases rx
 obtain⟨u,rfl,ru⟩:=rv.one
 cases ru
 obtain⟨z,its,n,r,hl,e⟩:=I.jP hH
 obtain⟨its2,r2,⟨o,e2,hc,n2,hd⟩,z2⟩:=I.tuple hB
 have hl2:=r2.length
 obtain⟨oc,od,oda,os⟩:=o
 dsimp only at hc hd
 subst hc
 subst hd
 have hsz:its.toArray.size+its2.toArray.size<=sizeLine:=by rw [List.size_toArray,List.size_toArray];omega
 have hlong:¬ (!its.toArray.isEmpty && Builtin.List.listTooLong (its.toArray.size+its2.toArray.size))=true:=by
  rw [mB hsz,Bool.and_false]
  exact Bool.false_ne_true
 refine call_meets F.slot_list_extend ⟨_,e,rfl⟩ F.entry_list_extend (F.args_list_extend_2 _ _)
  (ky l its.toArray n b its2.toArray n2 od os hlong (by rw [List.size_toArray];omega) (by omega)) ⟨e,e2,?_⟩
 refine⟨.ba,_,I.pA (its':=its++its2) hH e (by simp) (r.append r2) ?_,rfl,q⟩
 rw [List.length_append]
 omega
end
section
variable {a0 a1 z:V}
end
section
variable {C D:Addr} {H H':Hp} {wp p pl d nl sl:Addr} {plv:V} {nums:List Int} {S:RS} {m:Nat}
theorem e5.keep (A:e5 C H p pl d nl sl plv nums S m) (k:∀ c o,H c=some o->(c=p\/c=pl\/c=d\/c=nl\/c=sl)->H' c=some o):e5 C H' p pl d nl sl plv nums S m:=by
 obtain⟨⟨dx,h1⟩,h2,h3,⟨kvs,h4,h5⟩,h6,h7,h8,h9⟩:=A
 exact⟨⟨dx,k _ _ h1 (.inl rfl)⟩,k _ _ h2 (.inr (.inl rfl)),h3,⟨kvs,k _ _ h4 (.inr (.inr (.inl rfl))),h5⟩,k _ _ h6 (.inr (.inr (.inr (.inl rfl)))),k _ _ h7 (.inr (.inr (.inr (.inr rfl)))),h8,h9⟩
end
section
variable (C D:Addr)
end
section
variable {C D:Addr} {H H':Hp} {wp p pl d nl sl st d2 tl bl np:Addr} {plv:V} {nums nums':List Int} {S S':RS} {m m':Nat}
end
section
variable (C D:Addr)
end
section
variable {C D:Addr} {H0 H H1 H2:Hp} {wp p pl d nl sl st st' d2 tl bl np b:Addr} {plv:V} {nums more:List Int} {S S':RS} {m m':Nat}
end
section
variable {X:Cx}
end
section
variable {ps:List Piece} {nums more:List Int} {S S0:RS} {m n:Nat}
end
section
variable {ps:List Piece} {nums more:List Int} {S:RS} {m n:Nat}
end
inductive Call where
 | hand (ns:List Int)
 | go (n:Nat)
structure vy where
 S:RS
 nums:List Int
 m:Nat
structure WA where
 wp:Addr
 p:Addr
 pl:Addr
 d:Addr
 nl:Addr
 sl:Addr
section
variable {C D:Addr} {H H' H0:Hp} {x y:WA} {pv pv':V} {s s':vy} {c:Addr} {o:HO}
end
section
variable (C D:Addr)
end
section
variable {C D:Addr} {H0 H H1:Hp} {w0 w1 w2:WA} {wl cl nb:Addr} {plv ov:V} {x0 x1 x2 x':vy} {n0 n1 n':List Int} {vs:List V} {cs:List Call}
end
section
variable {prog:Program} {w:World} {A:Around} {E:Value->Shared->Prop} {s:Shared}
theorem kA {j t:Addr} {n:Nat} {its:Array Value} {x:Value} {Q:Value->Shared->Prop} (hj:s.heap.IsTupleIter j t n) (ht:s.heap.IsTuple t its) (hx:its[n]? = some x)
  (hQ:∀ g,g.IsTupleIter j t (n+1)->Heap.SameBut j s.heap g->Q x { s with heap:=g }):wpAny (model prog w) A (Builtin.SmallTypes.nextOf (.ref j)) Q E s:=by
 obtain⟨ob,eo,ec,ed⟩:=id hj
 obtain⟨ot,et,_,k,ek⟩:=ht
 unfold Builtin.SmallTypes.nextOf
 refine wpAny_bind (wpAny_callSpecial?_slot (name:=Str.ofString "__next__") hj.typeIs F.slot_tuple_iterator_next (wpAny_call_entry F.slot_tuple_iterator_next hj.typeIs F.entry_tuple_iterator_next ?_ (F.args_tuple_iterator_next_1 _)))
 show wpAny _ _ (field (.ref j) 0 >>= _) _ _ s
 refine wpAny_bind (wpAny_field eo ed (x:=.ref t) rfl ?_)
 show wpAny _ _ (if (Value.ref t == Value.none)=true then _ else _) _ _ s
 refine (if_neg (c:=(Value.ref t == Value.none)=true) Bool.false_ne_true) ▸ ?_
 show wpAny _ _ (field (.ref j) 1 >>= _) _ _ s
 refine wpAny_bind (wpAny_field eo ed (x:=.int n 0) rfl (wpAny_bind (wpAny_seqItems et ek ?_)))
 simp only [hx,Int.toNat_natCast]
 refine wpAny_bind (wpAny_setField eo ed (by simp) (wpAny_pure ⟨x,rfl,wpAny_pure (hQ _ ⟨_,Heap.get?_update_self _ eo (Obj.isFreed_of_fields (Obj.data_mapFields ed _)),(Obj.cls_mapFields ..).trans ec,?_⟩ (Heap.SameBut.update ..))⟩))
 rw [Obj.data_mapFields ed];simp [rawInt]
theorem kX {j t:Addr} {n:Nat} {its:Array Value} {Q:Value->Shared->Prop} (ha:A.handled=none) (hj:s.heap.IsTupleIter j t n) (ht:s.heap.IsTuple t its) (hx:its[n]? = none)
    (hE:∀ g e,Heap.ExtBut j s.heap g->(∃ o,g.get? e=some o/\o.cls=.type "StopIteration")->E (.ref e) { s with heap:=g }):wpAny (model prog w) A (Builtin.SmallTypes.nextOf (.ref j)) Q E s:=by
  obtain⟨ob,eo,ec,ed⟩:=id hj
  obtain⟨ot,et,_,k,ek⟩:=ht
  unfold Builtin.SmallTypes.nextOf
  refine wpAny_bind (wpAny_callSpecial?_slot (name:=Str.ofString "__next__") hj.typeIs F.slot_tuple_iterator_next (wpAny_call_entry F.slot_tuple_iterator_next hj.typeIs F.entry_tuple_iterator_next ?_ (F.args_tuple_iterator_next_1 _)))
  show wpAny _ _ (field (.ref j) 0 >>= _) _ _ s
  refine wpAny_bind (wpAny_field eo ed (x:=.ref t) rfl ?_)
  show wpAny _ _ (if (Value.ref t == Value.none)=true then _ else _) _ _ s
  refine (if_neg (c:=(Value.ref t == Value.none)=true) Bool.false_ne_true) ▸ ?_
  show wpAny _ _ (field (.ref j) 1 >>= _) _ _ s
  refine wpAny_bind (wpAny_field eo ed (x:=.int n 0) rfl (wpAny_bind (wpAny_seqItems et ek ?_)))
  simp only [hx,Int.toNat_natCast]
  refine wpAny_bind (wpAny_rule (wpAny_bind (wpAny_setField eo ed (by simp) ?_)))
  show wpAny _ _ (newExc (.type "StopIteration") [] >>= fun _=>_) _ _ _
  refine wpAny_bind ?_
  simp only [newTuple,newExc]
  refine wpAny_bind (wpAny_newObj_type (wpAny_bind (m:=firstArgMember _ _) (wpAny_of_eq (a:=Value.none) (by first | rfl | (simp only [firstArgMember];rfl)) (wpAny_newObj_type ?_ (by size_fits)))) (by size_fits))
  simp only [raiseNew]
  refine wpAny_bind (wpAny_handled (by
    first | rw [show A.in1.handled=none from ha] | rw [ha]
    exact wpAny_bind (wpAny_pure (wpAny_throw (hE _ _ (((Heap.SameBut.update ..).extBut.push _).push _) ⟨_,Heap.get?_push_size _ rfl,rfl⟩)))))
structure oC (z p q j k a b:Addr):Prop where
 pz:p ≠ z
 qz:q ≠ z
 jz:j ≠ z
 kz:k ≠ z
 pq:p ≠ q
 pj:p ≠ j
 pk:p ≠ k
 qj:q ≠ j
 qk:q ≠ k
 jk:j ≠ k
 az:a ≠ z
 aq:a ≠ q
 aj:a ≠ j
 ak:a ≠ k
 bz:b ≠ z
 bq:b ≠ q
 bj:b ≠ j
 bk:b ≠ k
theorem e6 {h g:Heap} {a:Addr} {xs:Array Value} (x:h.IsTuple a xs) (k:∀ o,h.get? a=some o->g.get? a=some o):g.IsTuple a xs:=by
 obtain⟨o,e,r⟩:=x
 exact⟨o,k o e,r⟩
theorem tZ {z p q j k a b:Addr} {m n:Nat} {xs ys:Array Value} {x y u v:Value} {Q:Value->Shared->Prop} (D:oC z p q j k a b)
  (gz:IsZip s.heap z p q .none) (gp:IsPair s.heap p (.ref j) (.ref k)) (gq:IsPair s.heap q u v)
  (gj:s.heap.IsTupleIter j a m) (gk:s.heap.IsTupleIter k b n) (ga:s.heap.IsTuple a xs) (gb:s.heap.IsTuple b ys) (hx:xs[m]? = some x) (hy:ys[n]? = some y)
  (hQ:∀ g,IsZip g z p q (rawInt s.heap.objs.size)->IsPair g q x y->g.IsTupleIter j a (m+1)->g.IsTupleIter k b (n+1)->IsPair g s.heap.objs.size x y->g.objs.size=s.heap.objs.size+1 ->
   (∀ c o,c ≠ z->c ≠ q->c ≠ j->c ≠ k->s.heap.get? c=some o->g.get? c=some o)->Q (.ref s.heap.objs.size) { s with heap:=g }) :
  wpAny (model prog w) A (Builtin.«zip.__next__» ⟨[.ref z],[]⟩) (fun fin s'=>∃ v,fin=.done (.ret v)/\Q v s') E s:=by
 show wpAny _ _ (field (.ref z) 2 >>= fun _=>_) _ _ _
 refine wpAny_bind (wpAny_field gz rfl (x:=.bool false) rfl ?_)
 show wpAny _ _ (field (.ref z) 3 >>= fun _=>_) _ _ _
 refine wpAny_bind (wpAny_field gz rfl (x:=.ref p) rfl (wpAny_bind (wpAny_seqItems gp rfl ?_)))
 show wpAny _ _ (Builtin.SmallTypes.ownedTupleIsFree (.ref z) >>= fun _=>_) _ _ _
 refine wpAny_bind ?_
 unfold Builtin.SmallTypes.ownedTupleIsFree
 refine wpAny_bind (wpAny_field gz rfl (x:=.none) rfl (wpAny_pure ?_))
 simp only [if_true]
 refine wpAny_bind (wpAny_rule (wpAny_bind (wpAny_field gz rfl (x:=.ref q) rfl (wpAny_bind (wpAny_setField_rec gz (by simp) fun g1 gz1 t1=>?_)))))
 replace gz1:IsZip g1 z p q .ellipsis:=gz1
 refine wpAny_bind ?_
 simp only [List.forIn_cons,List.forIn_nil,List.zipIdx_cons,List.zipIdx_nil]
 refine wpAny_bind (wpAny_bind (wpAny_onRaise ?_))
 show wpAny _ _ (Builtin.SmallTypes.nextOf (.ref j) >>= fun _=>_) _ _ _
 refine wpAny_bind (kA (gj.extBut t1.extBut D.jz) (e6 ga fun o e=>t1.extBut _ _ D.az e) hx fun g2 gj2 t2=>wpAny_pure ?_)
 have gq2:IsPair g2 q u v:=t2.extBut _ _ D.qj (t1.extBut _ _ D.qz gq)
 refine wpAny_bind (wpAny_seqItems gq2 rfl (wpAny_bind (wpAny_updateSeq_pair gq2 fun g3 gq3 t3=>?_)))
 replace gq3:IsPair g3 q x v:=gq3
 refine wpAny_bind (wpAny_letGo (wpAny_pure (wpAny_bind (wpAny_bind (wpAny_onRaise ?_)))))
 show wpAny _ _ (Builtin.SmallTypes.nextOf (.ref k) >>= fun _=>_) _ _ _
 refine wpAny_bind (kA (((gk.extBut t1.extBut D.kz).extBut t2.extBut D.jk.symm).extBut t3.extBut D.qk.symm) (e6 gb fun o e=>t3.extBut _ _ D.bq (t2.extBut _ _ D.bj (t1.extBut _ _ D.bz e))) hy fun g4 gk4 t4=>wpAny_pure ?_)
 have gq4:IsPair g4 q x v:=t4.extBut _ _ D.qk gq3
 refine wpAny_bind (wpAny_seqItems gq4 rfl (wpAny_bind (wpAny_updateSeq_pair gq4 fun g5 gq5 t5=>?_)))
 replace gq5:IsPair g5 q x y:=gq5
 refine wpAny_bind (wpAny_letGo (wpAny_pure (wpAny_pure (wpAny_bind (wpAny_seqItems gq5 rfl (wpAny_bind (wpAny_newTuple ?_)))))))
 have ez:g5.objs.size=s.heap.objs.size:=by rw [t5.1,t4.1,t3.1,t2.1,t1.1]
 have gz5:IsZip g5 z p q .ellipsis:=t5.extBut _ _ D.qz.symm (t4.extBut _ _ D.kz.symm (t3.extBut _ _ D.qz.symm (t2.extBut _ _ D.jz.symm gz1)))
 have k5:∀ c o,c ≠ z->c ≠ q->c ≠ j->c ≠ k->s.heap.get? c=some o->g5.get? c=some o:=fun c o c1 c2 c3 c4 e=>t5.extBut _ _ c2 (t4.extBut _ _ c4 (t3.extBut _ _ c2 (t2.extBut _ _ c3 (t1.extBut _ _ c1 e))))
 have gj5:g5.IsTupleIter j a (m+1):=((gj2.extBut t3.extBut D.qj.symm).extBut t4.extBut D.jk).extBut t5.extBut D.qj.symm
 have gk5:g5.IsTupleIter k b (n+1):=gk4.extBut t5.extBut D.qk.symm
 have lz:z < g5.objs.size:=Heap.lt_size gz5
 show wpAny _ _ (Builtin.SmallTypes.ownedTupleHandOut (.ref z) (.ref g5.objs.size) >>= fun _=>_) _ _ _
 refine wpAny_bind ?_
 unfold Builtin.SmallTypes.ownedTupleHandOut
 have gz6:IsZip (g5.push { cls:=.type "tuple",data:=.seq #[x,y] }) z p q .ellipsis:=Heap.get?_push_of_some _ gz5
 refine wpAny_bind (wpAny_setField_rec gz6 (by simp) fun g7 gz7 t7=>?_)
 replace gz7:IsZip g7 z p q (rawInt g5.objs.size):=gz7
 refine wpAny_setField_rec gz7 (by simp) fun g8 gz8 t8=>?_
 replace gz8:IsZip g8 z p q (rawInt g5.objs.size):=gz8
 have up:∀ c o,c ≠ z->g5.get? c=some o->g8.get? c=some o:=fun c o c1 e=>t8.extBut _ _ c1 (t7.extBut _ _ c1 (Heap.get?_push_of_some _ e))
 have gT:IsPair g8 g5.objs.size x y:=t8.extBut _ _ (Nat.ne_of_gt lz) (t7.extBut _ _ (Nat.ne_of_gt lz) (Heap.get?_push_size _ rfl))
 have e8:g8.objs.size=g5.objs.size+1:=by rw [t8.1,t7.1,Heap.size_push]
 rw [ez] at gz8 gT e8
 refine wpAny_pure ⟨_,rfl,?_⟩
 show Q (.ref g5.objs.size) _
 rw [ez]
 refine hQ g8 gz8 (up _ _ D.qz gq5) ?_ ?_ gT e8 fun c o c1 c2 c3 c4 e=>up c o c1 (k5 c o c1 c2 c3 c4 e)
 ·obtain⟨o,e,r⟩:=gj5
  exact⟨o,up _ _ D.jz e,r⟩
 ·obtain⟨o,e,r⟩:=gk5
  exact⟨o,up _ _ D.kz e,r⟩
theorem vz {z p q j k a b:Addr} {m n:Nat} {xs ys:Array Value} {u v:Value} {Q:Fin->Shared->Prop} (ha:A.handled=none) (D:oC z p q j k a b)
  (gz:IsZip s.heap z p q .none) (gp:IsPair s.heap p (.ref j) (.ref k)) (gq:IsPair s.heap q u v)
  (gj:s.heap.IsTupleIter j a m) (gk:s.heap.IsTupleIter k b n) (ga:s.heap.IsTuple a xs) (gb:s.heap.IsTuple b ys) (hend:xs[m]? = none\/ys[n]? = none)
  (hE:∀ g e,(∀ c o,c ≠ z->c ≠ q->c ≠ j->c ≠ k->s.heap.get? c=some o->g.get? c=some o)->(∃ o,g.get? e=some o/\o.cls=.type "StopIteration")->E (.ref e) { s with heap:=g }) :
  wpAny (model prog w) A (Builtin.«zip.__next__» ⟨[.ref z],[]⟩) Q E s:=by
 show wpAny _ _ (field (.ref z) 2 >>= fun _=>_) _ _ _
 refine wpAny_bind (wpAny_field gz rfl (x:=.bool false) rfl ?_)
 show wpAny _ _ (field (.ref z) 3 >>= fun _=>_) _ _ _
 refine wpAny_bind (wpAny_field gz rfl (x:=.ref p) rfl (wpAny_bind (wpAny_seqItems gp rfl ?_)))
 show wpAny _ _ (Builtin.SmallTypes.ownedTupleIsFree (.ref z) >>= fun _=>_) _ _ _
 refine wpAny_bind ?_
 unfold Builtin.SmallTypes.ownedTupleIsFree
 refine wpAny_bind (wpAny_field gz rfl (x:=.none) rfl (wpAny_pure ?_))
 simp only [if_true]
 refine wpAny_bind (wpAny_rule (wpAny_bind (wpAny_field gz rfl (x:=.ref q) rfl (wpAny_bind (wpAny_setField_rec gz (by simp) fun g1 gz1 t1=>?_)))))
 replace gz1:IsZip g1 z p q .ellipsis:=gz1
 refine wpAny_bind ?_
 simp only [List.forIn_cons,List.forIn_nil,List.zipIdx_cons,List.zipIdx_nil]
 refine wpAny_bind (wpAny_bind (wpAny_onRaise ?_))
 show wpAny _ _ (Builtin.SmallTypes.nextOf (.ref j) >>= fun _=>_) _ _ _
 cases hx:xs[m]? with
 | none =>
  refine wpAny_bind (kX ha (gj.extBut t1.extBut D.jz) (e6 ga fun o e=>t1.extBut _ _ D.az e) hx fun g2 e t2 he=>?_)
  obtain⟨oe,eoe,ce⟩:=he
  have gz2:IsZip g2 z p q .ellipsis:=t2 _ _ D.jz.symm gz1
  have ne:e ≠ z:=fun x=>by subst x;rw [gz2] at eoe;cases eoe;simp at ce
  exact wpAny_setField_rec gz2 (by simp) fun g3 _ t3=>hE g3 e (fun c o c1 _ c3 _ x=>t3.extBut _ _ c1 (t2 _ _ c3 (t1.extBut _ _ c1 x))) ⟨oe,t3.extBut _ _ ne eoe,ce⟩
 | some x =>
  have hy:ys[n]? = none:=hend.elim (fun h=>by rw [hx] at h;cases h) id
  refine wpAny_bind (kA (gj.extBut t1.extBut D.jz) (e6 ga fun o e=>t1.extBut _ _ D.az e) hx fun g2 gj2 t2=>wpAny_pure ?_)
  have gq2:IsPair g2 q u v:=t2.extBut _ _ D.qj (t1.extBut _ _ D.qz gq)
  refine wpAny_bind (wpAny_seqItems gq2 rfl (wpAny_bind (wpAny_updateSeq_pair gq2 fun g3 gq3 t3=>?_)))
  refine wpAny_bind (wpAny_letGo (wpAny_pure (wpAny_bind (wpAny_bind (wpAny_onRaise ?_)))))
  show wpAny _ _ (Builtin.SmallTypes.nextOf (.ref k) >>= fun _=>_) _ _ _
  refine wpAny_bind (kX ha (((gk.extBut t1.extBut D.kz).extBut t2.extBut D.jk.symm).extBut t3.extBut D.qk.symm) (e6 gb fun o e=>t3.extBut _ _ D.bq (t2.extBut _ _ D.bj (t1.extBut _ _ D.bz e))) hy fun g4 e t4 he=>?_)
  obtain⟨oe,eoe,ce⟩:=he
  have gz4:IsZip g4 z p q .ellipsis:=t4 _ _ D.kz.symm (t3.extBut _ _ D.qz.symm (t2.extBut _ _ D.jz.symm gz1))
  have ne:e ≠ z:=fun x=>by subst x;rw [gz4] at eoe;cases eoe;simp at ce
  exact wpAny_setField_rec gz4 (by simp) fun g5 _ t5=>hE g5 e (fun c o c1 c2 c3 c4 x=>t5.extBut _ _ c1 (t4 _ _ c4 (t3.extBut _ _ c2 (t2.extBut _ _ c3 (t1.extBut _ _ c1 x))))) ⟨oe,t5.extBut _ _ ne eoe,ce⟩
theorem t6 {z p q j k a b:Addr} {m n:Nat} {xs ys:Array Value} {x y u v:Value} {Q:Option Value->Shared->Prop} (D:oC z p q j k a b)
  (gz:IsZip s.heap z p q .none) (gp:IsPair s.heap p (.ref j) (.ref k)) (gq:IsPair s.heap q u v)
  (gj:s.heap.IsTupleIter j a m) (gk:s.heap.IsTupleIter k b n) (ga:s.heap.IsTuple a xs) (gb:s.heap.IsTuple b ys) (hx:xs[m]? = some x) (hy:ys[n]? = some y)
  (hQ:∀ g,IsZip g z p q (rawInt s.heap.objs.size)->IsPair g q x y->g.IsTupleIter j a (m+1)->g.IsTupleIter k b (n+1)->IsPair g s.heap.objs.size x y->g.objs.size=s.heap.objs.size+1 ->
   (∀ c o,c ≠ z->c ≠ q->c ≠ j->c ≠ k->s.heap.get? c=some o->g.get? c=some o)->Q (some (.ref s.heap.objs.size)) { s with heap:=g }) :
  wpAny (model prog w) A (pyNext (.ref z)) Q E s:=by
 have ty:s.TypeIs (.ref z) "zip" := ⟨_,gz,rfl⟩
 unfold pyNext
 exact wpAny_bind (wpAny_attempt (wpAny_callSpecial?_slot (name:=Str.ofString "__next__") ty F.slot_zip_next (wpAny_call_entry F.slot_zip_next ty F.entry_zip_next
   (tZ D gz gp gq gj gk ga gb hx hy fun g a1 a2 a3 a4 a5 a6 a7=>wpAny_pure (hQ g a1 a2 a3 a4 a5 a6 a7)) (F.args_zip_next_1 _))))
theorem t9 {z p q j k a b:Addr} {m n:Nat} {xs ys:Array Value} {u v:Value} {Q:Option Value->Shared->Prop} (ha:A.handled=none) (D:oC z p q j k a b)
  (gz:IsZip s.heap z p q .none) (gp:IsPair s.heap p (.ref j) (.ref k)) (gq:IsPair s.heap q u v)
  (gj:s.heap.IsTupleIter j a m) (gk:s.heap.IsTupleIter k b n) (ga:s.heap.IsTuple a xs) (gb:s.heap.IsTuple b ys) (hend:xs[m]? = none\/ys[n]? = none)
  (hQ:∀ g,(∀ c o,c ≠ z->c ≠ q->c ≠ j->c ≠ k->s.heap.get? c=some o->g.get? c=some o)->Q none { s with heap:=g }):wpAny (model prog w) A (pyNext (.ref z)) Q E s:=by
 have ty:s.TypeIs (.ref z) "zip" := ⟨_,gz,rfl⟩
 unfold pyNext
 refine wpAny_bind (wpAny_attempt (wpAny_callSpecial?_slot (name:=Str.ofString "__next__") ty F.slot_zip_next (wpAny_call_entry F.slot_zip_next ty F.entry_zip_next
   (vz ha D gz gp gq gj gk ga gb hend fun g e hk he=>?_) (F.args_zip_next_1 _))))
 obtain⟨o,eo,ec⟩:=he
 exact wpAny_bind (wpAny_isInstance (T := "StopIteration") (b:=true) ⟨o,eo,ec⟩ isSubtype_stop (wpAny_pure (hQ _ hk)))
abbrev qt (h:Heap) (a:Addr):Heap:=h.push { cls:=.type "tuple_iterator",data:=.fields #[.ref a,.int 0 0] }
abbrev tq (h:Heap) (a b:Addr):Heap:=(qt h a).push { cls:=.type "tuple_iterator",data:=.fields #[.ref b,.int 0 0] }
abbrev tu (h:Heap) (a b:Addr):Heap:=(tq h a b).push { cls:=.type "tuple",data:=.seq #[.ref h.objs.size,.ref (qt h a).objs.size] }
abbrev tw (h:Heap) (a b:Addr):Heap:=(tu h a b).push { cls:=.type "tuple",data:=.seq #[.none,.none] }
abbrev oD (h:Heap) (a b:Addr):Heap:=(tw h a b).push { cls:=.type "zip",data:=.fields #[.none,.bool false,.bool false,.ref (tq h a b).objs.size,.ref (tu h a b).objs.size] }
theorem vA (a b:Addr) (xs ys:Array Value):Meets (Builtin.«zip.__new__» ⟨[.type "zip",.ref a,.ref b],[]⟩) (fun _ R s=>s.heap.IsTuple a xs/\s.heap.IsTuple b ys /\
   R (.ok (.ret (.ref (tw s.heap a b).objs.size))) { s with heap:=oD s.heap a b }) :=
 .of_wp fun P w' A' R' s' hh=>by
  obtain⟨hp,g,d,tk,os⟩:=s'
  obtain⟨ga,gb,hh⟩:=hh
  have hsub:=sub_zip
  have la:Heap.IsTuple (Shared.heap ⟨hp,g,d,tk,os⟩) a xs:=ga
  have lb:Heap.IsTuple (Shared.heap ⟨qt hp a,g,d,tk,os⟩) b ys:=e6 gb fun o e=>Heap.get?_push_of_some _ e
  wp_walk using wpAny_pyIter_tuple la,wpAny_pyIter_tuple lb
  exact⟨_,rfl,hh⟩
theorem ua {a b:Addr} {xs ys:Array Value} {Q:Value->Shared->Prop} (ga:s.heap.IsTuple a xs) (gb:s.heap.IsTuple b ys)
  (h:∀ g,IsZip g (s.heap.objs.size+4) (s.heap.objs.size+2) (s.heap.objs.size+3) .none->IsPair g (s.heap.objs.size+2) (.ref s.heap.objs.size) (.ref (s.heap.objs.size+1)) ->
   IsPair g (s.heap.objs.size+3) .none .none->g.IsTupleIter s.heap.objs.size a 0->g.IsTupleIter (s.heap.objs.size+1) b 0 ->
   (∀ c o,s.heap.get? c=some o->g.get? c=some o)->Q (.ref (s.heap.objs.size+4)) { s with heap:=g }) :
  wpAny (model prog w) A (call (.type "zip") [.ref a,.ref b]) Q E s:=by
 refine callType_new F.called_zip (by decide) (F.typeCall_zip_2 _ _) (F.newCall_zip_2 _ _) (fun obj=>F.args_object_init_3 obj _ _) F.entry_zip_new (vA a b xs ys) ⟨ga,gb,?_⟩
 have z1:(qt s.heap a).objs.size=s.heap.objs.size+1:=Heap.size_push ..
 have z2:(tq s.heap a b).objs.size=s.heap.objs.size+2:=by rw [Heap.size_push,z1]
 have z3:(tu s.heap a b).objs.size=s.heap.objs.size+3:=by rw [Heap.size_push,z2]
 have z4:(tw s.heap a b).objs.size=s.heap.objs.size+4:=by rw [Heap.size_push,z3]
 have up:∀ {h:Heap} {c:Addr} {o o':Obj},h.get? c=some o->(h.push o').get? c=some o:=fun e=>Heap.get?_push_of_some _ e
 have q5:(oD s.heap a b).get? (tw s.heap a b).objs.size=some _:=Heap.get?_push_size _ rfl
 have q4:(oD s.heap a b).get? (tu s.heap a b).objs.size=some _:=up (Heap.get?_push_size _ rfl)
 have q3:(oD s.heap a b).get? (tq s.heap a b).objs.size=some _:=up (up (Heap.get?_push_size _ rfl))
 have q2:(oD s.heap a b).get? (qt s.heap a).objs.size=some _:=up (up (up (Heap.get?_push_size _ rfl)))
 have q1:(oD s.heap a b).get? s.heap.objs.size=some _:=up (up (up (up (Heap.get?_push_size _ rfl))))
 show _/\_
 rw [z2,z3,z4] at q5
 rw [z1,z2] at q3
 rw [z3] at q4
 rw [z1] at q2
 rw [z4]
 exact⟨⟨_,q5,rfl⟩,h _ q5 q3 q4 ⟨_,q1,rfl,rfl⟩ ⟨_,q2,rfl,rfl⟩ fun c o x=>up (up (up (up (up x))))⟩
end
section
variable {X:Cx} {pins:List (Addr × Obj)} {σ : List (Option V)} {H H':Hp} {s:Shared} {h':Heap}
theorem Inv.ic {t':Nat} {fp:List Addr} (I:Inv X pins σ H s) (k:∀ b o,b ∉ fp->s.heap.get? b=some o->h'.get? b=some o) (f:∀ b ∈ fp,dW X pins H b):Inv X pins σ H { s with heap:=h',toks:=t' }:=by
 have nit:∀ b u,H b=some u->b ∉ fp:=fun b u e z=>by rw [(f b z).1] at e;cases e
 refine I.step (g':=s.gens) (d':=s.drawn) (ch:=fp) (fun b hb=>?_) (fun b o _ _ hc e _=>k b o hc e) (fun b o _ _ hc e _=>⟨o.slots,k b o hc e⟩) (fun _ _ _ _ n=>n)
  (fun b o hc e=>⟨o,k b o hc e⟩) (fun _ _ e=>e) (fun _ _ _ e=>e) (fun b ps e=>⟨#[],by rw [e];simp⟩) (fun m hm=>?_) (fun b u e=>?_) I.bare
 ·obtain⟨f0,f1,f2,f3,f4,f5⟩:=f b hb
  exact⟨f3,f1,f4,f5⟩
 ·obtain⟨o,es,ep,ho,r⟩:=hm
  exact⟨o,es,ep,k _ o (fun z=>(f _ z).2.1 rfl) ho,r⟩
 ·refine (I.aA b u e).jO (fun c v hc q=>k c v ?_ q) (fun _ q=>q) fun _ _ q=>q
  rcases hc with z | z
  ·rw [z];exact nit b u e
  ·exact nit c _ z
def tD (K:PySem.W.Frag) (a b:Addr):It :=
 ⟨fun i H=>∃ xs ys x y,ar K H a xs/\ar K H b ys/\xs[i]? = some x/\ys[i]? = some y,
  fun i H v H'=>∃ t x y,v=.ref t/\H t=none/\H' = upd H t (.tup [x,y])/\∀ xs ys,ar K H a xs->ar K H b ys->xs[i]? = some x/\ys[i]? = some y,
  fun i H=>∃ xs ys,ar K H a xs/\ar K H b ys/\(xs.length<=i\/ys.length<=i)⟩
theorem rT {P:Program} {w:World} {K:PySem.W.Frag} {elts:List Expr} {kk:Nat} {pos:Pos} (a b z p q j k:Addr) (D:oC z p q j k a b) :
    Turn P w K (.Tuple elts kk pos) (tD K a b) [z,p,q,j,k] z (fun i h=>IsZip h z p q .none/\IsPair h p (.ref j) (.ref k)/\(∃ u v,IsPair h q u v)/\h.IsTupleIter j a i/\h.IsTupleIter k b i) where
  mem:=by simp
  obj:=fun i h st c hc=>by
    obtain⟨gz,gp,⟨u,v,gq⟩,⟨oj,ej,cj,dj⟩,⟨ok,ek,ck,dk⟩⟩:=st
    simp only [List.mem_cons,List.not_mem_nil,or_false] at hc
    rcases hc with rfl | rfl | rfl | rfl | rfl
    · exact⟨_,gz,fun v e=>by cases e⟩
    · exact⟨_,gp,fun v e=>by cases e⟩
    · exact⟨_,gq,fun v e=>by cases e⟩
    · exact⟨oj,ej,fun v e=>by rw [dj] at e;cases e⟩
    · exact⟨ok,ek,fun v e=>by rw [dk] at e;cases e⟩
  keep:=fun i h g st kp=>by
    obtain⟨gz,gp,⟨u,v,gq⟩,⟨oj,ej,rj⟩,⟨ok,ek,rk⟩⟩:=st
    exact⟨kp z (by simp) _ gz,kp p (by simp) _ gp,⟨u,v,kp q (by simp) _ gq⟩,⟨oj,kp j (by simp) _ ej,rj⟩,⟨ok,kp k (by simp) _ ek,rk⟩⟩
  item:=by
    intro X hP hw hK hc i pins s σ H E I hf st hg
    subst hP hw hK
    obtain⟨gz,gp,⟨u,v,gq⟩,gj,gk⟩:=st
    obtain⟨xs,ys,x,y,ha,hb,hx,hy⟩:=hg
    obtain⟨is,ra,pa,_⟩:=I.tuple ha
    obtain⟨js,rb,pb,_⟩:=I.tuple hb
    obtain⟨xv,hxv,rx⟩:=ra.get hx
    obtain⟨yv,hyv,ry⟩:=rb.get hy
    have sz:∀ c ∈ [z,p,q,j,k],c ≠ s.heap.objs.size:=fun c hc e=>by
      subst e
      simp only [List.mem_cons,List.not_mem_nil,or_false] at hc
      rcases hc with e | e | e | e | e
      · exact absurd (Heap.lt_size gz) (by rw [<-e];exact Nat.lt_irrefl _)
      · exact absurd (Heap.lt_size gp) (by rw [<-e];exact Nat.lt_irrefl _)
      · exact absurd (Heap.lt_size gq) (by rw [<-e];exact Nat.lt_irrefl _)
      · obtain⟨oj,ej,_⟩:=gj
        exact absurd (Heap.lt_size ej) (by rw [<-e];exact Nat.lt_irrefl _)
      · obtain⟨ok,ek,_⟩:=gk
        exact absurd (Heap.lt_size ek) (by rw [<-e];exact Nat.lt_irrefl _)
    refine t6 D gz gp gq gj gk (show s.heap.IsTuple a is.toArray from pa) (show s.heap.IsTuple b js.toArray from pb) (x:=xv) (y:=yv) (by simpa using hxv) (by simpa using hyv) fun g a1 a2 a3 a4 a5 a6 hk=>?_
    refine⟨.ref s.heap.objs.size,rfl,wpAny_letOwnedTupleGo_zip a1 fun g' gz' sb=>?_⟩
    have fr:=I.aA.fresh (a:=s.heap.objs.size) (Nat.le_refl _)
    have I1:Inv X pins σ (upd H s.heap.objs.size (.tup [x,y])) { s with heap:=s.heap.push { cls:=.type "tuple",data:=.seq #[xv,yv] },toks:=s.toks } :=
      I.laid (fun _ _ e=>Heap.get?_push_of_some _ e) (Nat.le_refl _) ⟨by show 2<=sizeLine;decide,[xv,yv],.cons rx (.cons ry .nil),by first | exact IsTup.new _ _ | exact⟨_,Heap.get?_push_size _ rfl,rfl,_,rfl,rfl⟩⟩
    have f1:∀ c ∈ [z,p,q,j,k],dW X pins (upd H s.heap.objs.size (.tup [x,y])) c:=fun c hc=>by
      obtain⟨f0,fr'⟩:=hf c hc
      exact⟨by rw [ae (sz c hc)];exact f0,fr'⟩
    have I2:Inv X pins σ (upd H s.heap.objs.size (.tup [x,y])) { s with heap:=g',toks:=s.toks }:=Inv.ic (s:={ s with heap:=s.heap.push { cls:=.type "tuple",data:=.seq #[xv,yv] },toks:=s.toks }) (fp:=[z,p,q,j,k]) (h':=g') (t':=s.toks) I1 (fun c o hc e=>by
      simp only [List.mem_cons,List.not_mem_nil,or_false,not_or] at hc
      refine sb.extBut _ _ hc.1 ?_
      rcases Heap.get?_push_cases e with ⟨rfl,rfl⟩ | e
      · exact a5
      · exact hk c o hc.1 hc.2.2.1 hc.2.2.2.1 hc.2.2.2.2 e) f1
    refine⟨.ref s.heap.objs.size,_,I2,rfl,⟨_,x,y,rfl,fr,rfl,fun xs' ys' h1 h2=>?_⟩,⟨gz',sb.extBut _ _ D.pz (hk _ _ D.pz D.pq D.pj D.pk gp),⟨xv,yv,sb.extBut _ _ D.qz a2⟩,a3.extBut sb.extBut D.jz,a4.extBut sb.extBut D.kz⟩,fun c hc=>(f1 c hc).1⟩
    rw [I.fK h1 ha,I.fK h2 hb]
    exact⟨hx,hy⟩
  done:=by
    intro X hP hw hK hc i pins s σ H E I hf st hg
    subst hP hw hK
    obtain⟨gz,gp,⟨u,v,gq⟩,gj,gk⟩:=st
    obtain⟨xs,ys,ha,hb,hl⟩:=hg
    obtain⟨is,ra,pa,_⟩:=I.tuple ha
    obtain⟨js,rb,pb,_⟩:=I.tuple hb
    have la:=ra.length
    have lb:=rb.length
    have he:is.toArray[i]? = none\/js.toArray[i]? = none:=by
      rcases hl with h | h
      · exact .inl (by simp;omega)
      · exact .inr (by simp;omega)
    exact t9 (I.ok.hd hc) D gz gp gq gj gk (show s.heap.IsTuple a is.toArray from pa) (show s.heap.IsTuple b js.toArray from pb) he fun g hk=>⟨rfl,I.ic (fp:=[z,p,q,j,k]) (t':=s.toks) (fun c o hc e=>by
      simp only [List.mem_cons,List.not_mem_nil,or_false,not_or] at hc
      exact hk c o hc.1 hc.2.2.1 hc.2.2.2.1 hc.2.2.2.2 e) hf⟩
  self:=fun _ _ _ _ _ st h=>wpAny_pyIter_zip st.1 h
theorem xW {N a b:Nat} (ha:a < N) (hb:b < N):oC (N+4:Nat) (N+2:Nat) (N+3:Nat) N (N+1:Nat) a b :=
 have ne:∀ {u v:Nat},u < v->¬ (u=v):=fun h e=>by omega
 have ne':∀ {u v:Nat},v < u->¬ (u=v):=fun h e=>by omega
 ⟨ne (by omega),ne (by omega),ne (by omega),ne (by omega),ne (by omega),ne' (by omega),ne' (by omega),ne' (by omega),ne' (by omega),ne (by omega),ne (by omega),ne (by omega),ne (by omega),ne (by omega),ne (by omega),ne (by omega),ne (by omega),ne (by omega)⟩
theorem vB:bootBuiltins "zip" = some (.type "zip"):=by decide +kernel
def xA (K:PySem.W.Frag) (ta:TA):TI:=fun σ H R=>ta σ H fun vs H1=>∃ a b,vs = [.ref a,.ref b]/\(∃ xs,ar K H1 a xs)/\(∃ ys,ar K H1 b ys)/\R (tD K a b) H1
theorem vC {a b:Expr} {ta:TA} {p pos tp:Pos} {elts:List Expr} {kk:Nat} (hg:Gl X "zip") (hm:X.mg "zip" = none) (ha:PA X [a,b] ta) (hs:starEach [a,b] X.env = [(false,eval a X.env),(false,eval b X.env)]:=by rfl) (hs2:starEach [b] X.env = [(false,eval b X.env)]:=by rfl) :
  PI X (.Tuple elts kk tp) (.Call (.Name "zip" p) [a,b] [] pos) (xA X.K ta):=by
 intro pins s σ H R I h
 refine Call_ (hU I hg hm vB (PyProof.Rows.callWith_type1 (aH (ha pos pins s σ H _ I h) fun us s1 ⟨vs,H1,I1,r1,q1⟩=>?_) (by rw [hs,hs2]) (by rw [hs2];rfl)))
 obtain⟨x,y,e,⟨xs,hx⟩,⟨ys,hy⟩,q⟩:=q1
 subst e
 cases r1 with
 | cons r rr =>
  cases rr with
  | cons r' rr =>
   cases rr
   cases r
   cases r'
   obtain⟨is,rx,px,_⟩:=I1.tuple hx
   obtain⟨js,ry,py,_⟩:=I1.tuple hy
   have lx:x < s1.heap.objs.size:=px.lt
   have ly:y < s1.heap.objs.size:=py.lt
   refine ua (show s1.heap.IsTuple x is.toArray from px) (show s1.heap.IsTuple y js.toArray from py) fun g gz gp gq gj gk up=>?_
   refine wpAny_pyIter_zip gz ?_
   have I2:Inv X pins σ H1 { s1 with heap:=g }:=I1.kept (t':=s1.toks) up
   refine⟨_,[s1.heap.objs.size+4,s1.heap.objs.size+2,s1.heap.objs.size+3,s1.heap.objs.size,s1.heap.objs.size+1],_,tD X.K x y,H1,rfl,I2,rT x y _ _ _ _ _ ?_,⟨gz,gp,⟨_,_,gq⟩,gj,gk⟩,fun c hc=>?_,q⟩
   ·exact xW lx ly
   ·have le:s1.heap.objs.size<=c:=by
     simp only [List.mem_cons,List.not_mem_nil,or_false] at hc
     rcases hc with rfl | rfl | rfl | rfl | rfl
     ·exact Nat.le_add_right _ _
     ·exact Nat.le_add_right _ _
     ·exact Nat.le_add_right _ _
     ·exact Nat.le_refl _
     ·exact Nat.le_add_right _ _
    exact I1.gx le (I1.aA.fresh le)
theorem vD {K:PySem.W.Frag} {a b acc:Addr} {xs ys:List V} {n:Nat} {js:List Nat} {g:TG} {ct:TT} {te:TE} {σ : St} {H1:Hp} {Q:VK} (Pv:Nat->List V->St->Hp->Prop) (h0:Pv 0 [] (dZ n js σ) (upd H1 acc (.lst [])))
  (hl:∀ i zs τ H,i<=min xs.length ys.length->Pv i zs τ H->ar K H a xs/\ar K H b ys/\H acc=some (.lst zs)/\zs.length < sizeLine)
  (hs:∀ i x y zs τ H t,xs[i]? = some x->ys[i]? = some y->H t=none->Pv i zs τ H->g (.ref t) τ (upd H t (.tup [x,y])) fun τ1 H4=>ct τ1 H4 fun b H5=>if b=true then te τ1 H5 fun v H6=>H6 acc=some (.lst zs)/\Pv (i+1) (zs ++ [v]) τ1 (upd H6 acc (.lst (zs ++ [v]))) else Pv (i+1) zs τ1 H5)
  (hd:∀ zs τ H,Pv (min xs.length ys.length) zs τ H->Q (.ref acc) H) :
  oz (tD K a b) n js g ct te acc σ H1 Q:=by
 refine⟨fun i m zs τ H=>m=min xs.length ys.length - i/\i<=min xs.length ys.length/\Pv i zs τ H,⟨min xs.length ys.length,by simp,Nat.zero_le _,h0⟩,?_⟩
 rintro i m zs τ H ⟨rfl,hi,p⟩
 obtain⟨qa,qb,q2,q3⟩:=hl i zs τ H hi p
 refine⟨q2,q3,?_⟩
 by_cases hlt:i < min xs.length ys.length
 ·have l1:i < xs.length:=by omega
  have l2:i < ys.length:=by omega
  refine .inr ⟨⟨xs,ys,xs[i],ys[i],qa,qb,by simp [l1],by simp [l2]⟩,Pv (i+1),fun zs' τ' H' p'=>⟨min xs.length ys.length - (i+1),by omega,rfl,hlt,p'⟩,fun v H' y=>?_⟩
  obtain⟨t,x,y,rfl,ht,rfl,h⟩:=y
  obtain⟨h1,h2⟩:=h xs ys qa qb
  exact hs i x y zs τ H t h1 h2 ht p
 ·have e:i=min xs.length ys.length:=by omega
  subst e
  refine .inl ⟨⟨xs,ys,qa,qb,?_⟩,hd zs τ H p⟩
  rcases Nat.le_total xs.length ys.length with h | h
  ·exact .inl (by omega)
  ·exact .inr (by omega)
end
structure vE (K:PySem.W.Frag) (mg:Str->Option Value) (nm:Str) (a:Addr) (D:List (Str × Addr)):Prop where
 xX:mg nm=some (.ref a)
 lk:∃ es ep,K.lookup a=some ⟨.type "dict",none,.dict es ep,#[]⟩/\KTD.Rows (fun d v=>v=Value.ref d) es.toList D
section
variable {prog:Program} {w:World} {A:Around} {E:Value->Shared->Prop} {s:Shared}
theorem rV {a d:Addr} {o:Obj} {es:Array DictEntry} {ep:Nat} {k:Str} {t:Tok} {D:List (Str × Addr)} {Q:Option Value->Shared->Prop} (ho:s.heap.get? a=some o) (hd:o.data=.dict es ep)
  (hr:KTD.Rows (fun d v=>v=Value.ref d) es.toList D) (ha:KTD.datumAt k D=some d) (q:Q (some (.ref d)) { s with toks:=s.toks+1 }):wpAny (model prog w) A (dictGet a (.str k t)) Q E s:=by
 unfold dictGet
 try with_reducible refine wpAny_holding ?_
 refine wpAny_bind (wpAny_pyHash_str (wpAny_bind (KTD.kt_dictFind_strs (s:={ s with toks:=s.toks+1 }) ho hd (by have:=hr.exact;obtain⟨l⟩:=es;simpa using this) ?_)))
 have hq:Q (findBy (fun k v=>v.isStr k) es k) { s with toks:=s.toks+1 }:=by
  obtain⟨v,hv,rfl⟩:=hr.find_some ha
  have e:findBy (fun k v=>v.isStr k) es k=some (.ref d):=by
   rw [<-hv]
   obtain⟨l⟩:=es
   simp [findBy]
  rw [e]
  exact q
 rw [findBy_of_findIdx?] at hq
 cases hi:es.findIdx? fun e=>e.key.isStr k with
 | some i=>rw [hi] at hq;exact wpAny_bind (wpAny_dictEntries (s:={ s with toks:=s.toks+1 }) ho hd (wpAny_pure hq))
 | none=>rw [hi] at hq;exact wpAny_pure hq
theorem rW {a d:Addr} {o:Obj} {es:Array DictEntry} {ep:Nat} {k:Str} {t:Tok} {D:List (Str × Addr)} {Q:Value->Shared->Prop} (ty:s.TypeIs (.ref a) "dict") (ho:s.heap.get? a=some o) (hd:o.data=.dict es ep)
  (hr:KTD.Rows (fun d v=>v=Value.ref d) es.toList D) (ha:KTD.datumAt k D=some d) (q:Q (.ref d) { s with toks:=s.toks+1 }):wpAny (model prog w) A (getItem (.ref a) (.str k t)) Q E s:=by
 unfold getItem
 try with_reducible refine wpAny_holding ?_
 refine wpAny_bind (wpAny_sequenceKey ty (by decide) (wpAny_bind (wpAny_callSpecial?_slot (name:=Str.ofString "__getitem__") ty slot_dict_getitem (wpAny_call_entry slot_dict_getitem ty entry_dict_getitem ?_ (args_dict_getitem _ _)))))
 show wpAny _ _ (dictGet a (.str k t) >>= fun _=>_) _ _ s
 exact wpAny_bind (rV ho hd hr ha (wpAny_pure ⟨_,rfl,wpAny_pure q⟩))
end
section
variable {X:Cx}
theorem ub {nm:Str} {a:Addr} {D:List (Str × Addr)} {i:Expr} {p pos:Pos} {ty:TE} (G:vE X.K X.mg nm a D) (hg:Gl X nm) (hi:PE X i ty) (hs:vo i) (hdb:(nm == ("__debug__" : Str))=false:=by decide) :
  PE X (.Subscript (.Name nm p) i pos) (fun σ H Q=>ty σ H fun y H1=>∃ x d,y=.str x/\KTD.datumAt x D=some d/\Q (.ref d) H1):=by
 intro pins s σ H Q I h
 obtain⟨es,ep,hk,hr⟩:=G.lk
 refine tT PySem.F.slot_dict_getitem.lookup hs (aH (tJ (v:=.ref a) hg G.xX rfl hdb pins s σ H (fun x H1=>x=.ref a/\ty σ H1 fun y H1=>∃ x d,y=.str x/\KTD.datumAt x D=some d/\Q (.ref d) H1) I ⟨rfl,h⟩) fun u s1 ⟨x,H1,I1,rx,ex,q1⟩=>?_)
 subst ex
 obtain rfl:u=Value.ref a:=rx
 refine aH (hi pins s1 σ H1 _ I1 q1) fun iv s2 ⟨y,H2,I2,ry,k,d,ey,hd,q2⟩=>?_
 subst ey
 obtain⟨t,rfl⟩:=(show ∃ t,iv=Value.str k t from ry)
 have ho:=I2.md a _ hk
 exact⟨⟨_,ho,rfl⟩,rW ⟨_,ho,rfl⟩ ho rfl hr hd ⟨.ref d,H2,I2.tok _,rfl,q2⟩⟩
end
def pick (w:Str) (xs:List V) (ks:List Str):List V:=((xs.zip ks).filter fun p=>decide (p.2=w)).map (·.1)
def gS (w:Str) (xs:List V) (ks:List Str) (i:Nat):List V:=(((xs.zip ks).take i).filter fun p=>decide (p.2=w)).map (·.1)
theorem pF {w:Str} {xs:List V} {ks:List Str} {i:Nat} {x:V} {k:Str} (hx:xs[i]? = some x) (hk:ks[i]? = some k):gS w xs ks (i+1)=gS w xs ks i++(if k=w then [x] else []):=by
 have hz:(xs.zip ks)[i]? = some (x,k):=by rw [List.getElem?_zip_eq_some];exact⟨hx,hk⟩
 unfold gS
 rw [List.take_add_one,hz,List.filter_append,List.map_append]
 congr 1
 by_cases h:k=w
 ·rw [if_pos h];simp [h]
 ·rw [if_neg h];simp [h]
theorem qu {w:Str} {xs:List V} {ks:List Str}:gS w xs ks (min xs.length (ks.map V.str).length)=pick w xs ks:=by
 unfold gS pick
 rw [List.length_map,List.take_of_length_le (by rw [List.length_zip];exact Nat.le_refl _)]
theorem qv {w:Str} {xs:List V} {ks:List Str} {i:Nat}:(gS w xs ks i).length<=i:=by
 unfold gS
 rw [List.length_map]
 exact Nat.le_trans (List.length_filter_le ..) (by rw [List.length_take];exact Nat.min_le_left ..)
theorem ar.same {K:PySem.W.Frag} {H H':Hp} {a:Addr} {xs:List V} (h:ar K H a xs) (s:af H H'):ar K H' a xs:=by
 rcases h with h | h
 ·rcases h with h | h
  ·exact .inl (.inl (s _ _ h))
  ·obtain⟨b,hb⟩:=h
   exact .inl (.inr ⟨b,s _ _ hb⟩)
 ·exact .inr h
def kY (K:PySem.W.Frag):Sp:=fun vs H Q _=>∃ (t s:Addr) (v0:V) (xs:List V) (ks:List Str) (w:Str),vs = [.ref t,.ref s,.str w]/\H t=some (.tup (v0 :: xs))/\ar K H s (ks.map V.str)/\xs.length<=1000 /\
 ∀ l H',H' l=some (.lst (pick w xs ks))->af H H'->Q (.ref l) H'
def KTup (K:PySem.W.Frag) (a:Addr) (ks:List Str):Prop:=∃ (o:Obj) (its:Array Value) (n:Nat),K.lookup a=some o/\o.cls=.type "tuple" /\ o.data=.seq its n/\its.size<=sizeLine/\Vals (ks.map V.str) its.toList
structure pG (K:PySem.W.Frag) (mg:Str->Option Value) (aE s0 s1 s2 s3:Addr):Prop where
 tab:vE K mg "END_PARTS" aE [("stop",s0),("go",s1),("less",s2),("is",s3)]
 q0:KTup K s0 []
 q1:KTup K s1 ["piece"]
 q2:KTup K s2 ["name", "number", "piece", "piece"]
 q3:KTup K s3 ["name", "number", "piece", "piece"]
def aV:End->List Nat
 | .stop=>[]
 | .go p=>[p]
 | .eS _ _ _ p q=>[p,q]
def kE:End->List Str
 | .stop=>[]
 | .go _=>["piece"]
 | .eS ..=>["name", "number", "piece", "piece"]
def wE:End->Str
 | .stop => "stop"
 | .go _ => "go"
 | .eS b ..=>wT b
theorem qw (e:End):∃ xs,gJ e=.str (wE e) :: xs/\xs.length<=1000/\pick "piece" xs (kE e)=(aV e).map fun k=>V.int (k:Nat):=by
 cases e with
 | stop=>exact⟨[],rfl,by decide,rfl⟩
 | go p=>exact⟨_,rfl,by show 1<=1000;decide,by simp [pick,kE,aV]⟩
 | eS b x n p q =>
  refine⟨_,rfl,by show 4<=1000;decide,?_⟩
  have h1:¬ ("name" : Str) = "piece" := by decide +kernel
  have h2:¬ ("number" : Str) = "piece" := by decide +kernel
  simp [pick,kE,aV,h1,h2]
theorem pG.at_ {K:PySem.W.Frag} {mg:Str->Option Value} {aE s0 s1 s2 s3:Addr} (G:pG K mg aE s0 s1 s2 s3) (e:End):∃ s,KTD.datumAt (wE e) [(("stop" : Str),s0),("go",s1),("less",s2),("is",s3)] = some s/\KTup K s (kE e):=by
 have hit:∀ {k:Str} {d:Addr} {D:List (Str × Addr)},KTD.datumAt k ((k,d) :: D)=some d:=fun {k d D}=>by
  show (if decide (k=k)=true then some d else KTD.datumAt k D)=some d
  rw [if_pos (decide_eq_true rfl)]
 have miss:∀ {k x:Str} {d:Addr} {D:List (Str × Addr)} {o:Option Addr},¬ k=x->KTD.datumAt k D=o->KTD.datumAt k ((x,d) :: D)=o:=fun {k x d D o} h e=>by
  show (if decide (k=x)=true then some d else KTD.datumAt k D)=o
  rw [if_neg (by rw [decide_eq_false h];decide)]
  exact e
 cases e with
 | stop=>exact⟨s0,hit,G.q0⟩
 | go p=>exact⟨s1,miss (show ¬ (("go" : Str) = "stop") by decide +kernel) hit,G.q1⟩
 | eS b x n p q =>
  cases b with
  | true=>exact⟨s2,miss (show ¬ (("less" : Str) = "stop") by decide +kernel) (miss (show ¬ (("less" : Str) = "go") by decide +kernel) hit),G.q2⟩
  | false=>exact⟨s3,miss (show ¬ (("is" : Str) = "stop") by decide +kernel) (miss (show ¬ (("is" : Str) = "go") by decide +kernel) (miss (show ¬ (("is" : Str) = "less") by decide +kernel) hit)),G.q3⟩
def kB:Sp:=fun vs H Q _=>∃ (ea:Addr) (e:End),vs = [.ref ea]/\H ea=some (.tup (gJ e))/\∀ t H',H' t=some (.tup ((aV e).map fun k=>V.int (k:Nat)))->af H H'->Q (.ref t) H'
end L2
namespace LS
open PySem
def Up (xs:Array Nat):Prop:=∀ (i j:Nat) (a b:Nat),i < j->xs[i]? = some a->xs[j]? = some b->a < b
theorem rX {xs:Array Nat} {j:Nat} (up:Up xs):∀ (fuel lo hi:Nat),hi - lo<=fuel->lo<=hi->hi<=xs.size ->
  (∀ i a,i < lo->xs[i]? = some a->a < j)->(∀ i a,hi<=i->xs[i]? = some a->j<=a) ->
  (∀ i a,i < SetTable.below.go xs j fuel lo hi->xs[i]? = some a->a < j)/\(∀ i a,SetTable.below.go xs j fuel lo hi<=i->xs[i]? = some a->j<=a)/\SetTable.below.go xs j fuel lo hi<=xs.size:=by
 intro fuel
 induction fuel with
 | zero =>
  intro lo hi h1 h2 h3 h4 h5
  have e:lo=hi:=by omega
  subst e
  unfold SetTable.below.go
  exact⟨h4,h5,h3⟩
 | succ f ih =>
  intro lo hi h1 h2 h3 h4 h5
  unfold SetTable.below.go
  by_cases hl:lo < hi
  ·rw [if_pos hl]
   dsimp only
   have hm:(lo+hi) / 2 < hi:=by omega
   have hm2:lo<=(lo+hi) / 2:=by omega
   generalize (lo+hi) / 2=mid at hm hm2
   have hs:mid < xs.size:=by omega
   have hg:xs[mid]? = some xs[mid]:=by simp [hs]
   have hd:xs.getD mid j=xs[mid]:=by simp [Array.getD,hs]
   rw [hd]
   by_cases hc:xs[mid] < j
   ·rw [if_pos hc]
    refine ih (mid+1) hi (by omega) (by omega) h3 (fun i a hi' he=>?_) h5
    by_cases e:i=mid
    ·subst e;rw [hg] at he;cases he;exact hc
    ·have:=up i mid a _ (by omega) he hg;omega
   ·rw [if_neg hc]
    refine ih lo mid (by omega) hm2 (by omega) h4 (fun i a hi' he=>?_)
    by_cases e:i=mid
    ·subst e;rw [hg] at he;cases he;omega
    ·have:=up mid i _ a (by omega) hg he;omega
  ·rw [if_neg hl]
   have e:lo=hi:=by omega
   subst e
   exact⟨h4,h5,h3⟩
theorem rY {xs:Array Nat} {j:Nat} (up:Up xs) :
    (∀ i a,i < SetTable.below xs j->xs[i]? = some a->a < j)/\(∀ i a,SetTable.below xs j<=i->xs[i]? = some a->j<=a)/\SetTable.below xs j<=xs.size :=
  rX up xs.size 0 xs.size (by omega) (Nat.zero_le _) (Nat.le_refl _) (fun _ _ h=>absurd h (Nat.not_lt_zero _)) (fun i a h e=>by
    have:xs[i]? = none:=by simp;omega
    rw [this] at e;cases e)
theorem mQ {α : Type} {xs:Array α} {p:Nat} {x:α} (hp:p<=xs.size) (i:Nat) :
  (SetTable.insertAt xs p x)[i]? = if i < p then xs[i]? else if i=p then some x else xs[i - 1]?:=by
 unfold SetTable.insertAt
 have h1:(xs.extract 0 p).size=p:=by simp;omega
 rw [Array.getElem?_append]
 have h2:((xs.extract 0 p).push x).size=p+1:=by simp;omega
 rw [h2]
 by_cases a:i < p
 ·rw [if_pos (by omega),if_pos a,Array.getElem?_push,h1,if_neg (by omega)]
  rw [Array.getElem?_extract]
  simp;omega
 ·rw [if_neg a]
  by_cases b:i=p
  ·subst b
   rw [if_pos (by omega),if_pos rfl,Array.getElem?_push,h1,if_pos rfl]
  ·rw [if_neg (by omega),if_neg b]
   rw [Array.getElem?_extract]
   have:p+(i - (p+1))=i - 1:=by omega
   rw [this]
   by_cases c:i - 1 < xs.size
   ·simp;omega
   ·have:xs[i - 1]? = none:=by simp;omega
    rw [this];simp
theorem Up.insert {xs:Array Nat} {j:Nat} (up:Up xs) (hn:xs[SetTable.below xs j]? ≠ some j):Up (SetTable.insertAt xs (SetTable.below xs j) j):=by
 obtain⟨h1,h2,h3⟩:=rY (j:=j) up
 generalize SetTable.below xs j=p at h1 h2 h3 hn
 have h2':∀ i a,p<=i->xs[i]? = some a->j < a:=fun i a hi e=>by
  have q:=h2 i a hi e
  by_cases z:i=p
  ·subst z
   rcases Nat.lt_or_ge j a with c | c
   ·exact c
   ·have:a=j:=by omega
    subst this;exact absurd e hn
  ·have hps:p < xs.size:=by
    have:i < xs.size:=by
     rcases Nat.lt_or_ge i xs.size with c | c
     ·exact c
     ·have:xs[i]? = none:=by simp;omega
      rw [this] at e;cases e
    omega
   have e1:xs[p]? = some xs[p]:=by simp [hps]
   have q1:=h2 p _ (Nat.le_refl _) e1
   have q2:=up p i _ _ (by omega) e1 e
   omega
 intro a b x y hab ha hb
 rw [mQ h3] at ha hb
 by_cases c1:a < p
 ·rw [if_pos c1] at ha
  by_cases d1:b < p
  ·rw [if_pos d1] at hb;exact up a b _ _ hab ha hb
  ·rw [if_neg d1] at hb
   by_cases d2:b=p
   ·rw [if_pos d2] at hb;cases hb;exact h1 a _ c1 ha
   ·rw [if_neg d2] at hb
    exact Nat.lt_trans (h1 a _ c1 ha) (h2' (b - 1) _ (by omega) hb)
 ·rw [if_neg c1] at ha
  by_cases c2:a=p
  ·rw [if_pos c2] at ha;cases ha
   rw [if_neg (by omega),if_neg (by omega)] at hb
   exact h2' (b - 1) _ (by omega) hb
  ·rw [if_neg c2] at ha
   rw [if_neg (by omega),if_neg (by omega)] at hb
   exact up (a - 1) (b - 1) _ _ (by omega) ha hb
def Rp (t:SetTable):Prop:=t.plain=true->Up t.place
theorem rZ {t:SetTable} {f:Nat->Int} {h:Int}:∀ (fuel:Nat) (p:SetTable.Probe) (j:Nat) (d:Option Nat),(∀ x,p.dummy=some x->t.place[SetTable.below t.place x]? ≠ some x) ->
  SetTable.probe.go t f h fuel p=some (.empty j d)->t.place[SetTable.below t.place (d.getD j)]? ≠ some (d.getD j):=by
 intro fuel
 induction fuel with
 | zero=>intro p j d _ e;unfold SetTable.probe.go at e;cases e
 | succ n ih =>
  intro p j d hd e
  unfold SetTable.probe.go at e
  have adv:∀ q:SetTable.Probe,(t.advance q).dummy=q.dummy:=fun q=>by unfold SetTable.advance;split <;> rfl
  cases hs:t.slot p.j with
  | empty =>
   rw [hs] at e
   dsimp only at e
   injection e with e
   injection e with e1 e2
   subst e1;subst e2
   unfold SetTable.slot at hs
   dsimp only at hs
   split at hs
   ·cases hs
   ·rename_i hne
    cases hdm:p.dummy with
    | none=>intro z;exact hne (by rw [show (none:Option Nat).getD p.j=p.j from rfl] at z;simpa using z)
    | some x=>exact hd x hdm
  | dummy =>
   rw [hs] at e
   dsimp only at e
   refine ih _ j d (fun x hx=>?_) e
   rw [adv] at hx
   injection hx with hx
   subst hx
   unfold SetTable.slot at hs
   dsimp only at hs
   split at hs
   ·cases hs
   ·rename_i hne
    intro z;exact hne (by simpa using z)
  | live i =>
   rw [hs] at e
   dsimp only at e
   split at e
   ·cases e
   ·exact ih _ j d (fun x hx=>hd x (by rw [adv] at hx;exact hx)) e
theorem mR {t:SetTable} {h:Int} {j:Nat} {b:Bool} (e:t.freeSlot h=some (j,b)):t.place[SetTable.below t.place j]? ≠ some j:=by
 unfold SetTable.freeSlot at e
 split at e
 ·rename_i j' d hp
  injection e with e
  injection e with e1 e2
  subst e1
  unfold SetTable.probe at hp
  exact rZ _ _ _ _ (fun x hx=>by cases hx) hp
 ·cases e
theorem Rp.standIn (t:SetTable) (n:Nat):Rp (t.standIn n):=fun h=>by cases h
theorem Rp.layNew {t:SetTable} (r:Rp t) (es:Array (Int × Value)) (h:Int) (x:Value):Rp (layNew t es h x).2.1/\(layNew t es h x).2.1.led=t.led:=by
 unfold PySem.layNew
 split
 ·rename_i j b e
  dsimp only
  unfold SetTable.orStandIn
  split
  ·refine⟨fun hp=>?_,rfl⟩
   exact (r hp).insert (mR e)
  ·exact⟨Rp.standIn _ _,rfl⟩
 ·exact⟨Rp.standIn _ _,rfl⟩
theorem sd (n:Nat) (f:Nat->Option Nat):Up (((List.range n).filterMap fun j=>(f j).map fun k=>(j,k)).map (·.1)).toArray:=by
 have hs:List.Pairwise (· < ·) (((List.range n).filterMap fun j=>(f j).map fun k=>(j,k)).map (·.1)):=by
  have hl:List.Sublist (((List.range n).filterMap fun j=>(f j).map fun k=>(j,k)).map (·.1)) (List.range n):=by
   generalize List.range n=l
   induction l with
   | nil=>exact List.Sublist.refl _
   | cons a l ih =>
    rw [List.filterMap_cons]
    cases e:f a with
    | none=>exact ih.cons a
    | some k=>exact ih.cons₂ a
  exact List.Pairwise.sublist hl List.pairwise_lt_range
 intro i j a b hij ha hb
 rw [List.getElem?_toArray] at ha hb
 have hi:i < _:=(List.getElem?_eq_some_iff.mp ha).1
 have hj:j < _:=(List.getElem?_eq_some_iff.mp hb).1
 have:=List.pairwise_iff_getElem.mp hs i j hi hj hij
 rw [(List.getElem?_eq_some_iff.mp ha).2,(List.getElem?_eq_some_iff.mp hb).2] at this
 exact this
theorem Rp.relayAll (t:SetTable) (es:Array (Int × Value)) (n:Nat):Rp (relayAll t es n).2.1/\(relayAll t es n).2.1.led=t.led:=by
 unfold PySem.relayAll
 split
 ·rename_i t' order e
  dsimp only
  split
  ·unfold SetTable.relaid SetTable.laid at e
   simp only [bind,Option.bind] at e
   split at e
   ·cases e
   ·rename_i owner _
    injection e with e
    injection e with e1 _
    subst e1
    exact⟨fun _=>sd _ _,rfl⟩
  ·exact⟨Rp.standIn _ _,rfl⟩
 ·exact⟨Rp.standIn _ _,rfl⟩
theorem Up.du {xs:Array Nat} (h:xs.size<=1):Up xs:=fun i j a b hij ha hb=>by
 have:=(Array.getElem?_eq_some_iff.mp hb).1;omega
open PySem.Spec PyProof.Rows
section
variable {prog:Program} {w:World} {K:Type} [DecidableEq K] {knd:KeyKind prog w K}
variable {A:Around} {E:Value->Shared->Prop} {s:Shared}
def Ent (knd:KeyKind prog w K) (e:Int × Value) (k:K):Prop:=knd.is k e.2=true/\e.1=knd.hash k/\e.2.scannable=true
structure e5 (knd:KeyKind prog w K) (h:Heap) (a:Addr) (ks:List K) (o:Obj) (es:Array (Int × Value)) (ep:Nat) (t:SetTable):Prop where
 at_:h.get? a=some o
 ex:o.ExactSet
 data:o.data=.set es ep t
 ents:∃ ls:List K,ls.Perm ks/\Paired (Ent knd) es.toList ls
 nd:ks.Nodup
 du:es.size < scanBound
 fits:t.fits es.size=true
 led:t.led = !(w.params.followText "set-order")
 up:Rp t
def cC (knd:KeyKind prog w K) (h:Heap) (a:Addr) (ks:List K):Prop:=∃ o es ep t,e5 knd h a ks o es ep t
theorem jG {α β : Type} {F:α->β->Prop}:∀ {l l':List α},l.Perm l'->∀ {m':List β},Paired F l' m'->∃ m,m.Perm m'/\Paired F l m:=by
 intro l l' p
 induction p with
 | nil=>intro m' h;exact⟨m',.refl _,h⟩
 | cons x p ih =>
  intro m' h
  cases h with
  | cons r t=>obtain⟨m,q,e⟩:=ih t;exact⟨_,q.cons _,.cons r e⟩
 | swap x y l =>
  intro m' h
  cases h with
  | cons r t=>cases t with
   | cons r' t'=>exact⟨_,.swap _ _ _,.cons r' (.cons r t')⟩
 | trans p q ih1 ih2 =>
  intro m' h
  obtain⟨m1,a1,b1⟩:=ih2 h
  obtain⟨m2,a2,b2⟩:=ih1 b1
  exact⟨m2,a2.trans a1,b2⟩
theorem fZ {α β : Type} {F:α->β->Prop}:∀ {l:List α} {m:List β},Paired F l m->(∀ x ∈ l,∃ y ∈ m,F x y)/\(∀ y ∈ m,∃ x ∈ l,F x y)
 | _,_,.nil=>⟨(fun _ h=>nomatch h),(fun _ h=>nomatch h)⟩
 | _,_,.cons r t=>by
  obtain⟨h1,h2⟩:=fZ t
  refine⟨fun x hx=>?_,fun y hy=>?_⟩
  ·rcases List.mem_cons.mp hx with rfl | hx
   ·exact⟨_,List.mem_cons_self ..,r⟩
   ·obtain⟨y,hy,f⟩:=h1 x hx;exact⟨y,List.mem_cons_of_mem _ hy,f⟩
  ·rcases List.mem_cons.mp hy with rfl | hy
   ·exact⟨_,List.mem_cons_self ..,r⟩
   ·obtain⟨x,hx,f⟩:=h2 y hy;exact⟨x,List.mem_cons_of_mem _ hx,f⟩
theorem jH {α β : Type} {F:α->β->Prop} {x:α} {y:β} (f:F x y):∀ {l:List α} {m:List β},Paired F l m->Paired F (l ++ [x]) (m ++ [y])
 | _,_,.nil=>.cons f .nil
 | _,_,.cons r t=>.cons r (jH f t)
variable {a:Addr} {ks:List K} {o:Obj} {es:Array (Int × Value)} {ep:Nat} {t:SetTable} {h h':Heap}
theorem e5.elems (S:e5 knd h a ks o es ep t):ElemsOf knd es.toList:=fun e he=>by
 obtain⟨ls,_,p⟩:=S.ents
 obtain⟨k,_,f⟩:=(fZ p).1 e he
 exact⟨⟨k,f.1,f.2.1⟩,f.2.2⟩
theorem e5.len (S:e5 knd h a ks o es ep t):es.size=ks.length:=by
 obtain⟨ls,q,p⟩:=S.ents
 rw [<-Array.length_toList,p.length,q.length_eq]
theorem e5.mem (S:e5 knd h a ks o es ep t) (k:K):k ∈ ks ↔ ∃ e ∈ es.toList,knd.is k e.2=true:=by
 obtain⟨ls,q,p⟩:=S.ents
 rw [<-q.mem_iff]
 constructor
 ·intro hk
  obtain⟨e,he,f⟩:=(fZ p).2 k hk
  exact⟨e,he,f.1⟩
 ·rintro⟨e,he,f⟩
  obtain⟨k',hk',f'⟩:=(fZ p).1 e he
  rw [knd.inj e.2 k k' f f'.1];exact hk'
theorem e5.setOf (S:e5 knd h a ks o es ep t):h.SetOf knd a (fun k=>decide (k ∈ ks)) ks.length :=
 ⟨o,es,ep,t,S.at_,S.ex,S.data,S.elems,fun k=>by rw [decide_eq_true_eq];exact S.mem k,S.du,S.fits,S.len⟩
theorem e5.keep (S:e5 knd h a ks o es ep t) (k:∀ o,h.get? a=some o->h'.get? a=some o):e5 knd h' a ks o es ep t:={ S with at_:=k _ S.at_ }
theorem cC.keep (S:cC knd h a ks) (k:∀ o,h.get? a=some o->h'.get? a=some o):cC knd h' a ks:=let ⟨o,es,ep,t,S⟩:=S;⟨o,es,ep,t,S.keep k⟩
theorem cC.setOf (S:cC knd h a ks):h.SetOf knd a (fun k=>decide (k ∈ ks)) ks.length:=let ⟨_,_,_,_,S⟩:=S;S.setOf
theorem mS {o:Obj} {es es':Array (Int × Value)} {ep:Nat} {t t':SetTable} (hd:o.data=.set es ep t):Obj.putSet es' t' o = { o with data:=.set es' (ep+1) t' }:=putSet_of es' t' hd
theorem e5.store {es':Array (Int × Value)} {t':SetTable} {ks':List K} (S:e5 knd h a ks o es ep t) (he:∃ ls:List K,ls.Perm ks'/\Paired (Ent knd) es'.toList ls) (nd:ks'.Nodup) (du:es'.size < scanBound)
  (fits:t'.fits es'.size=true) (led:t'.led=t.led) (up:Rp t'):e5 knd (h.update a (Obj.putSet es' t')) a ks' { o with data:=.set es' (ep+1) t' } es' (ep+1) t' where
 at_:=by
  have q:=Heap.get?_update_self (Obj.putSet es' t') S.at_ (by rw [mS S.data];rfl)
  rw [mS S.data] at q
  exact q
 ex:=S.ex
 data:=rfl
 ents:=he
 nd:=nd
 du:=du
 fits:=fits
 led:=led.trans S.led
 up:=up
theorem jR {g:Bool->Sem Unit} (hg:∀ (b:Bool) (s₁ : Shared) (Q':Unit->Shared->Prop),Q' () s₁->wpAny (model prog w) A (g b) Q' E s₁) {es1:Array (Int × Value)} {t2:SetTable} {ks':List K}
  (S:e5 knd s.heap a ks o es ep t) (he:∃ ls:List K,ls.Perm ks'/\Paired (Ent knd) es1.toList ls) (nd:ks'.Nodup) (du:es1.size < scanBound) (fits:t2.fits es1.size=true) (led:t2.led=t.led) (up:Rp t2) {wd:Bool}
  {R:Option Bool->Shared->Prop} (q:∀ h',Heap.SameBut a s.heap h'->cC knd h' a ks'->R (some true) { s with heap:=h' }) :
  wpAny (model prog w) A (storeSet a es1 t2 >>= fun _=>if (!wd && t2.tooFull)=true then g (relayAll t2 es1 (SetTable.grown es1.size)).2.2 >>= fun _ =>
   storeSet a (relayAll t2 es1 (SetTable.grown es1.size)).1 (relayAll t2 es1 (SetTable.grown es1.size)).2.1 >>= fun _=>pure (some true) else pure (some true)) R E s:=by
 refine wpAny_bind (wpAny_storeSet_of S.at_ S.data ?_ (fits_of_scanBound du))
 have S1:=S.store he nd du fits led up
 have b1:=Heap.SameBut.update s.heap a (Obj.putSet es1 t2)
 by_cases hc:(!wd && t2.tooFull)=true
 ·rw [if_pos hc]
  have p1:=relayAll_perm t2 es1 (SetTable.grown es1.size)
  have p2:=relayAll_fits t2 es1 (SetTable.grown es1.size)
  have p3:=Rp.relayAll t2 es1 (SetTable.grown es1.size)
  generalize relayAll t2 es1 (SetTable.grown es1.size)=R3 at p1 p2 p3
  obtain⟨es3,t3,gv⟩:=R3
  obtain⟨ls,l1,l2⟩:=he
  obtain⟨ls3,l3,l4⟩:=jG p1 l2
  have z:es3.size=es1.size:=by rw [<-Array.length_toList,p1.length_eq,Array.length_toList]
  have few3:es3.size < scanBound:=by rw [z];exact du
  refine wpAny_bind (hg _ _ _ ?_)
  refine wpAny_bind (wpAny_storeSet_of S1.at_ S1.data ?_ (fits_of_scanBound few3))
  exact wpAny_pure (q _ (b1.trans (Heap.SameBut.update _ a _)) ⟨_,_,_,_,S1.store ⟨ls3,l3.trans l1,l4⟩ nd few3 p2 p3.2 p3.1⟩)
 ·rw [if_neg hc]
  exact wpAny_pure (q _ b1 ⟨_,_,_,_,S1⟩)
theorem pH {k:K} {x:Value} {Q:Bool->Shared->Prop} (hk:knd.is k x=true) (hsc:x.scannable=true) (S:cC knd s.heap a ks) (room:ks.length+1 < scanBound)
  (q:∀ h',Heap.SameBut a s.heap h'->cC knd h' a (if k ∈ ks then ks else ks ++ [k])->Q (!decide (k ∈ ks)) { s with heap:=h' }) :
  wpAny (model prog w) A (setAddHashed a x (knd.hash k)) Q E s:=by
 obtain⟨o,es,ep,t,S⟩:=S
 have few1:es.size+1 < scanBound:=by rw [S.len];exact room
 unfold setAddHashed setAddHashedIn
 refine wpAny_holding (wpAny_bind (wpAny_setState_of S.at_ S.data S.fits ?_))
 dsimp only
 rw [byScan_of hsc S.du S.elems]
 simp only [↓reduceIte]
 unfold setAddByScan
 refine wpAny_bind (wpAny_bind (wpAny_rule ?_))
 refine wpAny_bind (wpAny_setScan_of hk S.at_ S.data S.fits S.elems ?_)
 cases hr:List.findIdx? (fun e=>knd.is k e.2) es.toList with
 | some j =>
  obtain⟨hj,hpj,_⟩:=List.findIdx?_eq_some_iff_getElem.mp hr
  have hin:k ∈ ks:=(S.mem k).mpr ⟨es.toList[j],List.getElem_mem hj,hpj⟩
  refine wpAny_pure (wpAny_pure ?_)
  have:=q s.heap (Heap.SameBut.refl a s.heap) (by rw [if_pos hin];exact⟨o,es,ep,t,S⟩)
  rw [decide_eq_true hin] at this
  exact this
 | none =>
  have hin:¬ k ∈ ks:=fun z=>by
   obtain⟨e,he,hp⟩:=(S.mem k).mp z
   have:=List.findIdx?_eq_none_iff.mp hr e he
   rw [hp] at this;exact Bool.noConfusion this
  rw [if_neg hin,decide_eq_false hin] at q
  have p1:=layNew_perm t es (knd.hash k) x
  have p2:=layNew_fits t es (knd.hash k) x
  have p3:=S.up.layNew es (knd.hash k) x
  dsimp only
  generalize layNew t es (knd.hash k) x=L at p1 p2 p3 ⊢
  obtain⟨es1,t1,wd,gv⟩:=L
  dsimp only at p1 p2 p3 ⊢
  rw [Array.toList_push] at p1
  have hE:∃ ls:List K,ls.Perm (ks ++ [k])/\Paired (Ent knd) es1.toList ls:=by
   obtain⟨ls,l1,l2⟩:=S.ents
   obtain⟨m,m1,m2⟩:=jG p1 (jH (F:=Ent knd) (x:=(knd.hash k,x)) (y:=k) ⟨hk,rfl,hsc⟩ l2)
   exact⟨m,m1.trans (l1.append_right _),m2⟩
  have nd1:(ks ++ [k]).Nodup:=by
   rw [List.nodup_append]
   exact⟨S.nd,by simp,fun y hy z hz e=>hin (by rw [List.mem_singleton] at hz;rw [<-hz,<-e];exact hy)⟩
  have few2:es1.size < scanBound:=by rw [<-Array.length_toList,p1.length_eq,List.length_append,Array.length_toList];simpa using few1
  have gw:∀ (b:Bool) (s₁ : Shared) (Q':Unit->Shared->Prop),Q' () s₁->wpAny (model prog w) A (match b with | true=>rule "set.scan.the-table-gave-way" | false=>pure ()) Q' E s₁:=fun b s₁ Q' hq=>by
   cases b
   ·exact wpAny_pure hq
   ·exact wpAny_rule hq
  refine wpAny_bind (gw _ _ _ ?_)
  by_cases hp:t1.plain=true
  ·rw [if_pos hp]
   refine wpAny_bind ?_
   rw [hashByValue_scannable 8 hsc]
   refine wpAny_pure ?_
   by_cases hv:plainKind x=true
   ·rw [if_pos hv]
    exact jR gw S hE nd1 few2 p2 p3.2 p3.1 fun h' b Sk=>wpAny_pure (q h' b Sk)
   ·rw [if_neg hv]
    exact jR gw S hE nd1 few2 (SetTable.fits_plain_off p2) p3.2 (fun z=>by cases z) fun h' b Sk=>wpAny_pure (q h' b Sk)
  ·rw [if_neg hp]
   refine wpAny_bind (wpAny_pure ?_)
   rw [if_pos rfl]
   exact jR gw S hE nd1 few2 p2 p3.2 p3.1 fun h' b Sk=>wpAny_pure (q h' b Sk)
theorem qx {led:Bool} (hl:led = !(w.params.followText "set-order")) (at_:h.get? a=some { cls:=.type "set",dict:=none,data:=.set #[] 0 (.fresh 0 0 led) }):cC knd h a [] :=
 ⟨_,#[],0,_,at_,⟨rfl,rfl,rfl⟩,rfl,⟨[],.refl _,.nil⟩,List.nodup_nil,by decide,by rfl,hl,fun _=>Up.du (Nat.zero_le _)⟩
end
theorem kC {α : Type}:∀ (l:List α) (i:Nat) (h:i < l.length),(l[i] :: l.eraseIdx i).Perm l
 | x :: l,0,_=>.refl _
 | x :: l,i+1,h=>by
  have hi:i < l.length:=by simpa using h
  have ih:=kC l i hi
  show (l[i] :: x :: l.eraseIdx i).Perm (x :: l)
  exact (List.Perm.swap x _ _).trans (ih.cons x)
section
variable {prog:Program} {w:World} {A:Around} {E:Value->Shared->Prop} {s:Shared}
end
section
variable {prog:Program} {w:World} {K:Type} [DecidableEq K] {knd:KeyKind prog w K}
variable {A:Around} {E:Value->Shared->Prop} {s:Shared} {a:Addr} {ks:List K} {o:Obj} {es:Array (Int × Value)} {ep:Nat} {t:SetTable}
end
section
variable {prog:Program} {w:World} {K:Type} [DecidableEq K] {knd:KeyKind prog w K}
variable {A:Around} {E:Value->Shared->Prop} {s:Shared} {a I:Addr} {ks:List K} {o:Obj} {es:Array (Int × Value)} {ep:Nat} {t:SetTable}
theorem vF {b x y:Addr} (h:b ∈ [x,y]):b=x\/b=y:=by simpa using h
end
open PySem.Calls PySem.W
section
variable {prog:Program} {w:World} {K:Type} [DecidableEq K] {knd:KeyKind prog w K}
variable {A:Around} {E:Value->Shared->Prop} {s:Shared} {a:Addr} {ks:List K} {o:Obj} {es:Array (Int × Value)} {ep:Nat} {t:SetTable}
end
end LS
namespace L2
open PySem PySem.Spec PyProof.Rows LS
section
variable {prog:Program} {w:World} {A:Around} {E:Value->Shared->Prop} {s:Shared} {a:Addr} {ks:List Key} {o:Obj} {es:Array (Int × Value)} {ep:Nat} {t:SetTable}
end
def aQ (P:Program) (w:World) (a:Addr) (ks:List Key):HO:=.ext fun h=>cC (ax P w) h a ks
theorem kZ {P:Program} {w:World} {H:Hp} {h:Heap} {a:Addr} {ks:List Key} (S:cC (ax P w) h a ks):bA P w H h a (aQ P w a ks) :=
 ⟨S,let ⟨o,_,_,_,S⟩:=S;⟨o,S.at_⟩,fun h1 h2 S k=>S.keep k⟩
section
variable {X:Cx} {pins:List (Addr × Obj)} {σ : List (Option V)} {H:Hp} {s:Shared}
theorem Inv.pI {a:Addr} {ks:List Key} (I:Inv X pins σ H s) (h:H a=some (aQ X.prog X.w a ks)):cC (ax X.prog X.w) s.heap a ks:=(I.aA a _ h).1
end
end L2
namespace LS
open PySem PySem.Spec PyProof.Rows L2
section
variable {K:Type} [DecidableEq K]
def putIn (acc:List K) (k:K):List K:=if k ∈ acc then acc else acc ++ [k]
def cX (ms:List K):List K:=ms.foldl putIn []
theorem qy {acc:List K} {k x:K}:x ∈ putIn acc k ↔ x ∈ acc\/x=k:=by
 unfold putIn
 split
 ·rename_i h
  exact⟨.inl,fun z=>z.elim id (fun e=>e ▸ h)⟩
 ·simp
theorem qA (acc:List K) (k:K):(putIn acc k).length<=acc.length+1:=by unfold putIn;split <;> simp
theorem mT:∀ (ms acc:List K) (x:K),x ∈ ms.foldl putIn acc ↔ x ∈ acc\/x ∈ ms
 | [],acc,x=>by simp
 | k :: ms,acc,x=>by
  rw [List.foldl_cons,mT ms,qy]
  simp [or_assoc]
theorem qB {ms:List K} {x:K}:x ∈ cX ms ↔ x ∈ ms:=by unfold cX;rw [mT];simp
theorem mU:∀ (ms acc:List K),(ms.foldl putIn acc).length<=acc.length+ms.length
 | [],acc=>by simp
 | k :: ms,acc=>by
  rw [List.foldl_cons]
  have:=mU ms (putIn acc k)
  have:=qA acc k
  simp only [List.length_cons];omega
theorem oE:∀ (ms acc:List K),acc.Nodup->(ms.foldl putIn acc).Nodup
 | [],acc,h=>h
 | k :: ms,acc,h=>by
  rw [List.foldl_cons]
  refine oE ms _ ?_
  unfold putIn
  split
  ·exact h
  ·rename_i hn
   rw [List.nodup_append]
   exact⟨h,by simp,fun a ha b hb e=>hn (by rw [List.mem_singleton] at hb;rw [<-hb,<-e];exact ha)⟩
theorem se (ms:List K):(cX ms).Nodup:=oE ms [] List.nodup_nil
end
section
variable {prog:Program} {w:World} {A:Around} {E:Value->Shared->Prop} {s:Shared}
theorem jS {k:Key} {v:Value} (h:(ax prog w).is k v=true):v.scannable=true:=by
 rcases bN (show fV k v=true from h) with ⟨j,t,_,rfl⟩ | ⟨x,t,_,rfl⟩ <;> rfl
theorem oF {a:Addr} {ks:List Key} {k:Key} {v:Value} {Q:Bool->Shared->Prop} (hk:(ax prog w).is k v=true) (S:cC (ax prog w) s.heap a ks) (room:ks.length+1 < scanBound)
  (q:∀ h',Heap.SameBut a s.heap h'->cC (ax prog w) h' a (putIn ks k)->∀ c:Bool,Q c { s with heap:=h',toks:=s.toks+1 }):wpAny (model prog w) A (setAdd a v) Q E s:=by
 unfold setAdd
 refine wpAny_holding ?_
 refine wpAny_bind ((ax prog w).pyHash hk ?_)
 exact pH (s:={ s with toks:=s.toks+1 }) hk (jS hk) S room fun h' b S'=>q h' b S' _
theorem sg {a:Addr} {ks:List Key} {k:Key} {v:Value} {Q:Value->Shared->Prop} (hk:(ax prog w).is k v=true) (S:cC (ax prog w) s.heap a ks) (room:ks.length+1 < scanBound)
  (q:∀ h',Heap.SameBut a s.heap h'->cC (ax prog w) h' a (putIn ks k)->Q .none { s with heap:=h',toks:=s.toks+1 }):wpAny (model prog w) A (call (.builtin "set.add") [.ref a,v]) Q E s:=by
 refine wpAny_call_entry PySem.F.slot_set_add S.setOf.typeIs PySem.F.entry_set_add ?_ (PySem.F.args_set_add_2 _ _)
 unfold Builtin.«set.add» Builtin.Frozenset.oneOther
 simp only [List.isEmpty_nil,bind_assoc]
 unfold Builtin.Frozenset.addrOf
 refine wpAny_bind (wpAny_pure ?_)
 refine wpAny_bind (wpAny_pure ?_)
 refine wpAny_bind (oF hk S room fun h' b S' _=>?_)
 exact wpAny_pure ⟨_,rfl,q h' b S'⟩
theorem qC {I L:Addr} {fp wr:List Addr} {G:Array GenState->Array GenState->Prop} {n:Nat} {P:Nat->Value->Prop} {St:Nat->Shared->Prop} {R:Result->Shared->Prop} (W:WalksS prog w A.in1 I fp wr G n P St) (hLf:L ∉ fp)
  (ms:List Key) (hl:ms.length=n) (hm:∀ i v,P i v->∃ k,ms[i]? = some k/\(ax prog w).is k v=true) (hb:n+1 < scanBound) :
  ∀ (k i:Nat) (s:Shared),n - i=k->i<=n->St i s->cC (ax prog w) s.heap L (cX (ms.take i)) ->
   (∀ s',Moved (L :: wr) G s s'->cC (ax prog w) s'.heap L (cX ms)->R (.ok (.ret .none)) s') ->
   codeAny (model prog w) A (.builtin "set.update.loop" ⟨[.ref L,.ref I],[]⟩) R s:=by
 have hLw:L ∉ wr:=fun h=>hLf (W.sub _ h)
 intro k
 induction k with
 | zero =>
  intro i s hk hi st S q
  have e:i=n:=by omega
  subst e
  refine codeAny_builtin PyProof.Rows.F.entry_set_update_loop ?_
  rw [Around.under_plainId PyProof.Rows.F.plain_set_update_loop _]
  show wpAny _ A.in1 (pyNext (.ref I) >>= _) _ _ s
  refine wpAny_bind (W.done s _ _ st fun s' mv=>?_)
  refine wpAny_pure (q s' (mv.mono fun b hb=>List.mem_cons_of_mem _ hb) ?_)
  rw [List.take_of_length_le (by omega)] at S
  exact S.keep fun o e=>mv.heap L _ hLw e
 | succ k ih =>
  intro i s hk hi st S q
  have hlt:i < n:=by omega
  refine codeAny_builtin PyProof.Rows.F.entry_set_update_loop ?_
  rw [Around.under_plainId PyProof.Rows.F.plain_set_update_loop _]
  show wpAny _ A.in1 (pyNext (.ref I) >>= _) _ _ s
  refine wpAny_bind (W.item i s _ _ hlt st fun v s' hP st' mv=>?_)
  obtain⟨key,hkey,his⟩:=hm i v hP
  have S':cC (ax prog w) s'.heap L (cX (ms.take i)):=S.keep fun o e=>mv.heap L _ hLw e
  refine wpAny_bind (wpAny_holding (oF his S' ?_ fun h' sb S2 _=>?_))
  ·have h1:=mU (ms.take i) []
   have h2:(ms.take i).length<=i:=by rw [List.length_take];omega
   have h3:(cX (ms.take i)).length<=0+(ms.take i).length:=h1
   omega
  ·have e1:putIn (cX (ms.take i)) key=cX (ms.take (i+1)):=by
    unfold cX
    rw [List.take_add_one,hkey,List.foldl_append];rfl
   rw [e1] at S2
   refine wpAny_pure ⟨plainId_quiet PyProof.Rows.F.plain_set_update_loop _,ih (i+1) _ (by omega) hlt (W.frame _ s' _ _ st' (Nat.le_succ _) fun b hb o e=>?_) S2 fun s'' mv2 S3=>?_⟩
   ·rw [sb.2 b (fun h:b=L=>hLf (by rw [<-h];exact hb))];exact e
   ·refine q s'' (Moved.trans W.gtrans ((mv.mono fun b hb=>List.mem_cons_of_mem _ hb).then_heap (Nat.le_succ _) fun b o hb e=>?_) mv2) S3
    rw [sb.2 b (fun h:b=L=>hb (by rw [h];exact List.mem_cons_self))];exact e
end
theorem iz {α β : Type} {F:α->β->Prop}:∀ {l:List α} {m:List β},Paired F l m->∀ {i:Nat} {x:α},l[i]? = some x->∃ y,m[i]? = some y/\F x y
 | _,_,.nil,i,x,e=>by simp at e
 | _,_,.cons r _,0,x,e=>by simp at e;subst e;exact⟨_,rfl,r⟩
 | _,_,.cons _ t,i+1,x,e=>by simpa using iz t (i:=i) (x:=x) (by simpa using e)
def dn (w:World):Obj:={ cls:=.type "set",dict:=none,data:=.set #[] 0 (.fresh 0 0 (!(w.params.followText "set-order"))) }
section
variable {prog:Program} {w:World} {A:Around} {E:Value->Shared->Prop} {s:Shared}
theorem qD (rest:List Value) (hc:checkBuiltinCall "set.__new__" ⟨.type "set" :: rest,[]⟩=pure ()) {Q:Value->Shared->Prop} (q:Q (.ref s.heap.objs.size) { s with heap:=s.heap.push (dn w) }) :
  codeAny (model prog w) A (.call (.builtin "set.__new__") ⟨.type "set" :: rest,[]⟩) (wants Q E) s:=by
 refine codeAny_of_tree ?_
 show wpAny _ A.in1 (checkBuiltinCall "set.__new__" ⟨.type "set" :: rest,[]⟩ >>= fun _=>again (.builtin "set.__new__" ⟨.type "set" :: rest,[]⟩)) _ _ s
 refine wpAny_bind (wpAny_of_eq hc (wpAny_pure ⟨plainId_quiet PySem.F.plain_set_new _,codeAny_builtin PySem.F.entry_set_new ?_⟩))
 rw [Around.under_plainId PySem.F.plain_set_new _]
 unfold Builtin.«set.__new__» Builtin.Frozenset.newClass
 have hsub:=sub_set_self
 obtain⟨hp,g,d,tk,os⟩:=s
 dsimp only
 wp_walk
 refine wpAny_askSetting (wpAny_pure ?_)
 dsimp only
 simp only [newObj]
 refine wpAny_bind (wpAny_alloc (wpAny_pure ?_))
 exact wpAny_pure q
theorem si {rest:List Value} {Q:Value->Shared->Prop} (hct:checkTypeCall "set" ⟨rest,[]⟩=pure ()) (hcn:checkBuiltinCall "set.__new__" ⟨.type "set" :: rest,[]⟩=pure ())
  (hci:∀ (M:Model) (A:Around) (E:Value->Shared->Prop) (s':Shared) (Q':Unit->Shared->Prop),s'.TypeIs (.ref s.heap.objs.size) "set" -> Q' () s'->wpAny M A (checkBuiltinCall "set.__init__" ⟨.ref s.heap.objs.size :: rest,[]⟩) Q' E s')
  (init:∀ (R:Result->Shared->Prop),(∀ h' tk,(∀ b o,s.heap.get? b=some o->h'.get? b=some o)->Q (.ref s.heap.objs.size) { s with heap:=h',toks:=tk }->R (.ok (.ret .none)) { s with heap:=h',toks:=tk }) ->
   wpAny (model prog w) A.in1.in1 (Builtin.«set.__init__» ⟨.ref s.heap.objs.size :: rest,[]⟩) (fun fin s'=>match fin with | .done f=>R (.ok f) s' | .again c'=>c'.quiet=true/\codeAny (model prog w) A.in1 c' R s') (fun e s'=>R (.error e) s')
    { s with heap:=s.heap.push (dn w) }) :
  wpAny (model prog w) A (call (.type "set") rest) Q E s:=by
 obtain⟨c,tl,hmro⟩:=PySem.F.called_set.mro
 have hmade:=PySem.F.called_set.made
 have hsub:=PySem.F.called_set.sub
 refine wpAny_call (codeAny_of_tree ?_)
 show wpAny _ _ (callAny (.type "set") _) _ _ _
 refine wpAny_pure ⟨Code.quiet_builtin _ (by decide +kernel),codeAny_builtin PySem.F.entry_type_call ?_⟩
 rw [Around.under_plain (weight_type_call_type "set" rest []) rfl]
 have h1:=PySem.F.called_set.notType
 have h2:=PySem.F.called_set.canCreate
 repeat (any_goals (first | assumption | wp_step))
 refine codeAny_mono (qD (w:=w) rest hcn (E:=E) (Q:=fun obj s₁=>obj=.ref s.heap.objs.size/\s₁ = { s with heap:=s.heap.push (dn w) }) ⟨rfl,rfl⟩) fun r s₁ hr=>?_
 cases r with
 | error e=>exact hr
 | ok fl =>
  cases fl with
  | ret obj =>
   obtain⟨rfl,rfl⟩:=hr
   have hS:(s.heap.push (dn w)).get? s.heap.objs.size=some (dn w):=Heap.get?_push_size _ rfl
   have hT:Shared.TypeIs { s with heap:=s.heap.push (dn w) } (.ref s.heap.objs.size) "set" := ⟨_,hS,rfl⟩
   have hli:=PySem.F.called_set.init.lookup
   have hbi:=PySem.F.called_set.init.bind (.ref s.heap.objs.size)
   repeat (any_goals (first | assumption | wp_step))
   refine codeAny_mono (codeAny_call_builtin (R:=wants (fun r s₂=>r=.none/\Q (.ref s.heap.objs.size) s₂) E) PySem.F.called_set.init.plain PySem.F.entry_set_init (hci _ _ _ _ _ hT (init _ fun h' tk _ q=>⟨rfl,q⟩))) fun r₂ s₂ hr₂=>?_
   cases r₂ with
   | error e=>exact hr₂
   | ok fl₂ =>
    cases fl₂ with
    | ret r =>
     obtain⟨rfl,hq⟩:=hr₂
     repeat (any_goals (first | assumption | wp_step))
    | _=>exact hr₂.elim
  | _=>exact hr.elim
theorem set_list {l:Addr} {items:Array Value} {ms:List Key} {Q:Value->Shared->Prop} (hh:A.handled=none) (hl:s.heap.IsList l items) (hm:Paired (fun v k=>(ax prog w).is k v=true) items.toList ms) (hb:items.size+1 < scanBound)
  (q:∀ h' tk,cC (ax prog w) h' s.heap.objs.size (cX ms)->(∀ b o,s.heap.get? b=some o->h'.get? b=some o)->Q (.ref s.heap.objs.size) { s with heap:=h',toks:=tk }):wpAny (model prog w) A (call (.type "set") [.ref l]) Q E s:=by
 refine si (PySem.F.typeCall_set_1 _) (PySem.F.newCall_set_1 _) (fun M A E s' Q' hT q'=>check_set_init_1 hT q') fun R fin=>?_
 have hS:(s.heap.push (dn w)).get? s.heap.objs.size=some (dn w):=Heap.get?_push_size _ rfl
 have hT:Shared.TypeIs { s with heap:=s.heap.push (dn w) } (.ref s.heap.objs.size) "set" := ⟨_,hS,rfl⟩
 have hz:(s.heap.push (dn w)).objs.size=s.heap.objs.size+1:=Heap.size_push _ _
 obtain⟨ol,hol,hcl,nl,hdl⟩:=id hl
 obtain⟨ocls,odict,odata,oslots⟩:=ol
 simp only at hcl hdl
 subst hcl
 subst hdl
 have hol':(s.heap.push (dn w)).get? l=some { cls:=.type "list",dict:=odict,data:=.seq items nl,slots:=oslots }:=Heap.get?_push_of_some _ hol
 have hsls:=PySem.F.sub_list_set
 have hslf:=PySem.F.sub_list_frozenset
 have hne:(Value.type "list" == Value.type "dict")=false:=by decide
 have hl1:(s.heap.push (dn w)).IsList l items:=⟨_,hol',rfl,nl,rfl⟩
 have hlS:l < s.heap.objs.size:=Heap.lt_size hol
 unfold dn at hS hT hz hol' hl1 ⊢
 unfold Builtin.«set.__init__» noKeywords Builtin.Frozenset.updateFrom
 generalize hPI:pyIter=PI
 wp_walk
 subst hPI
 refine wpAny_pyIter_list hl1 ?_
 refine wpAny_bind (wpAny_runValue ?_)
 have hh3:A.in1.in1.in1.handled=none:=by simp [hh]
 refine qC (L:=s.heap.objs.size) ((Walks.list hh3 _ l ?_ items).toS) ?_ ms ?_ (fun i v hv=>?_) hb (items.size - 0) 0 _ (by omega) (Nat.zero_le _) ⟨⟨_,Heap.get?_push_size _ rfl,rfl,rfl⟩,(hl1.push _)⟩ ?_ fun s' mv S'=>?_
 ·rw [hz];exact Nat.ne_of_lt (Nat.lt_succ_of_lt hlS)
 ·rw [hz]
  intro hmem
  rcases vF hmem with e | e
  ·exact absurd e (Nat.ne_of_lt (Nat.lt_succ_self _))
  ·exact absurd e (Nat.ne_of_gt hlS)
 ·rw [<-hm.length,Array.length_toList]
 ·have hv':items.toList[i]? = some v:=by rw [Array.getElem?_toList];exact hv
  exact iz hm hv'
 ·exact qx rfl (Heap.get?_push_of_some _ hS)
 ·obtain⟨h',g',d',tk',os'⟩:=s'
  have eg:g' = s.gens:=mv.gens
  have ed:d' = s.drawn:=mv.drawn
  have eo:os' = s.os:=mv.os
  subst eg;subst ed;subst eo
  have kp:∀ b o,s.heap.get? b=some o->h'.get? b=some o:=fun b o e=>mv.heap b o (fun hm=>by
   rcases vF hm with e' | e'
   ·exact absurd e' (Nat.ne_of_lt (Heap.lt_size e))
   ·rw [hz] at e';exact absurd e' (Nat.ne_of_lt (Nat.lt_succ_of_lt (Heap.lt_size e)))) (Heap.get?_push_of_some _ (Heap.get?_push_of_some _ e))
  show wpAny _ _ _ _ _ _
  refine wpAny_pure ?_
  exact wpAny_pure (fin h' tk' kp (q h' tk' S' kp))
end
end LS
namespace L2
open PySem PySem.Spec PyProof.Rows LS
theorem vG:bootBuiltins "set" = some (.type "set"):=by decide +kernel
theorem uc {K:Type} [DecidableEq K] {k:K} {ks:List K}:decide (k ∈ ks)=true ↔ k ∈ ks:=decide_eq_true_iff
theorem ju {P:Program} {w:World} {k:Key} {v:Value} (r:RelV (kV k) v):(ax P w).is k v=true:=by
 cases k with
 | inl i=>obtain⟨t,rfl⟩:=r;exact jC P w i t
 | inr x=>obtain⟨t,rfl⟩:=r;exact jD P w x t
theorem jI {P:Program} {w:World}:∀ {ks:List Key} {us:List Value},Vals (ks.map kV) us->Paired (fun v k=>(ax P w).is k v=true) us ks
 | [],_,.nil=>.nil
 | k :: ks,_,.cons r t=>.cons (ju r) (jI t)
section
variable {X:Cx}
theorem Inv.xY {pins:List (Addr × Obj)} {σ : List (Option V)} {H:Hp} {s:Shared} {n:Nat} (I:Inv X pins σ H s):Inv X pins σ H { s with toks:=n }:=⟨I.ok,I.os,I.bare,I.base,I.loc,I.cell,I.free,I.cV,I.pin,I.aA,I.len⟩
theorem qE (hc:X.calm=true):fh X (.type "set") (fun vs H Q=>∃ (p:Addr) (ks:List Key),vs = [.ref p]/\av X.K H p (ks.map kV)/\ks.length+1 < scanBound/\∀ l,H l=none->Q (.ref l) (upd H l (aQ X.prog X.w l (cX ks)))):=by
 intro pins s σ H xs us Q I r h
 obtain⟨p,ks,rfl,hp,hz,q⟩:=h
 obtain⟨u,rfl,ru⟩:=vals1 r
 cases (show u=Value.ref p from ru)
 obtain⟨its,hv,pl,_⟩:=I.list hp
 have hm:=jI (P:=X.prog) (w:=X.w) hv
 refine LS.set_list (I.ok.hd hc) pl.isList (by simpa using hm) (by have:=hm.length;simp at this ⊢;omega) fun h' tk S kp=>?_
 exact⟨.ref s.heap.objs.size,_,I.laid (t':=tk) kp (Nat.le_refl _) (kZ S),rfl,q _ I.fresh⟩
def xB (P:Program) (w:World) (neg:Bool):R2:=fun x y H Q=>∃ a ks k,y=.ref a/\H a=some (aQ P w a ks)/\x=kV k/\∀ b:Bool,(b=true ↔ k ∈ ks)->Q (.bl (if neg then !b else b)) H
theorem qF:de X (compareOp .NotIn) (xB X.prog X.w true):=by
 intro pins s σ H x y v u Q I rx ry h
 obtain⟨a,ks,k,rfl,ha,rfl,q⟩:=h
 cases ry
 have hk:(ax X.prog X.w).is k v=true:=ju rx
 have S:=(I.pI ha).setOf
 exact wpAny_notInSet_of hk (jS hk) S ⟨.bl _,H,I.xY,rfl,q _ uc⟩
def xC (P:Program) (w:World) (r:V->List V->Hp->VK->Prop) (to:TE) (t:TA):TE:=fun σ H Q=>to σ H fun x H1=>(∃ a ks,x=.ref a/\H1 a=some (aQ P w a ks))/\t σ H1 fun xs H2=>r x xs H2 Q
variable {o e:Expr} {es:List Expr} {to:TE} {t:TA} {name:Str} {apos cpos:Pos} {id:String} {r:V->List V->Hp->VK->Prop}
theorem mV (slot:Slot "set" name id) (hty:typeOf (.builtin id)=pure (.type "method_descriptor")) (hm:mz X id r) (ho:PE X o to) (ha:PA X (e :: es) t)
  (hbase:attributeBase o name X.env (eval o X.env)=eval o X.env:=by rfl)
  (hfew:((backTo cpos (starEach (e :: es) X.env)).all (fun x=>!x.1) && (backToKw cpos (keywordEach [] X.env)).all (fun x=>x.1.isSome)
   && decide ((e :: es).length+([]:List Keyword).length+(if ([]:List Keyword).isEmpty then 0 else 1) < 30))=true:=by rfl)
  (hline:(apos.endLine == cpos.line)=true:=by rfl) (hs:starEach (e :: es) X.env=(false,eval e X.env) :: starEach es X.env:=by rfl) (hplain:(backTo cpos (starEach es X.env)).any (·.1)=false:=by rfl) :
  PE X (.Call (.Attribute o name apos) (e :: es) [] cpos) (xC X.prog X.w r to t):=by
 intro pins s σ H Q I h
 refine wpAny_Call_method_late hbase hfew hline rfl (aH (ho pins s σ H _ I h) fun v s1 ⟨x,H1,I1,r1,ty,q1⟩=>?_)
 obtain⟨a,ks,rfl,hset⟩:=ty
 cases (show v=Value.ref a from r1)
 have S:=(I1.pI hset).setOf
 refine⟨"set",id,PySem.F.plainAttrs_set,slot,hty,S.typeIs,S.noDict,?_⟩
 have hA:=ha cpos pins s1 σ H1 _ I1 q1
 rw [hs] at hA ⊢
 refine Calls.callWith_builtin (by show (false || (backTo cpos (starEach es X.env)).any (·.1))=false;rw [hplain] <;> rfl) (Calls.evalArgs_plain ?_)
 exact aH hA fun us s2 ⟨vs,H2,I2,r2,q2⟩=>hm pins s2 σ H2 (.ref a) vs (.ref a) us Q I2 rfl r2 q2
def wC (P:Program) (w:World):V->List V->Hp->VK->Prop:=fun x vs H Q=>∃ a ks k,x=.ref a/\vs = [kV k]/\H a=some (aQ P w a ks)/\ks.length+1 < scanBound/\Q .ba (upd H a (aQ P w a (putIn ks k)))
theorem oG:mz X "set.add" (wC X.prog X.w):=by
 intro pins s σ H x xs v us Q I rx r h
 obtain⟨a,ks,k,rfl,rfl,ha,hz,q⟩:=h
 cases (show v=Value.ref a from rx)
 obtain⟨u,rfl,ru⟩:=vals1 r
 refine sg (ju ru) (I.pI ha) hz fun h' b S'=>?_
 refine⟨.ba,_,I.write (t':=s.toks+1) (x:=a) (e:=a) (by rw [ha];exact trivial) (.inl rfl) (fun c u' hc hu=>b.extBut c u' hc hu) ?_ (kZ S'),rfl,q⟩
 obtain⟨o,_,_,_,So⟩:=S'
 exact⟨o,So.at_⟩
end
def bf:End->List Str
 | .eS _ x _ _ _=>[x]
 | _=>[]
def wD:aG->Str
 | .put .. => "put"
 | .copy .. => "copy"
 | .add .. => "add"
 | .read .. => "read"
 | .tell .. => "tell"
end L2
namespace PySem
section
variable {prog:Program} {w:World} {A:Around} {E:Value->Shared->Prop} {s:Shared}
end
end PySem
namespace PySem
section
variable {prog:Program} {w:World} {K:Type} [DecidableEq K] {knd:KeyKind prog w K} {A:Around} {s:Shared}
end
end PySem
namespace L2
open PySem PySem.Spec PyProof.Rows
section
variable {X:Cx}
end
def kF (a b:Str):Prop:=a.cps.toList<=b.cps.toList
theorem qG {a b c:Str} (h:kF a b) (g:kF b c):kF a c:=List.le_trans h g
theorem sj {a b:Str} (h:kF a b) (g:kF b a):a=b:=by
 have e:a.cps.toList=b.cps.toList:=List.le_antisymm h g
 have e2:a.cps=b.cps:=by rw [<-Array.toArray_toList (xs:=a.cps),e,Array.toArray_toList]
 cases a
 cases b
 cases e2
 rfl
theorem lL:∀ (l:List Str) (p:Str),risingS p l=true->(p :: l).Pairwise kF
 | [],p,_=>by simp
 | x :: r,p,h=>by
  have h':(!ltCps x.cps.toList p.cps.toList && risingS x r)=true:=h
  rw [Bool.and_eq_true,Bool.not_eq_true'] at h'
  have h1:kF p x:=by
   have:=h'.1
   rw [ltCps_eq] at this
   exact of_decide_eq_false this
  have ih:=lL r x h'.2
  refine List.Pairwise.cons (fun y hy=>?_) ih
  rcases List.mem_cons.mp hy with e | hy
  ·rw [e];exact h1
  ·exact qG h1 ((List.pairwise_cons.mp ih).1 y hy)
theorem e7 {l:List Str} (h:sortedS l=true):l.Pairwise kF:=by
 cases l with
 | nil=>exact List.Pairwise.nil
 | cons x r=>exact lL r x h
structure jJ (ss:List Str):Prop where
 pw:ss.Pairwise kF
 nd:ss.Nodup
theorem jJ.tail {x:Str} {r:List Str} (h:jJ (x :: r)):jJ r:=⟨(List.pairwise_cons.mp h.pw).2,(List.nodup_cons.mp h.nd).2⟩
theorem jJ.unique:∀ {l m:List Str},jJ l->jJ m->(∀ x,x ∈ l ↔ x ∈ m)->l=m
 | [],[],_,_,_=>rfl
 | [],b :: m,_,_,h=>absurd ((h b).mpr (List.mem_cons_self ..)) (by simp)
 | a :: l,[],_,_,h=>absurd ((h a).mp (List.mem_cons_self ..)) (by simp)
 | a :: l,b :: m,hl,hm,h=>by
  have e:a=b:=by
   rcases List.mem_cons.mp ((h a).mp (List.mem_cons_self ..)) with e | h1
   ·exact e
   ·rcases List.mem_cons.mp ((h b).mpr (List.mem_cons_self ..)) with e | h2
    ·exact e.symm
    ·exact sj ((List.pairwise_cons.mp hl.pw).1 b h2) ((List.pairwise_cons.mp hm.pw).1 a h1)
  subst e
  have na:=(List.nodup_cons.mp hl.nd).1
  have nb:=(List.nodup_cons.mp hm.nd).1
  rw [jJ.unique hl.tail hm.tail fun x=>⟨fun hx=>?_,fun hx=>?_⟩]
  ·rcases List.mem_cons.mp ((h x).mp (List.mem_cons_of_mem _ hx)) with e | h1
   ·exact absurd (by rw [<-e];exact hx) na
   ·exact h1
  ·rcases List.mem_cons.mp ((h x).mpr (List.mem_cons_of_mem _ hx)) with e | h1
   ·exact absurd (by rw [<-e];exact hx) nb
   ·exact h1
section
variable {X:Cx}
end
section
variable {C D:Addr} {H0 H H1:Hp} {w0 w1:WA} {plv:V} {x0 x1 x':vy}
end
open LS
section
variable {X:Cx}
end
section
variable {a0 a1 z:V}
end
abbrev vN (ms:List Nat):List V:=ms.map fun k=>V.int (k:Nat)
section
variable {C r m d:Addr} {H H':Hp} {ms:List Nat}
end
section
variable (C:Addr)
end
theorem qH {H:Hp} {t:Addr} {e:End} (h:H t=some (.tup (gJ e))):aP H (.ref t) (gH e):=by
 cases e with
 | stop=>exact .tup h (.cons (.str _) .nil)
 | go p=>exact .tup h (.cons (.str _) (.cons (.int _) .nil))
 | eS b x n p q=>exact .tup h (.cons (.str _) (.cons (.str _) (.cons (.int _) (.cons (.int _) (.cons (.int _) .nil)))))
theorem cF:∀ ds:List PyData,(∀ d ∈ ds,d.canLay0=true)->(PyData.tuple ds).canLay0=true
 | [],_=>rfl
 | d :: ds,h=>by
  have ih:=cF ds fun x hx=>h x (List.mem_cons_of_mem _ hx)
  show (d.canLay0 && (PyData.tuple ds).canLay0)=true
  rw [h d (List.mem_cons_self ..),ih]
  rfl
theorem ie {m:Nat}:∀ ds:List PyData,(∀ d ∈ ds,d.depth<=m)->PyData.depthAll ds<=m
 | [],_=>Nat.zero_le _
 | d :: ds,h=>by
  have ih:=ie ds fun x hx=>h x (List.mem_cons_of_mem _ hx)
  have h1:=h d (List.mem_cons_self ..)
  show max d.depth (PyData.depthAll ds)<=m
  omega
theorem sk (d:aG):(aY d).depth<=1:=by cases d <;> exact Nat.le_refl 1
theorem ud (e:End):(gH e).depth<=1:=by cases e <;> exact Nat.le_refl 1
theorem qI (p:Piece):(bP p).depth<=3:=by
 have h1:=ie (p.1.map aY) fun d hd=>by obtain⟨x,_,rfl⟩:=List.mem_map.mp hd;exact sk x
 have h2:=ud p.2
 show max (PyData.depthAll (p.1.map aY)+1) (max (gH p.2).depth 0)+1<=3
 omega
theorem eh {x:Str} (h:bT x):PyData.canLay0 (.str x)=true:=by
 show (x.cps.all fun c=>decide (c < 0x110000))=true
 rw [<-Array.all_toList,List.all_eq_true]
 intro c hc
 have:=h.az c hc
 exact decide_eq_true (by omega)
theorem sm {xs:List Str} (hx:∀ x ∈ xs,bT x) {d:aG} (h:d8 xs d):(aY d).canLay0=true:=by
 cases d with
 | put x n =>
  refine cF _ fun y hy=>?_
  rcases List.mem_cons.mp hy with rfl | hy
  ·decide +kernel
  rcases List.mem_cons.mp hy with rfl | hy
  ·exact eh (hx _ h.1)
  rw [List.mem_singleton.mp hy];rfl
 | copy x z =>
  refine cF _ fun y hy=>?_
  rcases List.mem_cons.mp hy with rfl | hy
  ·decide +kernel
  rcases List.mem_cons.mp hy with rfl | hy
  ·exact eh (hx _ h.1)
  rw [List.mem_singleton.mp hy];exact eh (hx _ h.2)
 | add x n =>
  refine cF _ fun y hy=>?_
  rcases List.mem_cons.mp hy with rfl | hy
  ·decide +kernel
  rcases List.mem_cons.mp hy with rfl | hy
  ·exact eh (hx _ h.1)
  rw [List.mem_singleton.mp hy];rfl
 | read x =>
  refine cF _ fun y hy=>?_
  rcases List.mem_cons.mp hy with rfl | hy
  ·decide +kernel
  rw [List.mem_singleton.mp hy];exact eh (hx _ h)
 | tell x =>
  refine cF _ fun y hy=>?_
  rcases List.mem_cons.mp hy with rfl | hy
  ·decide +kernel
  rw [List.mem_singleton.mp hy];exact eh (hx _ h)
theorem ue {xs:List Str} (hx:∀ x ∈ xs,bT x) {c:Nat} {e:End} (h:kg xs c e):(gH e).canLay0=true:=by
 cases e with
 | stop =>
  refine cF _ fun y hy=>?_
  rw [List.mem_singleton.mp hy];decide +kernel
 | go p =>
  refine cF _ fun y hy=>?_
  rcases List.mem_cons.mp hy with rfl | hy
  ·decide +kernel
  rw [List.mem_singleton.mp hy];rfl
 | eS b x n p q =>
  refine cF _ fun y hy=>?_
  rcases List.mem_cons.mp hy with rfl | hy
  ·cases b <;> decide +kernel
  rcases List.mem_cons.mp hy with rfl | hy
  ·exact eh (hx _ h.1)
  rcases List.mem_cons.mp hy with rfl | hy
  ·rfl
  rcases List.mem_cons.mp hy with rfl | hy
  ·rfl
  rw [List.mem_singleton.mp hy];rfl
def xD (ps:List Piece):Prop:=∀ p ∈ ps,(PyData.tuple (p.1.map aY)).canLay0=true/\(gH p.2).canLay0=true
theorem so {xs:List Str} (hx:∀ x ∈ xs,bT x) {m:Nat} {ps:List Piece} (ok:cR xs m ps):xD ps:=fun p hp =>
 ⟨cF _ fun d hd=>by obtain⟨x,hx',rfl⟩:=List.mem_map.mp hd;exact sm hx ((ok.cS p hp).2 x hx'),ue hx (ok.ends p hp)⟩
structure NF (X:Cx) (a:Addr):Prop where
 none_:∀ o,X.cB.heap.get? a=some o->X.il a=none->a ∉ X.ex->False
 tup:∀ xs,X.il a ≠ some (.tup xs)
 dC:∀ o u,X.il a ≠ some (.dC o u)
 iU:∀ ps,X.il a ≠ some (.iU ps)
section
variable {X:Cx} {pins:List (Addr × Obj)} {σ : L2.St} {H:Hp} {s:Shared} {a:Addr}
theorem Inv.nf {kvs:List (Key × V)} (I:Inv X pins σ H s) (e:H a=some (.dK kvs)):NF X a where
 none_:=fun o h1 h2 h3=>by
  have:=I.base.free a o h1 h2 h3
  rw [e] at this
  cases this
 tup:=fun xs h=>by
  have:=I.base.cv a xs h
  rw [e] at this
  cases this
 dC:=fun o u h=>by
  have:=I.base.fS a o u h
  rw [e] at this
  cases this
 iU:=fun ps h=>by
  obtain⟨more,this⟩:=I.base.gn a ps h
  rw [e] at this
  cases this
theorem Inv.swap {u u':HO} (I:Inv X pins σ H s) (nf:NF X a) (e:H a=some u) (no:∀ y,u ≠ .own y) (nt:∀ xs,u ≠ .tup xs) (new:bA X.prog X.w (upd H a u') s.heap a u'):Inv X pins σ (upd H a u') s where
 ok:=I.ok
 os:=I.os
 bare:=I.bare
 base:={
  keep:=I.base.keep
  slot:=I.base.slot
  free:=fun b o h1 h2 h3=>by
   by_cases z:b=a
   ·subst z;exact absurd (nf.none_ o h1 h2 h3) id
   ·rw [ae z];exact I.base.free b o h1 h2 h3
  there:=I.base.there
  cv:=fun b xs h=>by
   have z:b ≠ a:=fun z=>by subst z;exact nf.tup xs h
   rw [ae z];exact I.base.cv b xs h
  fS:=fun b o v h=>by
   have z:b ≠ a:=fun z=>by subst z;exact nf.dC o v h
   rw [ae z];exact I.base.fS b o v h
  gn:=fun b ps h=>by
   have z:b ≠ a:=fun z=>by subst z;exact nf.iU ps h
   rw [ae z];exact I.base.gn b ps h }
 loc:=I.loc
 cell:=I.cell
 free:=by rw [ae (fun z=>by have:=I.free;rw [z,e] at this;cases this)];exact I.free
 cV:=fun x c h=>by rw [ae (fun z=>by have:=I.cV x c h;rw [z,e] at this;cases this)];exact I.cV x c h
 pin:=fun p hp=>by
  obtain⟨h1,h2,h3⟩:=I.pin p hp
  exact⟨h1,by rw [ae (fun z=>by rw [z,e] at h2;cases h2)];exact h2,h3⟩
 aA:=fun b o h=>by
  by_cases z:b=a
  ·subst z
   rw [aa] at h
   cases h
   exact new
  ·rw [ae z] at h
   refine (I.aA b o h).jO (fun _ _ _ q=>q) (fun c q=>?_) fun c xs q=>?_
   ·rw [ae (fun y=>by rw [y,e] at q;exact no _ (Option.some.inj q))];exact q
   ·rw [ae (fun y=>by rw [y,e] at q;exact nt _ (Option.some.inj q))];exact q
 len:=I.len
end
theorem uf {P:Program} {w:World} {k:Key} {v:Value} (h:(ax P w).is k v=true):RelV (kV k) v:=by
 cases k with
 | inr x=>exact jF h
 | inl i =>
  obtain⟨t,e⟩:=Value.isInt_shape (show Value.isInt i v=true from h)
  exact⟨t,e⟩
def wU (a:Addr) (kvs:List (Key × V)) (ob:Obj):It :=
 ⟨fun i H=>H a=some (.dC ob (.dK kvs))/\i < kvs.length,fun i H x H'=>H' = H/\∃ k v,kvs[i]? = some (k,v)/\x=kV k,fun i H=>H a=some (.dC ob (.dK kvs))/\kvs.length<=i⟩
theorem qJ {P:Program} {w:World} {K:PySem.W.Frag} {tg:Expr} {kvs:List (Key × V)} {vs:List (Key × Value)} {ob:Obj} {ep:Nat} (a it:Addr) (hat:∀ h:Heap,h.get? a=some ob->h.DictAt (ax P w) a vs ep) (rel:KV kvs vs) :
  Turn P w K tg (wU a kvs ob) [it] it (fun i h=>h.IsKeyIter it a i vs.length ep) where
 mem:=by simp
 obj:=fun i h st b hb=>by
  have e:b=it:=by simpa using hb
  subst e
  obtain⟨o,e,c,d⟩:=st
  exact⟨o,e,fun v z=>by rw [d] at z;cases z⟩
 keep:=fun i h h' st k=>st.at fun o e=>k it (by simp) o e
 item:=by
  intro X hP hw hK hc i pins s σ H E I hf st hg
  subst hP hw hK
  obtain⟨ha,hi⟩:=hg
  obtain⟨e0,_⟩:=(show bA X.prog X.w H s.heap a (.dC ob (.dK kvs)) from I.aA a _ ha)
  have hvi:i < vs.length:=by rw [<-rel.length];exact hi
  have hx:vs[i]? = some vs[i]:=by simp [hvi]
  generalize vs[i] = p at hx
  obtain⟨k,u⟩:=p
  obtain⟨v,hkv⟩:∃ v,kvs[i]? = some (k,v):=by
   have e1:(vs.map (·.1))[i]? = some k:=by rw [List.getElem?_map,hx];rfl
   rw [<-rel.keys,List.getElem?_map] at e1
   cases e2:kvs[i]? with
   | none=>rw [e2] at e1;cases e1
   | some q =>
    rw [e2] at e1
    obtain⟨k',v⟩:=q
    cases (Option.some.inj e1)
    exact⟨v,rfl⟩
  obtain⟨f0,f1,f2,f3,f4,f5⟩:=hf it (by simp)
  refine wpAny_pyNext_dict_item st (hat _ e0) hx fun key h' hkey st' sb=>?_
  have I1:Inv X pins σ H { s with heap:=h' }:=I.turned (t':=s.toks) (fun b o hb e=>(sb.2 b hb).trans e) f0 f1 f3 f4 f5
  obtain⟨o,e,c,d⟩:=id st'
  exact⟨key,rfl,j6 (s:={ s with heap:=h' }) e c d (by decide) ⟨kV k,H,I1,uf hkey,⟨rfl,k,v,hkv,rfl⟩,st',fun b hb=>(hf b hb).1⟩⟩
 done:=by
  intro X hP hw hK hc i pins s σ H E I hf st hg
  subst hP hw hK
  obtain⟨ha,hi⟩:=hg
  obtain⟨e0,_⟩:=(show bA X.prog X.w H s.heap a (.dC ob (.dK kvs)) from I.aA a _ ha)
  obtain⟨f0,f1,f2,f3,f4,f5⟩:=hf it (by simp)
  exact wpAny_pyNext_dict_end (I.ok.hd hc) st (hat _ e0) (List.getElem?_eq_none (by rw [<-rel.length];exact hi)) fun h' eb=>⟨rfl,I.turned (t':=s.toks) (fun b o hb e=>eb b o hb e) f0 f1 f3 f4 f5⟩
 self:=fun _ _ _ _ _ st h=>wpAny_pyIter_keyiter st h
section
variable {X:Cx}
def wF (i:Nat) (X:Cx):TI:=fun σ H R=>∃ v,σ[i]? = some (some v)/\∃ a kvs,v=.ref a/\H a=some (.dK kvs)/\∀ ob,NF X a->R (wU a kvs ob) (upd H a (.dC ob (.dK kvs)))
theorem ug {tg l:Expr} {i:Nat} (hl:PE X l (oX i)):PI X tg l (wF i X):=by
 intro pins s σ H R I h
 obtain⟨v0,hv0,a,kvs,rfl,ha,q⟩:=h
 refine aH (hl pins s σ H (fun x H1=>x=.ref a/\H1=H) I ⟨_,hv0,rfl,rfl⟩) fun v s1 ⟨x,H1,I1,r1,e1,e2⟩=>?_
 subst e1 e2
 cases r1
 have nf:=I1.nf ha
 obtain⟨z,hd,vs,rel,dd⟩:=kn I1.aA ha
 obtain⟨ep,ob,es,ho,rest⟩:=dd.dictAt
 have I2:Inv X pins σ (upd H1 a (.dC ob (.dK kvs))) s1:=I1.swap nf ha (fun _ h=>nomatch h) (fun _ h=>nomatch h) ⟨ho,ib z hd rel ⟨ob,es,ep,ho,rest⟩⟩
 refine wpAny_pyIter_dict hd ⟨ob,es,ho,rest⟩ ?_
 refine⟨s1.heap.objs.size,[s1.heap.objs.size],_,_,_,rfl,I2.kept (t':=s1.toks) fun b o e=>Heap.get?_push_of_some _ e,qJ a _ (fun h e=>⟨ob,es,e,rest⟩) rel,⟨_,Heap.get?_push_size _ rfl,rfl,rfl⟩,fun b hb=>?_,q ob nf⟩
 have e:b=s1.heap.objs.size:=by simpa using hb
 subst e
 exact I2.gx (Nat.le_refl _) (I2.aA.fresh (Nat.le_refl _))
theorem xE {pins:List (Addr × Obj)} {σ : L2.St} {H:Hp} {s:Shared} {a:Addr} {ob:Obj} {kvs:List (Key × V)} (I:Inv X pins σ H s) (nf:NF X a) (e:H a=some (.dC ob (.dK kvs))):Inv X pins σ (upd H a (.dK kvs)) s:=by
 obtain⟨z,hd,vs,rel,dd⟩:=km I.aA (.inr ⟨ob,e⟩)
 exact I.swap nf e (fun _ h=>nomatch h) (fun _ h=>nomatch h) (ib z hd rel dd)
end
abbrev E2 (elt t1 i1:Expr) (f1:List Expr) (t2 i2:Expr) (f2:List Expr) (scope:Scope) (pos:Pos):Expr:=.ListComp elt [⟨t1,i1,f1,0⟩,⟨t2,i2,f2,0⟩] scope pos
def mW (e i2:Expr) (acc:Value) (env:Env):Sem Unit:=do
 let x <-eval i2 env
 standAt i2.pos
 let x <-foldedSetIterable i2 env x
 let _ <-runOwn (.compStart e 1 (<-holding [x] (pyIter x)) acc env) env
def wV (elt:Expr) (acc:Value) (env:Env):Sem Unit:=do let _ <-call (.builtin "list.append") [acc,<-eval elt env]
def kG (e:Expr) (d:Nat) (ip:Pos) (target:Expr) (ifs:List Expr) (em:Sem Unit) (it acc:Value) (env:Env):Sem Fin:=do
 standAt ip
 match <-pyNext it with
 | none=>pure (.done .next)
 | some v =>
  letOwnedTupleGo target it v
  assign target env v
  let mut ok:=true
  for c in ifs do
   if ok then ok <-isTrue c env (eval c env)
  if ok then
   em
  again (.compLoop e d it acc env)
theorem lR (elt t1 i1:Expr) (f1:List Expr) (t2 i2:Expr) (f2:List Expr) (scope:Scope) (pos:Pos) (it acc:Value) (env:Env) :
  compTurn (E2 elt t1 i1 f1 t2 i2 f2 scope pos) 0 it acc env=kG (E2 elt t1 i1 f1 t2 i2 f2 scope pos) 0 i1.pos t1 f1 (mW (E2 elt t1 i1 f1 t2 i2 f2 scope pos) i2 acc env) it acc env:=by
 unfold kG mW
 simp only [bind_assoc,pure_bind]
 rfl
theorem lS (elt t1 i1:Expr) (f1:List Expr) (t2 i2:Expr) (f2:List Expr) (scope:Scope) (pos:Pos) (it acc:Value) (env:Env) :
  compTurn (E2 elt t1 i1 f1 t2 i2 f2 scope pos) 1 it acc env=kG (E2 elt t1 i1 f1 t2 i2 f2 scope pos) 1 i2.pos t2 f2 (wV elt acc env) it acc env:=by rfl
theorem fB {prog:Program} {w:World} {A:Around} {R:Result->Shared->Prop} {s:Shared} {e:Expr} {d:Nat} {ip:Pos} {target:Expr} {ifs:List Expr} {em:Sem Unit} {it acc:Value} {env:Env} (I:Nat->Shared->Prop)
  (heq:compTurn e d it acc env=kG e d ip target ifs em it acc env) (hq:(Code.compLoop e d it acc env).quiet=true) (hA:A.under (.compLoop e d it acc env)=A)
  (hden:(model prog w).den (.compLoop e d it acc env)=(compTurn e d it acc env).onRaise (fun x=>do noteFrame x env;theTreesLotGoes x))
  (turn:∀ n s,I n s->wpAny (model prog w) A (pyNext it) (fun r s₁=>match r with
   | none=>R (.ok .next) s₁
   | some v=>wpAny (model prog w) A (letOwnedTupleGo target it v) (fun _ s₁'=>wpAny (model prog w) A (assign target env v) (fun _ s₂ =>
     wpAny (model prog w) A (forIn ifs true fun c r=>if r=true then do let ok <-isTrue c env (eval c env);pure (ForInStep.yield ok) else pure (ForInStep.yield r)) (fun ok s₃ =>
      if ok=true then wpAny (model prog w) A em (fun _ s₅=>∃ m,m < n/\I m s₅) (fun _ _=>False) s₃
      else ∃ m,m < n/\I m s₃) (fun _ _=>False) s₂) (fun _ _=>False) s₁') (fun _ _=>False) s₁) (fun _ _=>False) s)
  (n:Nat) (h:I n s) :
  codeAny (model prog w) A (.compLoop e d it acc env) R s:=by
 refine codeAny_loop hq I (fun n s hI=>?_) n h
 rw [hden,hA]
 refine wpAny_noted ?_
 rw [heq]
 unfold kG
 refine wpAny_bind (wpAny_standAt (wpAny_bind (wpAny_mono (turn n s hI) (fun r s₁ h₁=>?_) fun _ _ h'=>h'.elim)))
 cases r with
 | none=>exact wpAny_pure h₁
 | some v =>
  refine wpAny_bind (wpAny_mono h₁ (fun _ s₁' h₁'=>?_) fun _ _ h'=>h'.elim)
  refine wpAny_bind (wpAny_mono h₁' (fun _ s₂ h₂=>wpAny_bind (wpAny_mono h₂ (fun ok s₃ h₃=>?_) fun _ _ h'=>h'.elim)) fun _ _ h'=>h'.elim)
  cases ok with
  | false=>exact wpAny_pure ⟨rfl,h₃⟩
  | true=>exact wpAny_bind (wpAny_mono h₃ (fun _ s₅ h₅=>wpAny_pure ⟨rfl,h₅⟩) fun _ _ h'=>h'.elim)
theorem gZ {prog:Program} {w:World} {A:Around} {R:Result->Shared->Prop} {s:Shared} {elt t1 i1:Expr} {f1:List Expr} {t2 i2:Expr} {f2:List Expr} {scope:Scope} {pos:Pos} {it acc:Value} {env:Env}
  (h0:codeAny (model prog w) A (.compLoop (E2 elt t1 i1 f1 t2 i2 f2 scope pos) 1 it acc env) R s)
  (h:wpAny (model prog w) A (pyIter it) (fun it' s'=>codeAny (model prog w) A (.compLoop (E2 elt t1 i1 f1 t2 i2 f2 scope pos) 1 it' acc env) R s')
   (notedBy (model prog w) A env fun x s'=>R (.error x) s') s) :
  codeAny (model prog w) A (.compStart (E2 elt t1 i1 f1 t2 i2 f2 scope pos) 1 it acc env) R s:=by
 refine codeAny_of_tree ?_
 show wpAny _ _ ((compStart (E2 elt t1 i1 f1 t2 i2 f2 scope pos) 1 it acc env).onRaise (fun x=>do noteFrame x env;standAt theWindowsPlace)) _ _ s
 refine wpAny_notedAt ?_
 unfold compStart
 show wpAny _ _ (ask >>= _) _ _ s
 refine wpAny_bind (wpAny_askSetting (wpAny_ite ?_))
 split
 ·first
   | exact wpAny_bind (wpAny_pure (wpAny_pure (And.intro rfl h0)))
   | exact wpAny_pure (And.intro rfl h0)
 ·first
   | exact wpAny_bind (wpAny_rule (wpAny_bind (wpAny_standAt (wpAny_bind (wpAny_mono h (fun it' s' h'=>wpAny_pure (And.intro rfl h')) fun _ _ x=>x)))))
   | (refine wpAny_bind (wpAny_rule ?_);show wpAny _ _ (standAt i2.pos >>= _) _ _ s;exact wpAny_bind (wpAny_standAt (wpAny_bind (wpAny_mono h (fun it' s' h'=>wpAny_pure (And.intro rfl h')) fun _ _ x=>x))))
abbrev TM:=Addr->List V->St->Hp->(List V->St->Hp->Prop)->Prop
def xZ (wi:TI) (g:TG) (ct:TT) (te:TE):TM:=fun acc ys0 τ0 H Q=>wi τ0 H fun J H1=>∃ W:Nat->Nat->List V->St->Hp->Prop,(∃ m,W 0 m ys0 τ0 H1)/\∀ i m ys τ H2,W i m ys τ H2->H2 acc=some (.lst ys)/\ys.length < sizeLine /\
  ((J.stop i H2/\Q ys τ H2)\/(J.go i H2/\∃ N:List V->St->Hp->Prop,(∀ ys' τ' H',N ys' τ' H'->∃ m',m' < m/\W (i+1) m' ys' τ' H')/\∀ x H3,J.iX i H2 x H3->g x τ H3 fun τ1 H4=>ct τ1 H4 fun b H5 =>
   if b=true then te τ1 H5 fun y H6=>H6 acc=some (.lst ys)/\N (ys ++ [y]) τ1 (upd H6 acc (.lst (ys ++ [y]))) else N ys τ1 H5))
def PM (X:Cx) (acc:Addr) (em:Sem Unit) (tm:TM):Prop :=
 ∀ (pins:List (Addr × Obj)) (s:Shared) (τ : St) (H:Hp) (ys:List V) (Q:List V->St->Hp->Prop),Inv X pins τ H s->tm acc ys τ H Q ->
  wpAny (model X.prog X.w) X.A em (fun _ s'=>∃ ys' τ' H',Inv X pins τ' H' s'/\Q ys' τ' H') X.xe s
section
variable {X:Cx} {pos:Pos}
theorem vH {elt t1 i1:Expr} {f1:List Expr} {t2 i2:Expr} {f2:List Expr} {scope:Scope} {acc:Addr} {wi:TI} {g:TG} {ct:TT} {te:TE} (hc:X.calm=true) (hx:X.xe=fun _ _=>False)
  (hi:PI X t2 i2 wi) (hg:PG X t2 g) (hct:i5 X f2 ct) (hte:PE X elt te) (hs:∀ x,foldedSetIterable i2 X.env x=pure x:=by intro _;rfl) :
  PM X acc (mW (E2 elt t1 i1 f1 t2 i2 f2 scope pos) i2 (.ref acc) X.env) (xZ wi g ct te):=by
 intro pins s τ H ys Q I h
 unfold mW
 refine wpAny_bind (aH (hi pins s τ H _ I h) fun v s1 h1=>wpAny_bind (wpAny_standAt (wpAny_bind (wpAny_of_eq (hs v) (wpAny_bind (wpAny_holding (aH h1 fun itv s2 h2=>?_)))))))
 obtain⟨it,fp,tn,J,H2,e,I2,T,st2,f2',W,⟨m0,w0⟩,turn⟩:=h2
 subst e
 have stat:∀ {H':Hp},(∀ b ∈ fp,H' b=none)->∀ b ∈ fp,dW X pins H' b:=fun hn b hb=>⟨hn b hb,(f2' b hb).2⟩
 have loop:codeAny (model X.prog X.w) X.A (.compLoop (E2 elt t1 i1 f1 t2 i2 f2 scope pos) 1 (.ref it) (.ref acc) X.env)
   (fun r s'=>match r with | .ok _=>(∃ ys' τ' H',Inv X pins τ' H' s'/\Q ys' τ' H') | .error _=>False) s2:=by
  refine fB (fun n s'=>∃ i ys τ H',Inv X pins τ H' s'/\tn i s'.heap/\(∀ b ∈ fp,H' b=none)/\W i n ys τ H') (lS ..) rfl rfl rfl ?_ m0 ⟨0,ys,τ,H2,I2,st2,fun b hb=>(f2' b hb).1,w0⟩
  rintro n s3 ⟨i,ys,τ,H3,I3,st3,fr3,w3⟩
  obtain⟨ha,hl,turn'⟩:=turn i n ys τ H3 w3
  rcases turn' with ⟨stop,q⟩ | ⟨go,N,hN,step⟩
  ·refine wpAny_mono (T.done X rfl rfl rfl hc i pins s3 τ H3 (fun _ _=>False) I3 (stat fr3) st3 stop) (fun r s4 hr4=>?_) fun _ _ z=>z
   obtain⟨hr,I4⟩:=hr4
   subst hr
   exact⟨ys,τ,H3,I4,q⟩
  ·refine wpAny_mono (T.item X rfl rfl rfl hc i pins s3 τ H3 (fun _ _=>False) I3 (stat fr3) st3 go) (fun r s4 hr4=>?_) fun _ _ z=>z
   obtain⟨u,hr,h4⟩:=hr4
   subst hr
   refine wpAny_mono h4 (fun _ s5 ⟨x,H5,I5,r5,y5,st5,fr5⟩=>?_) fun _ _ z=>z
   have I5':=I5.pinned (stat fr5) (T.obj _ _ st5)
   have keepT:∀ {σ7:St} {H7:Hp} {s7:Shared},Inv X (pins++fM fp s5.heap) σ7 H7 s7->tn (i+1) s7.heap/\∀ b ∈ fp,H7 b=none:=fun {σ7 H7 s7} I7=>by
    refine⟨T.keep _ _ _ st5 fun b hb o e=>(I7.pin (b,o) (List.mem_append_right _ (List.mem_append_right _ (bW hb e)))).1,fun b hb=>?_⟩
    obtain⟨o,e,d⟩:=T.obj _ _ st5 b hb
    exact (I7.pin (b,o) (List.mem_append_right _ (List.mem_append_right _ (bW hb e)))).2.1
   refine wpAny_mono (hg _ s5 τ H5 x u _ I5' r5 (step x H5 y5)) (fun _ s6 ⟨τ6,H6,I6,q6⟩=>?_) (fun _ _ z=>by rw [hx] at z;exact z)
   refine wpAny_mono (hct _ s6 τ6 H6 _ I6 q6) (fun ok s7 ⟨H7,I7,q7⟩=>?_) (fun _ _ z=>by rw [hx] at z;exact z)
   cases ok with
   | false =>
    have q7':N ys τ6 H7:=by rw [if_neg (by simp)] at q7;exact q7
    rw [if_neg (by simp)]
    obtain⟨m',hm,w7⟩:=hN _ _ _ q7'
    exact⟨m',hm,i+1,ys,τ6,H7,I7.cI,(keepT I7).1,(keepT I7).2,w7⟩
   | true =>
    rw [if_pos rfl] at q7 ⊢
    unfold wV
    refine wpAny_bind (wpAny_mono (hte _ s7 τ6 H7 _ I7 q7) (fun v s8 ⟨y,H8,I8,r8,ha8,n8⟩=>?_) (fun _ _ z=>by rw [hx] at z;exact z))
    refine wpAny_bind (wpAny_mono (bK (X:=X) _ s8 τ6 H8 (.ref acc) [y] (.ref acc) [v] (fun _ H9=>H9=upd H8 acc (.lst (ys ++ [y]))) I8 rfl (.cons r8 .nil) ⟨_,ys,y,rfl,rfl,ha8,hl,rfl⟩) (fun _ s9 ⟨_,H9,I9,_,e9⟩=>wpAny_pure ?_) (fun _ _ z=>by rw [hx] at z;exact z))
    subst e9
    obtain⟨m',hm,w8⟩:=hN _ _ _ n8
    exact⟨m',hm,i+1,_,τ6,_,I9.cI,(keepT I9).1,(keepT I9).2,w8⟩
 refine wpAny_bind (wpAny_runOwn (codeAny_mono (gZ loop (T.self _ 0 _ _ _ st2 loop)) fun r s' q=>?_))
 cases r with
 | ok f=>exact wpAny_pure q
 | error e=>exact q.elim
end
def xF (i0:Nat) (g:TG) (ct:TT) (te:TE):TM:=fun acc ys0 τ0 H Q=>∃ v,τ0[i0]? = some (some v)/\∃ a kvs,v=.ref a/\H a=some (.dK kvs)/\∀ ob,∃ Pv:Nat->List V->St->Hp->Prop,Pv 0 ys0 τ0 (upd H a (.dC ob (.dK kvs))) /\
 (∀ j ys τ H2,j<=kvs.length->Pv j ys τ H2->H2 a=some (.dC ob (.dK kvs))/\H2 acc=some (.lst ys)/\ys.length < sizeLine) /\
 (∀ j k u ys τ H2,kvs[j]? = some (k,u)->Pv j ys τ H2->g (kV k) τ H2 fun τ1 H4=>ct τ1 H4 fun b H5=>if b=true then te τ1 H5 fun y H6=>H6 acc=some (.lst ys)/\Pv (j+1) (ys ++ [y]) τ1 (upd H6 acc (.lst (ys ++ [y]))) else Pv (j+1) ys τ1 H5) /\
 (∀ ys τ H2,Pv kvs.length ys τ H2->Q ys τ (upd H2 a (.dK kvs)))
section
variable {X:Cx} {pos:Pos}
theorem uh {elt t1 i1:Expr} {f1:List Expr} {t2 i2:Expr} {f2:List Expr} {scope:Scope} {acc:Addr} {i0:Nat} {g:TG} {ct:TT} {te:TE} (hc:X.calm=true) (hx:X.xe=fun _ _=>False)
  (hi:PE X i2 (oX i0)) (hg:PG X t2 g) (hct:i5 X f2 ct) (hte:PE X elt te) (hs:∀ x,foldedSetIterable i2 X.env x=pure x:=by intro _;rfl) :
  PM X acc (mW (E2 elt t1 i1 f1 t2 i2 f2 scope pos) i2 (.ref acc) X.env) (xF i0 g ct te):=by
 intro pins s τ0 H ys0 Q I h
 obtain⟨v,hv,a,kvs,rfl,ha,h⟩:=h
 have nf:=I.nf ha
 refine aH (vH hc hx (ug hi) hg hct hte hs pins s τ0 H ys0 (fun ys τ H2=>∃ ob,H2 a=some (.dC ob (.dK kvs))/\Q ys τ (upd H2 a (.dK kvs))) I ?_) fun _ s' ⟨ys,τ,H2,I2,ob,e,q⟩=>⟨ys,τ,_,xE I2 nf e,q⟩
 refine⟨_,hv,a,kvs,rfl,ha,fun ob _=>?_⟩
 obtain⟨Pv,p0,pf,ps,pe⟩:=h ob
 refine⟨fun j m ys τ H2=>m=kvs.length - j/\j<=kvs.length/\Pv j ys τ H2,⟨kvs.length,by simp,Nat.zero_le _,p0⟩,?_⟩
 rintro j m ys τ H2 ⟨rfl,hj,p⟩
 obtain⟨h1,h2,h3⟩:=pf j ys τ H2 hj p
 refine⟨h2,h3,?_⟩
 by_cases hlt:j < kvs.length
 ·refine .inr ⟨⟨h1,hlt⟩,Pv (j+1),fun ys' τ' H' p'=>⟨kvs.length - (j+1),by omega,rfl,hlt,p'⟩,fun x H' y=>?_⟩
  obtain⟨e1,k,u,e2,e3⟩:=y
  subst e1 e3
  exact ps j k u ys τ _ e2 p
 ·have e:j=kvs.length:=by omega
  subst e
  exact .inl ⟨⟨h1,Nat.le_refl _⟩,ob,h1,pe ys τ H2 p⟩
end
def vI (J:It) (n:Nat) (js:List Nat) (g:TG) (ct:TT) (tm:TM) (acc:Addr) (σ : St) (H1:Hp) (Q:VK):Prop :=
 ∃ W:Nat->Nat->List V->St->Hp->Prop,(∃ m,W 0 m [] (dZ n js σ) (upd H1 acc (.lst [])))/\∀ i m ys τ H2,W i m ys τ H2 ->
  ((J.stop i H2/\Q (.ref acc) H2)\/(J.go i H2/\∃ N:List V->St->Hp->Prop,(∀ ys' τ' H',N ys' τ' H'->∃ m',m' < m/\W (i+1) m' ys' τ' H')/\∀ x H3,J.iX i H2 x H3->g x τ H3 fun τ1 H4=>ct τ1 H4 fun b H5 =>
   if b=true then tm acc ys τ1 H5 N else N ys τ1 H5))
def x9 (n:Nat) (js:List Nat) (wi:TI) (g:TG) (ct:TT) (tm:TM):TE:=fun σ H Q=>wi σ H fun J H1=>∀ acc,H1 acc=none->vI J n js g ct tm acc σ H1 Q
section
variable {X:Cx} {pos:Pos}
theorem ui {pins:List (Addr × Obj)} {σ : St} {H:Hp} {s:Shared} {E:Value->Shared->Prop} {tg elt iter:Expr} {ifs:List Expr} {t2 i2:Expr} {f2:List Expr} {scope:Scope} {g:TG} {ct:TT} {tm:TM} {ts fr:List Str} {js:List Nat}
    {it:Addr} {fp:List Addr} {tn:Nat->Heap->Prop} {J:It} {Q:VK} {RR:Value->Addr->Result->Shared->Prop}
    (hc:X.calm=true) (hkind:scope.kind=.function) (hcell:∀ y ∈ scope.names,y.2 ≠ .cell) (hfree:∀ y ∈ scope.names,y.2=.free->X.env.kindOf y.1=some .cell\/X.env.kindOf y.1=some .free)
    (hfr:d7 X scope fr js) (htg:∀ C fp s₁ H₁,PG (bB X scope C (ts++fr) fp s₁ H₁) tg g) (hct:∀ C fp s₁ H₁,i5 (bB X scope C (ts++fr) fp s₁ H₁) ifs ct) (htm:∀ C fp s₁ H₁ acc,PM (bB X scope C (ts++fr) fp s₁ H₁) acc (mW (E2 elt tg iter ifs t2 i2 f2 scope pos) i2 (.ref acc) (bB X scope C (ts++fr) fp s₁ H₁).env) tm)
    (I:Inv X pins σ H s) (T:Turn X.prog X.w X.K tg J fp it tn) (st:tn 0 s.heap) (hfp:∀ b ∈ fp,dW X pins H b)
    (h:∀ acc,H acc=none->vI J ts.length js g ct tm acc σ H Q)
    (hRR:∀ acc C H' s' m,Inv X pins σ H' s'->s'.heap.Ns C m->H' C=none->s.heap.objs.size<=C->Q (.ref acc) H'->RR (.ref acc) C (.ok .next) s') :
    wpAny (model X.prog X.w) X.A (newList []) (fun acc s₃=>wpAny (model X.prog X.w) X.A (newFunctionEnv scope X.env.globals (eR X.env.cells scope.names []) [] X.env.qual none .none (some X.env)) (fun cenv s₄ =>
      codeAny (model X.prog X.w) X.A (.compStart (E2 elt tg iter ifs t2 i2 f2 scope pos) 0 (.ref it) acc { cenv with scope:=relabel scope X.env }) (RR acc cenv.locals) s₄) E s₃) E s:=by
  have hf:∀ y ∈ scope.names,y.2=.free->∃ c,X.env.cells.lookup y.1=some c:=fun y hy e=>I.ok.has y.1 (hfree y hy e)
  have ag:∀ x c,(eR X.env.cells scope.names []).lookup x=some c->X.env.cells.lookup x=some c:=fO scope.names [] hf fun x c e=>by simp at e
  have hlt:∀ b ∈ fp,b < s.heap.objs.size:=fun b hb=>by
    obtain⟨o,e,_⟩:=T.obj _ _ st b hb
    exact Heap.lt_size e
  refine wpAny_newObj_type (wpAny_newFunctionEnv hcell (by intro y hy;simp at hy) (fun h₁ hns₁ hsb₁=>?_) hkind)
  dsimp only at hns₁ hsb₁ ⊢
  generalize hH2:s.heap.push { cls:=.type "list",dict:=none,data:=.seq ([]:List Value).toArray }=G2 at hns₁ hsb₁ ⊢
  have hC:G2.objs.size=s.heap.objs.size+1:=by rw [<-hH2,Heap.size_push]
  have hDC:s.heap.objs.size ≠ G2.objs.size:=by rw [hC];exact Nat.ne_of_lt (Nat.lt_succ_self _)
  have hCle:s.heap.objs.size<=G2.objs.size:=by rw [hC];exact Nat.le_succ _
  have below:∀ b,b < s.heap.objs.size->b ≠ G2.objs.size/\b ≠ s.heap.objs.size:=fun b hb=>⟨by rw [hC];exact Nat.ne_of_lt (Nat.lt_succ_of_lt hb),Nat.ne_of_lt hb⟩
  have old:∀ b o,s.heap.get? b=some o->h₁.get? b=some o:=fun b o e=>hsb₁.extBut b o (below b (Heap.lt_size e)).1 (Heap.get?_push_of_some _ (hH2 ▸ Heap.get?_push_of_some _ e))
  have hacc:h₁.get? s.heap.objs.size=some { cls:=.type "list",data:=.seq ([]:List Value).toArray }:=hsb₁.extBut _ _ hDC (Heap.get?_push_of_some _ (hH2 ▸ Heap.get?_push_size _ rfl))
  have nD:H s.heap.objs.size=none:=I.aA.fresh (Nat.le_refl _)
  have nC:H G2.objs.size=none:=I.aA.fresh hCle
  obtain⟨W,⟨m0,w0⟩,turn⟩:=h s.heap.objs.size nD
  generalize hXb:bB X scope G2.objs.size (ts++fr) fp s H=Xb
  have Ib:∀ tk,Inv Xb [] (dZ ts.length js σ) (upd H s.heap.objs.size (.lst [])) { s with heap:=h₁,toks:=tk }:=by
    intro tk
    subst hXb
    refine⟨mD I hkind hcell hf hCle hfp hlt,rfl,I.bare,Un.laid old (Nat.le_refl _) nD,⟨_,hns₁,fun i x v e1 e2 e3=>?_⟩,fun x c e=>?_,?_,fun x c e=>?_,fun p hp=>absurd (show p ∈ ([]:List (Addr × Obj)) from hp) (by simp),I.aA.laid old (Nat.le_refl _) ⟨by show 0<=sizeLine;decide,[],_,.nil,hacc⟩,?_⟩
    · have hi:ts.length<=i:=by
        refine Nat.le_of_not_lt fun hi=>?_
        unfold dZ at e2
        rw [List.getElem?_append_left (by simpa using hi),List.getElem?_replicate] at e2
        split at e2 <;> cases e2
      have e1':fr[i - ts.length]? = some x:=by
        have e1'':(ts++fr)[i]? = some x:=e1
        rw [List.getElem?_append_right hi] at e1''
        exact e1''
      unfold dZ at e2
      rw [List.getElem?_append_right (by simpa using hi),List.length_replicate,List.getElem?_map] at e2
      cases ej:js[i - ts.length]? with
      | none=>rw [ej] at e2;cases e2
      | some j =>
        rw [ej] at e2
        have e2':σ.getD j none=some v:=by simpa using e2
        obtain⟨q1,q2,q3⟩:=hfr.get e1' ej
        have e2'':σ[j]? = some (some v):=by
          rw [List.getD_eq_getElem?_getD] at e2'
          cases ez:σ[j]? with
          | none=>rw [ez] at e2';cases e2'
          | some z=>rw [ez] at e2';rw [show z=some v from e2']
        obtain⟨m,hn,hl⟩:=I.loc
        obtain⟨u,r,l⟩:=hl j x v q1 e2'' (by
          rcases q2 with q2 | q2
          · exact .inr (.inl q2)
          · exact .inr (.inr q2))
        refine⟨u,r,.inr ⟨fo q3,?_⟩⟩
        rcases l with ⟨l,_⟩ | ⟨_,c,lc,lv⟩
        · rcases q2 with q2 | q2 <;> (rw [l] at q2;cases q2)
        · obtain⟨c',hc'⟩:=hZ (cells:=X.env.cells) scope.names [] (.inl (PySem.mem_of_lookup q3))
          have:=ag x c' hc'
          rw [lc] at this
          cases this
          obtain⟨o,ho,hd⟩:=lv
          exact⟨c,hc',o,old _ _ ho,hd⟩
    · obtain⟨v,o,ho,hd⟩:=I.cell x c (ag x c e)
      exact⟨v,o,old _ _ ho,hd⟩
    · show upd H s.heap.objs.size (.lst []) G2.objs.size=none
      rw [ae hDC.symm];exact nC
    · obtain⟨v,o,ho,hd⟩:=I.cell x c (ag x c e)
      rw [ae (Nat.ne_of_lt (Heap.lt_size ho))]
      exact I.cV x c (ag x c e)
    · show (dZ ts.length js σ).length=(ts++fr).length
      unfold dZ
      rw [List.length_append,List.length_replicate,List.length_map,List.length_append,hfr.len]
  have fpB:∀ {H':Hp},(∀ b ∈ fp,H' b=none)->∀ b ∈ fp,dW Xb [] H' b:=fun {H'} hn b hb=>by
    subst hXb
    obtain⟨h1,h2,h3,h4,h5,h6⟩:=hfp b hb
    refine⟨hn b hb,(below b (hlt b hb)).1,fun z=>?_,.inl hb,fun x c e=>h5 x c (ag x c e),fun p hp=>absurd (show p ∈ ([]:List (Addr × Obj)) from hp) (by simp)⟩
    rcases List.mem_cons.mp (I.hG b z) with z | z
    · exact h2 z
    · exact h3 z
  have fin:∀ {τ : St} {H':Hp} {s':Shared},Inv Xb [] τ H' s'->Q (.ref s.heap.objs.size) H'->RR (.ref s.heap.objs.size) G2.objs.size (.ok .next) s':=fun {τ H' s'} Jb q=>by
    subst hXb
    obtain⟨m,hn,_⟩:=Jb.loc
    refine hRR _ _ H' s' m (I.oW (ch:=fp) Jb.os Jb.base Jb.aA Jb.bare fun b hb=>?_) hn Jb.free hCle q
    obtain⟨h1,h2,h3,h4,h5,h6⟩:=hfp b hb
    exact⟨h4,h2,h5,h6⟩
  have loop:∀ tk,codeAny (model X.prog X.w) X.A (.compLoop (E2 elt tg iter ifs t2 i2 f2 scope pos) 0 (.ref it) (.ref s.heap.objs.size) (compEnvC scope (eR X.env.cells scope.names []) G2.objs.size X.env))
        (RR (.ref s.heap.objs.size) G2.objs.size) { s with heap:=h₁,toks:=tk }:=by
    intro tk
    refine fB (fun n s'=>∃ i ys τ H',Inv Xb [] τ H' s'/\tn i s'.heap/\(∀ b ∈ fp,H' b=none)/\W i n ys τ H') (lR ..) rfl rfl rfl ?_ m0 ⟨0,[],_,_,Ib tk,T.keep _ _ _ st fun b hb o e=>old b o e,fun b hb=>?_,w0⟩
    · rintro n s3 ⟨i,ys,τ,H3,I3,st3,fr3,w3⟩
      have htg':=htg G2.objs.size fp s H
      have hct':=hct G2.objs.size fp s H
      have htm':=htm G2.objs.size fp s H s.heap.objs.size
      rw [hXb] at htg' hct' htm'
      have eP:Xb.prog=X.prog:=by subst hXb;rfl
      have ew:Xb.w=X.w:=by subst hXb;rfl
      have eK:Xb.K=X.K:=by subst hXb;rfl
      have eA:Xb.A=X.A:=by subst hXb;rfl
      have ec:Xb.calm=true:=by subst hXb;exact hc
      have ee:Xb.env=compEnvC scope (eR X.env.cells scope.names []) G2.objs.size X.env:=by subst hXb;rfl
      have ex:Xb.xe=fun _ _=>False:=by subst hXb;rfl
      rw [<-eP,<-ew,<-eA,<-ee]
      have turn':=turn i n ys τ H3 w3
      rcases turn' with ⟨stop,q⟩ | ⟨go,N,hN,step⟩
      · have hd:=T.done Xb eP ew eK ec i [] s3 τ H3 (fun _ _=>False) I3 (fpB fr3) st3 stop
        rw [<-eP,<-ew] at hd
        refine wpAny_mono hd (fun r s4 hr4=>?_) fun _ _ z=>z
        obtain⟨hr,I4⟩:=hr4
        subst hr
        exact fin I4 q
      · have hd:=T.item Xb eP ew eK ec i [] s3 τ H3 (fun _ _=>False) I3 (fpB fr3) st3 go
        rw [<-eP,<-ew] at hd
        refine wpAny_mono hd (fun r s4 hr4=>?_) fun _ _ z=>z
        obtain⟨u,hr,h4⟩:=hr4
        subst hr
        refine wpAny_mono h4 (fun _ s5 ⟨x,H5,I5,r5,y5,st5,fr5⟩=>?_) fun _ _ z=>z
        have I5':=I5.pinned (fpB fr5) (T.obj _ _ st5)
        have keepT:∀ {σ7:St} {H7:Hp} {s7:Shared},Inv Xb ([] ++ fM fp s5.heap) σ7 H7 s7->tn (i+1) s7.heap/\∀ b ∈ fp,H7 b=none:=fun {σ7 H7 s7} I7=>by
          refine⟨T.keep _ _ _ st5 fun b hb o e=>(I7.pin (b,o) (List.mem_append_right _ (List.mem_append_right _ (bW hb e)))).1,fun b hb=>?_⟩
          obtain⟨o,e,d⟩:=T.obj _ _ st5 b hb
          exact (I7.pin (b,o) (List.mem_append_right _ (List.mem_append_right _ (bW hb e)))).2.1
        refine wpAny_mono (htg' _ s5 τ H5 x u _ I5' r5 (step x H5 y5)) (fun _ s6 ⟨τ6,H6,I6,q6⟩=>?_) (fun _ _ z=>by rw [ex] at z;exact z)
        refine wpAny_mono (hct' _ s6 τ6 H6 _ I6 q6) (fun ok s7 ⟨H7,I7,q7⟩=>?_) (fun _ _ z=>by rw [ex] at z;exact z)
        cases ok with
        | false =>
          have q7':N ys τ6 H7:=by rw [if_neg (by simp)] at q7;exact q7
          rw [if_neg (by simp)]
          obtain⟨m',hm,w7⟩:=hN _ _ _ q7'
          exact⟨m',hm,i+1,ys,τ6,H7,I7.cI,(keepT I7).1,(keepT I7).2,w7⟩
        | true =>
          rw [if_pos rfl] at q7 ⊢
          refine wpAny_mono (htm' _ s7 τ6 H7 ys _ I7 q7) (fun _ s8 ⟨ys8,τ8,H8,I8,n8⟩=>?_) (fun _ _ z=>by rw [ex] at z;exact z)
          obtain⟨m',hm,w8⟩:=hN _ _ _ n8
          exact⟨m',hm,i+1,_,τ8,_,I8.cI,(keepT I8).1,(keepT I8).2,w8⟩
    · rw [ae (Nat.ne_of_lt (hlt b hb))]
      exact (hfp b hb).1
  exact codeAny_compStart_list (loop _) (T.self _ 0 _ _ _ (T.keep _ _ _ st fun b hb o e=>old b o e) (loop _))
theorem qK {tg elt iter:Expr} {ifs:List Expr} {t2 i2:Expr} {f2:List Expr} {scope:Scope} {wi:TI} {g:TG} {ct:TT} {tm:TM} {i:Nat} {y:Str} {py spos:Pos} (ts fr:List Str) (js:List Nat)
  (hsw:swapsWith (E2 elt tg iter ifs t2 i2 f2 scope pos) (some (.Name y py)) spos.line X.env=pure true) (hN:X.N.Nodup) (hi0:X.N[i]? = some y) (hx:X.env.scope.names.lookup y=some .local)
  (hc:X.calm=true) (hi:PI X tg iter wi) (hkind:scope.kind=.function) (hcell:∀ y ∈ scope.names,y.2 ≠ .cell) (hnames:∀ y ∈ scope.names,y.2=.local->scope.names.lookup y.1=some .local)
  (hfree0:∀ y ∈ scope.names,y.2=.free->y.1 ∈ fr) (hfr:d7 X scope fr js)
  (htg:∀ C fp s₁ H₁,PG (bB X scope C (ts++fr) fp s₁ H₁) tg g) (hct:∀ C fp s₁ H₁,i5 (bB X scope C (ts++fr) fp s₁ H₁) ifs ct) (htm:∀ C fp s₁ H₁ acc,PM (bB X scope C (ts++fr) fp s₁ H₁) acc (mW (E2 elt tg iter ifs t2 i2 f2 scope pos) i2 (.ref acc) (bB X scope C (ts++fr) fp s₁ H₁).env) tm)
  (hs:∀ x,foldedSetIterable iter X.env x=pure x:=by intro _;rfl):PS X (.Assign [.Name y py] (E2 elt tg iter ifs t2 i2 f2 scope pos) spos) (oZ (x9 ts.length js wi g ct tm) (j4 i)):=by
 have hfree:∀ y ∈ scope.names,y.2=.free->X.env.kindOf y.1=some .cell\/X.env.kindOf y.1=some .free:=fun y hy e=>hfr.mem (hfree0 y hy e)
 intro pins s σ H D I h
 rw [exec_Assign_Name_used _ _ _ _ hsw]
 refine wpAny_bind (wpAny_standAt (wpAny_bind ?_))
 show wpAny _ X.A (do let _ <-comprehension (E2 elt tg iter ifs t2 i2 f2 scope pos) scope X.env _ (newList []) false (eval iter X.env) (some (assign (.Name y py) X.env))) _ _ s
 refine wpAny_bind (wpAny_mono (wpAny_comprehension_free (use:=some (assign (.Name y py) X.env)) (Q:=fun _ s'=>SP X pins D .next s') rfl hs (fX fun y hy e=>I.ok.has y.1 (hfree y hy e)) hkind hnames
  (aH (hi pins s σ H _ I h) fun xv s1 h1=>aH h1 fun itv s2 h2=>?_)) (fun _ s' hq=>wpAny_pure (wpAny_pure hq)) fun _ _ e=>e)
 obtain⟨it,fp,tn,J,H2,e,I2,T,st2,f2,hW⟩:=h2
 subst e
 refine ui (Q:=fun v H'=>D.nx (σ.set i (some v)) H') (RR:=fun acc C=>compPost (model X.prog X.w) X.A X.xe (some (assign (.Name y py) X.env)) (fun _ s'=>SP X pins D .next s') acc C) hc hkind hcell hfree hfr htg hct htm I2 T st2 f2 hW ?_
 intro acc C H' s' m I' hn hC hle q
 show wpAny _ X.A (assign (.Name y py) X.env (.ref acc)) _ _ _
 refine wpAny_assign_Name (iW I' hN hi0 (.inl hx) (v:=.ref acc) rfl (fun s'' I'' hch=>?_) (.inr hx))
 obtain⟨h1,h2,h3,h4,h5,h6⟩:=I2.gx (H':=H') hle hC
 obtain⟨a,hsb,ha⟩:=hch
 refine⟨m,hn.sameBut hsb ?_,fun h' hsb'=>⟨_,H',I2.ke I'' hC hle hsb',q⟩⟩
 rcases ha with ha | ha
 ·rw [ha];exact h2
 ·exact fun z=>h5 y a ha z.symm
end
def vJ (J:It) (n:Nat) (js:List Nat) (g:TG) (ct:TT) (tk tv:TE) (acc:Addr) (σ : St) (H1:Hp) (Q:VK):Prop :=
 ∃ W:Nat->Nat->List (Key × V)->St->Hp->Prop,(∃ m,W 0 m [] (dZ n js σ) (upd H1 acc (.dK [])))/\∀ i m ys τ H2,W i m ys τ H2->H2 acc=some (.dK ys)/\ys.length < sizeLine /\
  ((J.stop i H2/\Q (.ref acc) H2)\/(J.go i H2/\∃ N:List (Key × V)->St->Hp->Prop,(∀ ys' τ' H',N ys' τ' H'->∃ m',m' < m/\W (i+1) m' ys' τ' H')/\∀ x H3,J.iX i H2 x H3->g x τ H3 fun τ1 H4=>ct τ1 H4 fun b H5 =>
   if b=true then tk τ1 H5 fun x1 H6=>tv τ1 H6 fun y H7=>∃ k,x1=kV k/\H7 acc=some (.dK ys)/\N (putK ys k y) τ1 (upd H7 acc (.dK (putK ys k y))) else N ys τ1 H5))
def ya (n:Nat) (js:List Nat) (wi:TI) (g:TG) (ct:TT) (tk tv:TE):TE:=fun σ H Q=>wi σ H fun J H1=>∀ acc,H1 acc=none->vJ J n js g ct tk tv acc σ H1 Q
section
variable {X:Cx} {pos:Pos}
theorem iS {prog:Program} {w:World} {A:Around} {R:Result->Shared->Prop} {s:Shared} {kx vx target iter:Expr} {ifs:List Expr} {scope:Scope} {pos:Pos} {it:Value} {D:Addr} {env:Env} (I:Nat->Shared->Prop)
  (turn:∀ n s,I n s->wpAny (model prog w) A (pyNext it) (fun r s₁=>match r with
   | none=>R (.ok .next) s₁
   | some v=>wpAny (model prog w) A (letOwnedTupleGo target it v) (fun _ s₁'=>wpAny (model prog w) A (assign target env v) (fun _ s₂ =>
     wpAny (model prog w) A (forIn ifs true fun c r=>if r=true then do let ok <-isTrue c env (eval c env);pure (ForInStep.yield ok) else pure (ForInStep.yield r)) (fun ok s₃ =>
      if ok=true then wpAny (model prog w) A (eval kx env) (fun kv s₄=>wpAny (model prog w) A (eval vx env) (fun vv s₅ =>
       wpAny (model prog w) A (dictSet D kv vv) (fun _ s₆=>∃ m,m < n/\I m s₆) (fun _ _=>False) s₅) (fun _ _=>False) s₄) (fun _ _=>False) s₃
      else ∃ m,m < n/\I m s₃) (fun _ _=>False) s₂) (fun _ _=>False) s₁') (fun _ _=>False) s₁) (fun _ _=>False) s)
  (n:Nat) (h:I n s) :
  codeAny (model prog w) A (.compLoop (.DictComp kx vx [⟨target,iter,ifs,0⟩] scope pos) 0 it (.ref D) env) R s:=by
 refine codeAny_loop rfl I (fun n s hI=>?_) n h
 show wpAny _ A ((compTurn (.DictComp kx vx [⟨target,iter,ifs,0⟩] scope pos) 0 it (.ref D) env).onRaise (fun x=>do noteFrame x env;theTreesLotGoes x)) _ _ s
 refine wpAny_noted ?_
 rw [compTurn_dict]
 refine wpAny_bind (wpAny_standAt (wpAny_bind (wpAny_mono (turn n s hI) (fun r s₁ h₁=>?_) fun _ _ h'=>h'.elim)))
 cases r with
 | none=>exact wpAny_pure h₁
 | some v =>
  refine wpAny_bind (wpAny_mono h₁ (fun _ s₁' h₁'=>?_) fun _ _ h'=>h'.elim)
  refine wpAny_bind (wpAny_mono h₁' (fun _ s₂ h₂=>wpAny_bind (wpAny_mono h₂ (fun ok s₃ h₃=>?_) fun _ _ h'=>h'.elim)) fun _ _ h'=>h'.elim)
  cases ok with
  | false=>exact wpAny_pure ⟨rfl,h₃⟩
  | true =>
   exact wpAny_bind (wpAny_bind (wpAny_mono h₃ (fun kv s₄ h₄=>wpAny_bind (wpAny_holding (wpAny_mono h₄ (fun vv s₅ h₅=>wpAny_bind (wpAny_standAt (wpAny_holding (wpAny_mono h₅ (fun _ s₆ h₆=>wpAny_pure ⟨rfl,h₆⟩) fun _ _ h'=>h'.elim)))) fun _ _ h'=>h'.elim))) fun _ _ h'=>h'.elim))
theorem uj {pins:List (Addr × Obj)} {σ : St} {H:Hp} {s:Shared} {E:Value->Shared->Prop} {tg kx vx iter:Expr} {ifs:List Expr} {scope:Scope} {g:TG} {ct:TT} {tk tv:TE} {ts fr:List Str} {js:List Nat}
    {it:Addr} {fp:List Addr} {tn:Nat->Heap->Prop} {J:It} {Q:VK} {RR:Value->Addr->Result->Shared->Prop}
    (hc:X.calm=true) (hkind:scope.kind=.function) (hcell:∀ y ∈ scope.names,y.2 ≠ .cell) (hfree:∀ y ∈ scope.names,y.2=.free->X.env.kindOf y.1=some .cell\/X.env.kindOf y.1=some .free)
    (hfr:d7 X scope fr js) (htg:∀ C fp s₁ H₁,PG (bB X scope C (ts++fr) fp s₁ H₁) tg g) (hct:∀ C fp s₁ H₁,i5 (bB X scope C (ts++fr) fp s₁ H₁) ifs ct) (htk:∀ C fp s₁ H₁,PE (bB X scope C (ts++fr) fp s₁ H₁) kx tk) (htv:∀ C fp s₁ H₁,PE (bB X scope C (ts++fr) fp s₁ H₁) vx tv)
    (I:Inv X pins σ H s) (T:Turn X.prog X.w X.K tg J fp it tn) (st:tn 0 s.heap) (hfp:∀ b ∈ fp,dW X pins H b)
    (h:∀ acc,H acc=none->vJ J ts.length js g ct tk tv acc σ H Q)
    (hRR:∀ acc C H' s' m,Inv X pins σ H' s'->s'.heap.Ns C m->H' C=none->s.heap.objs.size<=C->Q (.ref acc) H'->RR (.ref acc) C (.ok .next) s') :
    wpAny (model X.prog X.w) X.A newDict (fun acc s₃=>wpAny (model X.prog X.w) X.A (newFunctionEnv scope X.env.globals (eR X.env.cells scope.names []) [] X.env.qual none .none (some X.env)) (fun cenv s₄ =>
      codeAny (model X.prog X.w) X.A (.compStart (.DictComp kx vx [⟨tg,iter,ifs,0⟩] scope pos) 0 (.ref it) acc { cenv with scope:=relabel scope X.env }) (RR acc cenv.locals) s₄) E s₃) E s:=by
  have hf:∀ y ∈ scope.names,y.2=.free->∃ c,X.env.cells.lookup y.1=some c:=fun y hy e=>I.ok.has y.1 (hfree y hy e)
  have ag:∀ x c,(eR X.env.cells scope.names []).lookup x=some c->X.env.cells.lookup x=some c:=fO scope.names [] hf fun x c e=>by simp at e
  have hlt:∀ b ∈ fp,b < s.heap.objs.size:=fun b hb=>by
    obtain⟨o,e,_⟩:=T.obj _ _ st b hb
    exact Heap.lt_size e
  refine wpAny_newObj_type (wpAny_newFunctionEnv hcell (by intro y hy;simp at hy) (fun h₁ hns₁ hsb₁=>?_) hkind)
  dsimp only at hns₁ hsb₁ ⊢
  have hnew:(s.heap.push { cls:=.type "dict",dict:=none,data:=.dict #[] }).DictOf (ax X.prog X.w) s.heap.objs.size []:=Heap.DictOf.new s.heap
  generalize hH2:s.heap.push { cls:=.type "dict",dict:=none,data:=.dict #[] }=G2 at hns₁ hsb₁ hnew ⊢
  have hC:G2.objs.size=s.heap.objs.size+1:=by rw [<-hH2,Heap.size_push]
  have hDC:s.heap.objs.size ≠ G2.objs.size:=by rw [hC];exact Nat.ne_of_lt (Nat.lt_succ_self _)
  have hCle:s.heap.objs.size<=G2.objs.size:=by rw [hC];exact Nat.le_succ _
  have below:∀ b,b < s.heap.objs.size->b ≠ G2.objs.size/\b ≠ s.heap.objs.size:=fun b hb=>⟨by rw [hC];exact Nat.ne_of_lt (Nat.lt_succ_of_lt hb),Nat.ne_of_lt hb⟩
  have old:∀ b o,s.heap.get? b=some o->h₁.get? b=some o:=fun b o e=>hsb₁.extBut b o (below b (Heap.lt_size e)).1 (Heap.get?_push_of_some _ (hH2 ▸ Heap.get?_push_of_some _ e))
  have hacc:h₁.DictOf (ax X.prog X.w) s.heap.objs.size []:=hnew.at fun o e=>hsb₁.extBut _ _ hDC (Heap.get?_push_of_some _ e)
  have nD:H s.heap.objs.size=none:=I.aA.fresh (Nat.le_refl _)
  have nC:H G2.objs.size=none:=I.aA.fresh hCle
  obtain⟨W,⟨m0,w0⟩,turn⟩:=h s.heap.objs.size nD
  generalize hXb:bB X scope G2.objs.size (ts++fr) fp s H=Xb
  have Ib:∀ tk,Inv Xb [] (dZ ts.length js σ) (upd H s.heap.objs.size (.dK [])) { s with heap:=h₁,toks:=tk }:=by
    intro tk
    subst hXb
    refine⟨mD I hkind hcell hf hCle hfp hlt,rfl,I.bare,Un.laid old (Nat.le_refl _) nD,⟨_,hns₁,fun i x v e1 e2 e3=>?_⟩,fun x c e=>?_,?_,fun x c e=>?_,fun p hp=>absurd (show p ∈ ([]:List (Addr × Obj)) from hp) (by simp),I.aA.laid old (Nat.le_refl _) (ib (Nat.zero_le _) (beq_eq_false_iff_ne.mpr (Ne.symm (Nat.ne_of_lt I.big))) .nil hacc),?_⟩
    · have hi:ts.length<=i:=by
        refine Nat.le_of_not_lt fun hi=>?_
        unfold dZ at e2
        rw [List.getElem?_append_left (by simpa using hi),List.getElem?_replicate] at e2
        split at e2 <;> cases e2
      have e1':fr[i - ts.length]? = some x:=by
        have e1'':(ts++fr)[i]? = some x:=e1
        rw [List.getElem?_append_right hi] at e1''
        exact e1''
      unfold dZ at e2
      rw [List.getElem?_append_right (by simpa using hi),List.length_replicate,List.getElem?_map] at e2
      cases ej:js[i - ts.length]? with
      | none=>rw [ej] at e2;cases e2
      | some j =>
        rw [ej] at e2
        have e2':σ.getD j none=some v:=by simpa using e2
        obtain⟨q1,q2,q3⟩:=hfr.get e1' ej
        have e2'':σ[j]? = some (some v):=by
          rw [List.getD_eq_getElem?_getD] at e2'
          cases ez:σ[j]? with
          | none=>rw [ez] at e2';cases e2'
          | some z=>rw [ez] at e2';rw [show z=some v from e2']
        obtain⟨m,hn,hl⟩:=I.loc
        obtain⟨u,r,l⟩:=hl j x v q1 e2'' (by
          rcases q2 with q2 | q2
          · exact .inr (.inl q2)
          · exact .inr (.inr q2))
        refine⟨u,r,.inr ⟨fo q3,?_⟩⟩
        rcases l with ⟨l,_⟩ | ⟨_,c,lc,lv⟩
        · rcases q2 with q2 | q2 <;> (rw [l] at q2;cases q2)
        · obtain⟨c',hc'⟩:=hZ (cells:=X.env.cells) scope.names [] (.inl (PySem.mem_of_lookup q3))
          have:=ag x c' hc'
          rw [lc] at this
          cases this
          obtain⟨o,ho,hd⟩:=lv
          exact⟨c,hc',o,old _ _ ho,hd⟩
    · obtain⟨v,o,ho,hd⟩:=I.cell x c (ag x c e)
      exact⟨v,o,old _ _ ho,hd⟩
    · show upd H s.heap.objs.size (.dK []) G2.objs.size=none
      rw [ae hDC.symm];exact nC
    · obtain⟨v,o,ho,hd⟩:=I.cell x c (ag x c e)
      rw [ae (Nat.ne_of_lt (Heap.lt_size ho))]
      exact I.cV x c (ag x c e)
    · show (dZ ts.length js σ).length=(ts++fr).length
      unfold dZ
      rw [List.length_append,List.length_replicate,List.length_map,List.length_append,hfr.len]
  have fpB:∀ {H':Hp},(∀ b ∈ fp,H' b=none)->∀ b ∈ fp,dW Xb [] H' b:=fun {H'} hn b hb=>by
    subst hXb
    obtain⟨h1,h2,h3,h4,h5,h6⟩:=hfp b hb
    refine⟨hn b hb,(below b (hlt b hb)).1,fun z=>?_,.inl hb,fun x c e=>h5 x c (ag x c e),fun p hp=>absurd (show p ∈ ([]:List (Addr × Obj)) from hp) (by simp)⟩
    rcases List.mem_cons.mp (I.hG b z) with z | z
    · exact h2 z
    · exact h3 z
  have fin:∀ {τ : St} {H':Hp} {s':Shared},Inv Xb [] τ H' s'->Q (.ref s.heap.objs.size) H'->RR (.ref s.heap.objs.size) G2.objs.size (.ok .next) s':=fun {τ H' s'} Jb q=>by
    subst hXb
    obtain⟨m,hn,_⟩:=Jb.loc
    refine hRR _ _ H' s' m (I.oW (ch:=fp) Jb.os Jb.base Jb.aA Jb.bare fun b hb=>?_) hn Jb.free hCle q
    obtain⟨h1,h2,h3,h4,h5,h6⟩:=hfp b hb
    exact⟨h4,h2,h5,h6⟩
  have loop:∀ tk,codeAny (model X.prog X.w) X.A (.compLoop (.DictComp kx vx [⟨tg,iter,ifs,0⟩] scope pos) 0 (.ref it) (.ref s.heap.objs.size) (compEnvC scope (eR X.env.cells scope.names []) G2.objs.size X.env))
        (RR (.ref s.heap.objs.size) G2.objs.size) { s with heap:=h₁,toks:=tk }:=by
    intro tk
    refine iS (fun n s'=>∃ i ys τ H',Inv Xb [] τ H' s'/\tn i s'.heap/\(∀ b ∈ fp,H' b=none)/\W i n ys τ H') ?_ m0 ⟨0,[],_,_,Ib tk,T.keep _ _ _ st fun b hb o e=>old b o e,fun b hb=>?_,w0⟩
    · rintro n s3 ⟨i,ys,τ,H3,I3,st3,fr3,w3⟩
      have htg':=htg G2.objs.size fp s H
      have hct':=hct G2.objs.size fp s H
      have htk':=htk G2.objs.size fp s H
      have htv':=htv G2.objs.size fp s H
      rw [hXb] at htg' hct' htk' htv'
      have eP:Xb.prog=X.prog:=by subst hXb;rfl
      have ew:Xb.w=X.w:=by subst hXb;rfl
      have eK:Xb.K=X.K:=by subst hXb;rfl
      have eA:Xb.A=X.A:=by subst hXb;rfl
      have ec:Xb.calm=true:=by subst hXb;exact hc
      have ee:Xb.env=compEnvC scope (eR X.env.cells scope.names []) G2.objs.size X.env:=by subst hXb;rfl
      have ex:Xb.xe=fun _ _=>False:=by subst hXb;rfl
      rw [<-eP,<-ew,<-eA,<-ee]
      obtain⟨ha,hl,turn'⟩:=turn i n ys τ H3 w3
      rcases turn' with ⟨stop,q⟩ | ⟨go,N,hN,step⟩
      · have hd:=T.done Xb eP ew eK ec i [] s3 τ H3 (fun _ _=>False) I3 (fpB fr3) st3 stop
        rw [<-eP,<-ew] at hd
        refine wpAny_mono hd (fun r s4 hr4=>?_) fun _ _ z=>z
        obtain⟨hr,I4⟩:=hr4
        subst hr
        exact fin I4 q
      · have hd:=T.item Xb eP ew eK ec i [] s3 τ H3 (fun _ _=>False) I3 (fpB fr3) st3 go
        rw [<-eP,<-ew] at hd
        refine wpAny_mono hd (fun r s4 hr4=>?_) fun _ _ z=>z
        obtain⟨u,hr,h4⟩:=hr4
        subst hr
        refine wpAny_mono h4 (fun _ s5 ⟨x,H5,I5,r5,y5,st5,fr5⟩=>?_) fun _ _ z=>z
        have I5':=I5.pinned (fpB fr5) (T.obj _ _ st5)
        have keepT:∀ {σ7:St} {H7:Hp} {s7:Shared},Inv Xb ([] ++ fM fp s5.heap) σ7 H7 s7->tn (i+1) s7.heap/\∀ b ∈ fp,H7 b=none:=fun {σ7 H7 s7} I7=>by
          refine⟨T.keep _ _ _ st5 fun b hb o e=>(I7.pin (b,o) (List.mem_append_right _ (List.mem_append_right _ (bW hb e)))).1,fun b hb=>?_⟩
          obtain⟨o,e,d⟩:=T.obj _ _ st5 b hb
          exact (I7.pin (b,o) (List.mem_append_right _ (List.mem_append_right _ (bW hb e)))).2.1
        refine wpAny_mono (htg' _ s5 τ H5 x u _ I5' r5 (step x H5 y5)) (fun _ s6 ⟨τ6,H6,I6,q6⟩=>?_) (fun _ _ z=>by rw [ex] at z;exact z)
        refine wpAny_mono (hct' _ s6 τ6 H6 _ I6 q6) (fun ok s7 ⟨H7,I7,q7⟩=>?_) (fun _ _ z=>by rw [ex] at z;exact z)
        cases ok with
        | false =>
          have q7':N ys τ6 H7:=by rw [if_neg (by simp)] at q7;exact q7
          rw [if_neg (by simp)]
          obtain⟨m',hm,w7⟩:=hN _ _ _ q7'
          exact⟨m',hm,i+1,ys,τ6,H7,I7.cI,(keepT I7).1,(keepT I7).2,w7⟩
        | true =>
          rw [if_pos rfl] at q7 ⊢
          refine wpAny_mono (htk' _ s7 τ6 H7 _ I7 q7) (fun kv s8 ⟨x8,H8,I8,r8,q8⟩=>?_) (fun _ _ z=>by rw [ex] at z;exact z)
          refine wpAny_mono (htv' _ s8 τ6 H8 _ I8 q8) (fun v s9 ⟨y,H9,I9,r9,k,ek,ha9,n9⟩=>?_) (fun _ _ z=>by rw [ex] at z;exact z)
          subst ek
          obtain⟨z,hd,vs,rel,dd⟩:=kn I9.aA ha9
          have hz:vs.length<=sizeLine:=by rw [<-rel.length];exact z
          have hl9:(putK ys k y).length<=sizeLine:=by have:=cT ys k y;omega
          refine wpAny_dictSet_pairs (hsz:=hz) (jo r8) dd fun h' dd' hs=>?_
          have he:∃ q,h'.get? s.heap.objs.size=some q:=let ⟨q,_,_,hq,_⟩:=dd';⟨q,hq⟩
          have I10:=fun tk=>jq (t':=tk) I9 (by rw [ha9];exact True.intro) hs he (ib hl9 hd (rel.put k r9) dd')
          obtain⟨m',hm,w8⟩:=hN _ _ _ n9
          exact⟨m',hm,i+1,_,τ6,_,(I10 (s9.toks+1)).cI,(keepT (I10 (s9.toks+1))).1,(keepT (I10 (s9.toks+1))).2,w8⟩
    · rw [ae (Nat.ne_of_lt (hlt b hb))]
      exact (hfp b hb).1
  exact codeAny_compStart_dict (loop _) (T.self _ 0 _ _ _ (T.keep _ _ _ st fun b hb o e=>old b o e) (loop _))
theorem sr {tg kx vx iter:Expr} {ifs:List Expr} {scope:Scope} {wi:TI} {g:TG} {ct:TT} {tk tv:TE} (ts fr:List Str) (js:List Nat)
  (hc:X.calm=true) (hi:PI X tg iter wi) (hkind:scope.kind=.function) (hcell:∀ y ∈ scope.names,y.2 ≠ .cell) (hnames:∀ y ∈ scope.names,y.2=.local->scope.names.lookup y.1=some .local)
  (hfree0:∀ y ∈ scope.names,y.2=.free->y.1 ∈ fr) (hfr:d7 X scope fr js)
  (htg:∀ C fp s₁ H₁,PG (bB X scope C (ts++fr) fp s₁ H₁) tg g) (hct:∀ C fp s₁ H₁,i5 (bB X scope C (ts++fr) fp s₁ H₁) ifs ct) (htk:∀ C fp s₁ H₁,PE (bB X scope C (ts++fr) fp s₁ H₁) kx tk) (htv:∀ C fp s₁ H₁,PE (bB X scope C (ts++fr) fp s₁ H₁) vx tv)
  (hs:∀ x,foldedSetIterable iter X.env x=pure x:=by intro _;rfl):PE X (.DictComp kx vx [⟨tg,iter,ifs,0⟩] scope pos) (ya ts.length js wi g ct tk tv):=by
 have hfree:∀ y ∈ scope.names,y.2=.free->X.env.kindOf y.1=some .cell\/X.env.kindOf y.1=some .free:=fun y hy e=>hfr.mem (hfree0 y hy e)
 intro pins s σ H Q I h
 rw [arm_eval_DictComp]
 refine wpAny_comprehension_free (use:=none) rfl hs (fX fun y hy e=>I.ok.has y.1 (hfree y hy e)) hkind hnames (aH (hi pins s σ H _ I h) fun xv s1 h1=>aH h1 fun itv s2 h2=>?_)
 obtain⟨it,fp,tn,J,H2,e,I2,T,st2,f2,hW⟩:=h2
 subst e
 refine uj (RR:=fun acc C=>compPost (model X.prog X.w) X.A X.xe none (EP X pins σ Q) acc C) hc hkind hcell hfree hfr htg hct htk htv I2 T st2 f2 hW ?_
 intro acc C H' s' m I' hn hC hle q
 exact⟨m,hn,fun h' hsb=>⟨.ref acc,H',I2.ke I' hC hle hsb,rfl,q⟩⟩
end
theorem uk {K:PySem.W.Frag} {a acc:Addr} {xs:List V} {n:Nat} {js:List Nat} {g:TG} {ct:TT} {tk tv:TE} {σ : St} {H1:Hp} {Q:VK} (Pv:Nat->List (Key × V)->St->Hp->Prop) (h0:Pv 0 [] (dZ n js σ) (upd H1 acc (.dK [])))
  (hl:∀ i ys τ H,i<=xs.length->Pv i ys τ H->av K H a xs/\H acc=some (.dK ys)/\ys.length < sizeLine)
  (hs:∀ i x ys τ H,xs[i]? = some x->Pv i ys τ H->g x τ H fun τ1 H4=>ct τ1 H4 fun b H5=>if b=true then tk τ1 H5 fun x1 H6=>tv τ1 H6 fun y H7=>∃ k,x1=kV k/\H7 acc=some (.dK ys)/\Pv (i+1) (putK ys k y) τ1 (upd H7 acc (.dK (putK ys k y))) else Pv (i+1) ys τ1 H5)
  (hd:∀ ys τ H,Pv xs.length ys τ H->Q (.ref acc) H) :
  vJ (mq K a) n js g ct tk tv acc σ H1 Q:=by
 refine⟨fun i m ys τ H=>m=xs.length - i/\i<=xs.length/\Pv i ys τ H,⟨xs.length,by simp,Nat.zero_le _,h0⟩,?_⟩
 rintro i m ys τ H ⟨rfl,hi,p⟩
 obtain⟨q,q2,q3⟩:=hl i ys τ H hi p
 refine⟨q2,q3,?_⟩
 by_cases hlt:i < xs.length
 ·refine .inr ⟨⟨xs,xs[i],q,by simp [hlt]⟩,Pv (i+1),fun ys' τ' H' p'=>⟨xs.length - (i+1),by omega,rfl,hlt,p'⟩,fun x H' y=>?_⟩
  obtain⟨e,y⟩:=y
  subst e
  exact hs i x ys τ _ (y xs q) p
 ·have e:i=xs.length:=by omega
  subst e
  exact .inl ⟨⟨xs,q,Nat.le_refl _⟩,hd ys τ H p⟩
section
variable {prog:Program} {w:World} {A:Around} {E:Value->Shared->Prop} {s:Shared}
theorem lM (hh:A.handled=none) (it l:Addr) (hne:l ≠ it) (its:Array Value):Draws prog w A it [it,l] its.size (fun i v=>its[i]? = some v) (fun i h=>h.IsTupleIter it l i/\h.IsTuple l its) where
 live:=fun _ _ st=>let ⟨o,ho,_⟩:=st.1;⟨o,ho⟩
 frame:=fun _ _ _ st hk=>⟨st.1.at fun o e=>hk it (by simp) o e,e6 st.2 fun o e=>hk l (by simp) o e⟩
 item:=fun i s Q E hi st hQ=>kA st.1 st.2 (x:=its[i]) (by simp [hi]) fun g gi sb=>hQ _ g s.toks (by simp [hi]) ⟨gi,e6 st.2 fun o e=>sb.extBut _ _ hne e⟩ sb
 done:=fun s Q E st hE=>kX hh st.1 st.2 (by simp) hE
abbrev tE (h:Heap) (l:Addr):Heap:=h.push { cls:=.type "tuple_iterator",data:=.fields #[.ref l,.int 0 0] }
abbrev wW (h:Heap) (l:Addr):Heap:=(tE h l).push { cls:=.type "enumerate",data:=.fields #[.none,.bool false,.ref h.objs.size,rawInt 0,.none,.none] }
theorem vK (l:Addr) (its:Array Value):Meets (Builtin.«enumerate.__new__» ⟨[.type "enumerate",.ref l],[]⟩) (fun _ R s=>s.heap.IsTuple l its/\R (.ok (.ret (.ref (tE s.heap l).objs.size))) { s with heap:=wW s.heap l }) :=
 .of_wp fun P w' A' R' s' hh=>by
  obtain⟨hp,g,d,tk,os⟩:=s'
  obtain⟨gl,hh⟩:=hh
  have hsub:=sub_enumerate
  have la:Heap.IsTuple (Shared.heap ⟨hp,g,d,tk,os⟩) l its:=gl
  obtain⟨ol,el,cl,kl,dl⟩:=id gl
  wp_walk using AutoSeq1.wpAny_loadPart' el
  refine wpAny_stack_any fun st=>wpAny_pure ?_
  split
  ·rename_i c _ _ _ _ _
   cases (c == Value.type "enumerate")
   ·wp_walk using AutoSeq1.wpAny_loadPart' el,wpAny_pyIter_tuple la
    exact⟨_,rfl,hh⟩
   ·wp_walk using AutoSeq1.wpAny_loadPart' el,wpAny_pyIter_tuple la
    exact⟨_,rfl,hh⟩
  ·wp_walk using AutoSeq1.wpAny_loadPart' el,wpAny_pyIter_tuple la
   exact⟨_,rfl,hh⟩
theorem um {l:Addr} {its:Array Value} {Q:Value->Shared->Prop} (hL:s.heap.IsTuple l its)
  (h:∀ g,IsEnum g (s.heap.objs.size+1) s.heap.objs.size 0 .none->g.IsTupleIter s.heap.objs.size l 0->(∀ b o,s.heap.get? b=some o->g.get? b=some o)->Q (.ref (s.heap.objs.size+1)) { s with heap:=g }) :
  wpAny (model prog w) A (call (.type "enumerate") [.ref l]) Q E s:=by
 refine callType_new F.called_enumerate (by decide) (F.typeCall_enumerate_1 _) (F.newCall_enumerate_1 _) (fun obj=>F.args_object_init_2 obj _) F.entry_enumerate_new (vK l its) ⟨hL,?_⟩
 have hz:(tE s.heap l).objs.size=s.heap.objs.size+1:=Heap.size_push ..
 have he:IsEnum (wW s.heap l) (tE s.heap l).objs.size s.heap.objs.size 0 .none:=Heap.get?_push_size _ rfl
 show _/\_
 rw [hz] at he ⊢
 exact⟨⟨_,he,rfl⟩,h _ he ⟨_,Heap.get?_push_of_some _ (Heap.get?_push_size _ rfl),rfl,rfl⟩ fun b o x=>Heap.get?_push_of_some _ (Heap.get?_push_of_some _ x)⟩
end
def jK (Sq:Hp->Addr->List V->Prop) (a:Addr):It :=
 ⟨fun i H=>∃ xs x,Sq H a xs/\xs[i]? = some x,
  fun i H v H'=>∃ t x,v=.ref t/\H t=none/\H' = upd H t (.tup [.int (i:Nat),x])/\∀ xs,Sq H a xs->xs[i]? = some x,
  fun i H=>∃ xs,Sq H a xs/\xs.length=i⟩
section
variable {X:Cx} {pins:List (Addr × Obj)} {σ : List (Option V)} {H:Hp} {s:Shared}
theorem oH {a e it:Addr} {n i:Nat} {x:V} {Pv:Nat->Value->Prop} {St:Nat->Heap->Prop} {E:Value->Shared->Prop} {elts:List Expr} {kk:Nat} {pos:Pos}
  (D:Draws X.prog X.w X.A.in1 it [it,a] n Pv St) (I:Inv X pins σ H s) (hf:∀ b ∈ [e,it],dW X pins H b) (he:∃ old,IsEnum s.heap e it i old) (hst:St i s.heap) (hlt:i < n) (hne:e ≠ it) (hea:e ≠ a) (hx:∀ v,Pv i v->RelV x v) :
  wpAny (model X.prog X.w) X.A (pyNext (.ref e)) (fun r s1=>∃ u,r=some u /\
   wpAny (model X.prog X.w) X.A (letOwnedTupleGo (.Tuple elts kk pos) (.ref e) u) (fun _ s2=>∃ v H',Inv X pins σ H' s2/\RelV v u/\(∃ t,v=.ref t/\H t=none/\H' = upd H t (.tup [.int (i:Nat),x]))/\((∃ old,IsEnum s2.heap e it (i+1:Nat) old)/\St (i+1) s2.heap)/\∀ b ∈ [e,it],H' b=none) E s1) E s:=by
 obtain⟨old,he⟩:=he
 have lite:it < s.heap.objs.size:=by obtain⟨_,y⟩:=D.live _ _ hst;exact Heap.lt_size y
 have lee:e < s.heap.objs.size:=Heap.lt_size he
 have sz:∀ c ∈ [e,it],c ≠ s.heap.objs.size:=fun c hc z=>by
  subst z
  simp only [List.mem_cons,List.not_mem_nil,or_false] at hc
  rcases hc with z | z
  ·rw [<-z] at lee;exact absurd lee (Nat.lt_irrefl _)
  ·rw [<-z] at lite;exact absurd lite (Nat.lt_irrefl _)
 refine wpAny_pyNext_enum_itemD D he hst hlt hne (by simp only [List.mem_cons,List.not_mem_nil,or_false,not_or];exact⟨hne,hea⟩) fun xv h' tk px ho hs' hT hsz hk=>?_
 refine⟨.ref s.heap.objs.size,rfl,wpAny_letOwnedTupleGo_enum ho fun g' ge sb=>?_⟩
 have fr:=I.aA.fresh (a:=s.heap.objs.size) (Nat.le_refl _)
 have I1:Inv X pins σ (upd H s.heap.objs.size (.tup [.int (i:Nat),x])) { s with heap:=s.heap.push { cls:=.type "tuple",data:=.seq #[.int i tk,xv] },toks:=tk+1 } :=
  I.laid (fun _ _ e=>Heap.get?_push_of_some _ e) (Nat.le_refl _) ⟨by show 2<=sizeLine;decide,[.int i tk,xv],.cons ⟨tk,rfl⟩ (.cons (hx xv px) .nil),by first | exact IsTup.new _ _ | exact⟨_,Heap.get?_push_size _ rfl,rfl,_,rfl,rfl⟩⟩
 have f1:∀ c ∈ [e,it],dW X pins (upd H s.heap.objs.size (.tup [.int (i:Nat),x])) c:=fun c hc=>by
  obtain⟨f0,fr'⟩:=hf c hc
  exact⟨by rw [ae (sz c hc)];exact f0,fr'⟩
 have I2:Inv X pins σ (upd H s.heap.objs.size (.tup [.int (i:Nat),x])) { s with heap:=g',toks:=tk+1 }:=Inv.ic (s:={ s with heap:=s.heap.push { cls:=.type "tuple",data:=.seq #[.int i tk,xv] },toks:=tk+1 }) (fp:=[e,it]) (h':=g') (t':=tk+1) I1 (fun c o hc q=>by
  simp only [List.mem_cons,List.not_mem_nil,or_false,not_or] at hc
  refine sb.extBut _ _ hc.1 ?_
  rcases Heap.get?_push_cases q with ⟨rfl,rfl⟩ | q
  ·exact hT
  ·exact hk c o hc.1 hc.2 q) f1
 refine⟨.ref s.heap.objs.size,_,I2,rfl,⟨_,rfl,fr,rfl⟩,⟨⟨xv,by simpa using ge⟩,D.frame _ _ _ hs' fun b hb o q=>(sb.2 b fun z=>?_).trans q⟩,fun c hc=>(f1 c hc).1⟩
 subst z
 simp only [List.mem_cons,List.not_mem_nil,or_false] at hb
 exact hb.elim hne hea
theorem pJ {P:Program} {w:World} {K:PySem.W.Frag} {elts:List Expr} {kk:Nat} {pos:Pos} (a e it:Addr) (hne:e ≠ it) (hea:e ≠ a) (hia:a ≠ it) :
  Turn P w K (.Tuple elts kk pos) (jK (ar K) a) [e,it] e (fun i h=>(∃ old,IsEnum h e it (i:Nat) old)/\h.IsTupleIter it a i) where
 mem:=by simp
 obj:=fun i h st c hc=>by
  obtain⟨⟨old,ge⟩,⟨oj,ej,cj,dj⟩⟩:=st
  simp only [List.mem_cons,List.not_mem_nil,or_false] at hc
  rcases hc with rfl | rfl
  ·exact⟨_,ge,fun v e=>by cases e⟩
  ·exact⟨oj,ej,fun v e=>by rw [dj] at e;cases e⟩
 keep:=fun i h g st kp=>by
  obtain⟨⟨old,ge⟩,⟨oj,ej,rj⟩⟩:=st
  exact⟨⟨old,kp e (by simp) _ ge⟩,⟨oj,kp it (by simp) _ ej,rj⟩⟩
 item:=by
  intro X hP hw hK hc i pins s σ H E I hf st hg
  subst hP hw hK
  obtain⟨xs,x,ha,hx⟩:=hg
  obtain⟨is,ra,pa,_⟩:=I.tuple ha
  have la:=ra.length
  have hil:i < is.toArray.size:=by have:=(List.getElem?_eq_some_iff.mp hx).1;simp;omega
  refine wpAny_mono (oH (elts:=elts) (kk:=kk) (pos:=pos) (lM (A:=X.A.in1) (I.ok.hd hc) it a hia is.toArray) I hf st.1 ⟨st.2,show s.heap.IsTuple a is.toArray from pa⟩ hil hne hea (x:=x) (fun v hv=>?_)) (fun r s1 hr=>?_) fun _ _ z=>z
  ·obtain⟨u,hu,ru⟩:=ra.get hx
   have:is[i]? = some v:=by simpa using hv
   rw [hu] at this
   cases this
   exact ru
  ·obtain⟨u,e1,hgo⟩:=hr
   refine⟨u,e1,wpAny_mono hgo (fun _ s2 ⟨v,H',I',rv,⟨t,e2,ht,e3⟩,⟨g1,g2⟩,g3⟩=>⟨v,H',I',rv,⟨t,x,e2,ht,e3,fun xs' h1=>by rw [I.fK h1 ha];exact hx⟩,⟨g1,g2.1⟩,g3⟩) fun _ _ z=>z⟩
 done:=by
  intro X hP hw hK hc i pins s σ H E I hf st hg
  subst hP hw hK
  obtain⟨xs,ha,hl⟩:=hg
  obtain⟨is,ra,pa,_⟩:=I.tuple ha
  obtain⟨⟨old,ge⟩,gi⟩:=st
  have la:=ra.length
  have hsz:is.toArray.size=i:=by simp;omega
  refine wpAny_pyNext_enum_endD (lM (A:=X.A.in1) (I.ok.hd hc) it a hia is.toArray) ge ⟨by rw [hsz];exact gi,show s.heap.IsTuple a is.toArray from pa⟩ fun h' eb=>⟨rfl,I.ic (fp:=[e,it]) (t':=s.toks) (fun c o hc q=>?_) hf⟩
  simp only [List.mem_cons,List.not_mem_nil,or_false,not_or] at hc
  exact eb c o hc.2 q
 self:=fun _ _ _ _ _ st h=>wpAny_pyIter_enum st.1.choose_spec h
theorem pK {P:Program} {w:World} {K:PySem.W.Frag} {elts:List Expr} {kk:Nat} {pos:Pos} (a e it:Addr) (hne:e ≠ it) (hea:e ≠ a) (hia:a ≠ it) :
  Turn P w K (.Tuple elts kk pos) (jK (av K) a) [e,it] e (fun i h=>(∃ old,IsEnum h e it (i:Nat) old)/\h.IsListIter it a i) where
 mem:=by simp
 obj:=fun i h st c hc=>by
  obtain⟨⟨old,ge⟩,⟨oj,ej,cj,dj⟩⟩:=st
  simp only [List.mem_cons,List.not_mem_nil,or_false] at hc
  rcases hc with rfl | rfl
  ·exact⟨_,ge,fun v e=>by cases e⟩
  ·exact⟨oj,ej,fun v e=>by rw [dj] at e;cases e⟩
 keep:=fun i h g st kp=>by
  obtain⟨⟨old,ge⟩,⟨oj,ej,rj⟩⟩:=st
  exact⟨⟨old,kp e (by simp) _ ge⟩,⟨oj,kp it (by simp) _ ej,rj⟩⟩
 item:=by
  intro X hP hw hK hc i pins s σ H E I hf st hg
  subst hP hw hK
  obtain⟨xs,x,ha,hx⟩:=hg
  obtain⟨is,ra,pa,_⟩:=I.list ha
  have la:=ra.length
  have hil:i < is.toArray.size:=by have:=(List.getElem?_eq_some_iff.mp hx).1;simp;omega
  refine wpAny_mono (oH (elts:=elts) (kk:=kk) (pos:=pos) (Draws.list (A:=X.A.in1) (I.ok.hd hc) it a hia is.toArray) I hf st.1 ⟨st.2,pa.isList⟩ hil hne hea (x:=x) (fun v hv=>?_)) (fun r s1 hr=>?_) fun _ _ z=>z
  ·obtain⟨u,hu,ru⟩:=ra.get hx
   have:is[i]? = some v:=by simpa using hv
   rw [hu] at this
   cases this
   exact ru
  ·obtain⟨u,e1,hgo⟩:=hr
   refine⟨u,e1,wpAny_mono hgo (fun _ s2 ⟨v,H',I',rv,⟨t,e2,ht,e3⟩,⟨g1,g2⟩,g3⟩=>⟨v,H',I',rv,⟨t,x,e2,ht,e3,fun xs' h1=>by rw [I.mj h1 ha];exact hx⟩,⟨g1,g2.1⟩,g3⟩) fun _ _ z=>z⟩
 done:=by
  intro X hP hw hK hc i pins s σ H E I hf st hg
  subst hP hw hK
  obtain⟨xs,ha,hl⟩:=hg
  obtain⟨is,ra,pa,_⟩:=I.list ha
  obtain⟨⟨old,ge⟩,gi⟩:=st
  have la:=ra.length
  have hsz:is.toArray.size=i:=by simp;omega
  refine wpAny_pyNext_enum_endD (Draws.list (A:=X.A.in1) (I.ok.hd hc) it a hia is.toArray) ge ⟨by rw [hsz];exact gi,pa.isList⟩ fun h' eb=>⟨rfl,I.ic (fp:=[e,it]) (t':=s.toks) (fun c o hc q=>?_) hf⟩
  simp only [List.mem_cons,List.not_mem_nil,or_false,not_or] at hc
  exact eb c o hc.2 q
 self:=fun _ _ _ _ _ st h=>wpAny_pyIter_enum st.1.choose_spec h
theorem mX:bootBuiltins "enumerate" = some (.type "enumerate"):=by decide +kernel
def wG (K:PySem.W.Frag) (ta:TA):TI:=fun σ H R=>ta σ H fun vs H1=>∃ a,vs = [.ref a]/\((∃ xs,ar K H1 a xs)/\R (jK (ar K) a) H1\/(∃ xs,av K H1 a xs)/\R (jK (av K) a) H1)
theorem oJ {a:Expr} {ta:TA} {p pos tp:Pos} {elts:List Expr} {kk:Nat} (hg:Gl X "enumerate") (hm:X.mg "enumerate" = none) (ha:PA X [a] ta) (hs:starEach [a] X.env = [(false,eval a X.env)]:=by rfl) :
  PI X (.Tuple elts kk tp) (.Call (.Name "enumerate" p) [a] [] pos) (wG X.K ta):=by
 intro pins s σ H R I h
 refine Call_ (hU I hg hm mX (PyProof.Rows.callWith_type1 (aH (ha pos pins s σ H _ I h) fun us s1 ⟨vs,H1,I1,r1,q1⟩=>?_) hs rfl))
 obtain⟨x,e,q⟩:=q1
 subst e
 cases r1 with
 | cons r rr =>
  cases rr
  cases r
  have le1:∀ c ∈ [s1.heap.objs.size+1,s1.heap.objs.size],s1.heap.objs.size<=c:=fun c hc=>by
   simp only [List.mem_cons,List.not_mem_nil,or_false] at hc
   rcases hc with rfl | rfl
   ·exact Nat.le_succ _
   ·exact Nat.le_refl _
  rcases q with ⟨⟨xs,hx⟩,q⟩ | ⟨⟨xs,hx⟩,q⟩
  ·obtain⟨is,rx,px,_⟩:=I1.tuple hx
   have lx:x < s1.heap.objs.size:=px.lt
   refine um (show s1.heap.IsTuple x is.toArray from px) fun g ge gi up=>?_
   refine wpAny_pyIter_enum ge ?_
   have I2:Inv X pins σ H1 { s1 with heap:=g }:=I1.kept (t':=s1.toks) up
   exact⟨_,[s1.heap.objs.size+1,s1.heap.objs.size],_,jK (ar X.K) x,H1,rfl,I2,pJ x _ _ (Nat.ne_of_gt (Nat.lt_succ_self _)) (Nat.ne_of_gt (Nat.lt_succ_of_lt lx)) (Nat.ne_of_lt lx),⟨⟨_,ge⟩,gi⟩,fun c hc=>I1.gx (le1 c hc) (I1.aA.fresh (le1 c hc)),q⟩
  ·obtain⟨is,rx,px,_⟩:=I1.list hx
   have lx:x < s1.heap.objs.size:=by obtain⟨o,eo,_⟩:=px.isList;exact Heap.lt_size eo
   refine call_enumerate_list px.isList fun g ge gi _ up=>?_
   refine wpAny_pyIter_enum ge ?_
   have I2:Inv X pins σ H1 { s1 with heap:=g }:=I1.kept (t':=s1.toks) up
   exact⟨_,[s1.heap.objs.size+1,s1.heap.objs.size],_,jK (av X.K) x,H1,rfl,I2,pK x _ _ (Nat.ne_of_gt (Nat.lt_succ_self _)) (Nat.ne_of_gt (Nat.lt_succ_of_lt lx)) (Nat.ne_of_lt lx),⟨⟨_,ge⟩,gi⟩,fun c hc=>I1.gx (le1 c hc) (I1.aA.fresh (le1 c hc)),q⟩
end
theorem sx {Sq:Hp->Addr->List V->Prop} {a:Addr} {xs:List V} {g:TG} {tb:TS} {D:Ends} {σ : St} {H:Hp} (Pv:Nat->St->Hp->Prop) (h0:Pv 0 σ H) (hl:∀ i σ H,i<=xs.length->Pv i σ H->Sq H a xs)
  (hs:∀ i x σ H t,xs[i]? = some x->H t=none->Pv i σ H->g (.ref t) σ (upd H t (.tup [.int (i:Nat),x])) fun σ2 H2=>tb { D with nx:=Pv (i+1),ct:=Pv (i+1),bk:=D.nx } σ2 H2) (hd:∀ σ H,Pv xs.length σ H->D.nx σ H) :
  ∃ W:Nat->Nat->St->Hp->Prop,(∃ m,W 0 m σ H)/\∀ i m σ H,W i m σ H ->
   ((jK Sq a).stop i H/\D.nx σ H)\/((jK Sq a).go i H/\∃ N:St->Hp->Prop,(∀ σ' H',N σ' H'->∃ m',m' < m/\W (i+1) m' σ' H')/\∀ x H',(jK Sq a).iX i H x H'->g x σ H' fun σ2 H2=>tb { D with nx:=N,ct:=N,bk:=D.nx } σ2 H2):=by
 refine⟨fun i m σ H=>m=xs.length - i/\i<=xs.length/\Pv i σ H,⟨xs.length,by simp,Nat.zero_le _,h0⟩,?_⟩
 rintro i m σ H ⟨rfl,hi,p⟩
 have q:=hl i σ H hi p
 by_cases hlt:i < xs.length
 ·refine .inr ⟨⟨xs,xs[i],q,by simp [hlt]⟩,Pv (i+1),fun σ' H' p'=>⟨xs.length - (i+1),by omega,rfl,hlt,p'⟩,fun v H' y=>?_⟩
  obtain⟨t,x,rfl,ht,rfl,h⟩:=y
  exact hs i x σ H t (h xs q) ht p
 ·have e:i=xs.length:=by omega
  subst e
  exact .inl ⟨⟨xs,q,rfl⟩,hd σ H p⟩
def oS:Option Str->V
 | none=>.ba
 | some y=>.str y
def fq (f:Str->Option Str) (x:Str) (o:Option Str):Str->Option Str:=fun z=>if z=x then o else f z
def jT (f:Str->Option Str):aG->Str->Option Str
 | .put x _=>fq f x none
 | .copy x y=>fq f x (f y)
 | .add _ _=>f
 | .read x=>fq f x none
 | .tell _=>f
def ft (f:Str->Option Str):aG->List (Option Str)
 | .tell x=>[f x]
 | _=>[]
def jL (S:(Str->Option Str) × List (Option Str)) (d:aG):(Str->Option Str) × List (Option Str):=(jT S.1 d,S.2++ft S.1 d)
def cz (ds:List aG):(Str->Option Str) × List (Option Str):=ds.foldl jL (some,[])
def cU (ds:List aG):Str->Option Str:=(cz ds).1
def dX (p:Piece):List Str:=((cz p.1).2++(bf p.2).map (cU p.1)).filterMap id
theorem gK (ds:List aG) (d:aG):cz (ds ++ [d])=jL (cz ds) d:=by unfold cz;rw [List.foldl_append];rfl
def SrcAt (kvs:List (Key × V)) (f:Str->Option Str):Prop:=∀ x:Str,(cw kvs (Sum.inr x:Key)).getD (.str x)=oS (f x)
theorem SrcAt.nil:SrcAt [] some:=fun x=>rfl
theorem SrcAt.put {kvs:List (Key × V)} {f:Str->Option Str} (h:SrcAt kvs f) (x:Str) (o:Option Str):SrcAt (putK kvs (Sum.inr x) (oS o)) (fq f x o):=fun z=>by
 rw [rN]
 unfold fq
 by_cases e:z=x
 ·rw [if_pos (by rw [e]),if_pos e];rfl
 ·rw [if_neg (fun q=>e (Sum.inr.inj q)),if_neg e];exact h z
def gU:Sp:=fun vs H Q _=>∃ (ea:Addr) (e:End),vs = [.ref ea]/\H ea=some (.tup (gJ e))/\∀ l H',H' l=some (.lst ((bf e).map V.str))->H l=none->af H H'->Q (.ref l) H'
def jU:Sp:=fun vs H Q _=>∃ (pc da ea:Addr) (ws:List V) (ds:List aG) (e:End),vs = [.ref pc]/\H pc=some (.tup [.ref da,.ref ea])/\H da=some (.tup ws)/\aD H ws (ds.map aY)/\H ea=some (.tup (gJ e))/\ds.length<=500 /\
 ∀ t d l kvs H',H' t=some (.tup [.ref d,.ref l])->H' d=some (.dK kvs)->SrcAt kvs (cU ds)->H' l=some (.lst ((dX (ds,e)).map V.str))->H t=none->H d=none->H l=none->af H H'->Q (.ref t) H'
theorem ei {α : Type} {P:List α->Prop} (h0:P []) (h1:∀ l x,P l->P (l ++ [x])) (l:List α):P l:=by
 have:∀ m:List α,P m.reverse:=fun m=>by
  induction m with
  | nil=>exact h0
  | cons x r ih=>rw [List.reverse_cons];exact h1 _ _ ih
 have:=this l.reverse
 rwa [List.reverse_reverse] at this
theorem lg (ds:List aG):(cz ds).2.length<=ds.length:=by
 refine ei (P:=fun ds=>(cz ds).2.length<=ds.length) (Nat.le_refl _) (fun l d ih=>?_) ds
 show (cz (l ++ [d])).2.length<=(l ++ [d]).length
 rw [gK]
 unfold jL
 have:(ft (cz l).1 d).length<=1:=by cases d <;> simp [ft]
 simp only [List.length_append,List.length_cons,List.length_nil]
 have ih:(cz l).2.length<=l.length:=ih
 omega
theorem sy {ds:List aG} {i:Nat} {d:aG} (h:ds[i]? = some d):cz (ds.take (i+1))=jL (cz (ds.take i)) d:=by
 rw [List.take_add_one,h]
 exact gK _ _
theorem mY (ds:List aG) (i:Nat):(cz (ds.take i)).2.length<=i:=Nat.le_trans (lg _) (by rw [List.length_take];exact Nat.min_le_left _ _)
structure dY (H:Hp) (l:Addr) (rs:List Addr) (os:List HO):Prop where
 lst:H l=some (.lst (rs.map V.ref))
 at_:∀ (k:Nat) (r:Addr) (o:HO),rs[k]? = some r->os[k]? = some o->H r=some o
 len:rs.length=os.length
 nd:rs.Nodup
 out:l ∉ rs
theorem dY.same {H H':Hp} {l:Addr} {rs:List Addr} {os:List HO} (T:dY H l rs os) (s:af H H'):dY H' l rs os:=⟨s _ _ T.lst,fun k r o h1 h2=>s _ _ (T.at_ k r o h1 h2),T.len,T.nd,T.out⟩
theorem dY.get {H:Hp} {l:Addr} {rs:List Addr} {os:List HO} (T:dY H l rs os) {k:Nat} {o:HO} (h:os[k]? = some o):∃ r,rs[k]? = some r/\H r=some o/\(rs.map V.ref)[k]? = some (.ref r):=by
 have hk:k < rs.length:=by rw [T.len];exact (List.getElem?_eq_some_iff.mp h).1
 have hr:rs[k]? = some rs[k]:=by simp [hk]
 exact⟨_,hr,T.at_ k _ o hr h,by rw [List.getElem?_map,hr];rfl⟩
theorem dY.put {H:Hp} {l:Addr} {rs:List Addr} {os:List HO} (T:dY H l rs os) {k:Nat} {r:Addr} {o':HO} (hk:rs[k]? = some r):dY (upd H r o') l rs (os.set k o'):=by
  have hr:r ∈ rs:=List.mem_of_getElem? hk
  refine⟨by rw [ae (show l ≠ r from fun z=>T.out (by rw [z];exact hr))];exact T.lst,fun j r' o h1 h2=>?_,by rw [List.length_set];exact T.len,T.nd,T.out⟩
  by_cases e:j=k
  · subst e
    rw [hk] at h1
    cases h1
    have hj:j < os.length:=by rw [<-T.len];exact (List.getElem?_eq_some_iff.mp hk).1
    rw [List.getElem?_set_self hj] at h2
    cases h2
    exact aa
  · rw [List.getElem?_set_ne (Ne.symm e)] at h2
    have hne:r' ≠ r:=fun z=>e (by
      subst z
      exact (List.getElem?_inj (List.getElem?_eq_some_iff.mp h1).1 T.nd).mp (h1.trans hk.symm))
    rw [ae hne]
    exact T.at_ j r' o h1 h2
def Back (ps:List Piece) (n:Nat) (k:Nat) (b:List Nat):Prop:=b.length<=2 * n/\∀ a,a ∈ b ↔ a < n/\∃ p,ps[a]? = some p/\k ∈ aV p.2
def oN (b:List Nat):HO:=.lst (vN b)
def mZ:Sp:=fun vs H Q _=>∃ (plv:V) (ps:List Piece),vs = [plv]/\aP H plv (bQ ps)/\i8 ps/\ps.length<=1000 /\
 ∀ (l:Addr) (rs:List Addr) (bs:List (List Nat)) H',dY H' l rs (bs.map oN)->bs.length=ps.length->(∀ (k:Nat) (b:List Nat),bs[k]? = some b->Back ps ps.length k b)->H l=none->(∀ r ∈ rs,H r=none)->af H H'->Q (.ref l) H'
theorem fR (e:End):(aV e).length<=2:=by cases e <;> simp [aV]
theorem iA {ps:List Piece} (hin:i8 ps) {i:Nat} {ds:List aG} {e:End} (h:ps[i]? = some (ds,e)):∀ k ∈ aV e,k < ps.length:=fun k hk=>by
 have h1:=hin _ (List.mem_of_getElem? h)
 cases e with
 | stop=>cases hk
 | go p=>rw [List.mem_singleton.mp hk];exact h1
 | eS b x n p q =>
  rcases List.mem_cons.mp hk with z | z
  ·rw [z];exact h1.1
  ·rw [List.mem_singleton.mp z];exact h1.2
inductive bG (ps:List Piece):Nat->Str->Prop
 | ask {k:Nat} {p:Piece} {x:Str} (h:ps[k]? = some p) (hx:x ∈ dX p):bG ps k x
 | back {k a:Nat} {p:Piece} {x y:Str} (h:bG ps k x) (hp:ps[a]? = some p) (hk:k ∈ aV p.2) (hy:cU p.1 x=some y):bG ps a y
def cA (F:List (List Str)) (k:Nat) (x:Str):Prop:=∃ xs,F[k]? = some xs/\x ∈ xs
def Cl (ps:List Piece) (F:List (List Str)) (k:Nat) (x:Str):Prop:=∀ (a:Nat) (p:Piece),ps[a]? = some p->k ∈ aV p.2->∀ y,cU p.1 x=some y->cA F a y
structure gL (ps:List Piece) (F:List (List Str)) (W:List (Nat × Str)) (ex:Nat->Str->Prop):Prop where
 len:F.length=ps.length
 kH:∀ (k:Nat) (xs:List Str),F[k]? = some xs->xs.Nodup/\∀ x ∈ xs,bG ps k x
 ask:∀ (k:Nat) (p:Piece),ps[k]? = some p->∀ x ∈ dX p,cA F k x
 wt:∀ q ∈ W,cA F q.1 q.2
 cl:∀ k x,cA F k x->(k,x) ∈ W\/ex k x\/Cl ps F k x
def fu (F:List (List Str)):Nat:=(F.map List.length).sum
theorem ig {F:List (List Str)} {a:Nat} {xs:List Str} {y:Str} (h:F[a]? = some xs) (k:Nat) (x:Str):cA (F.set a (xs ++ [y])) k x ↔ cA F k x\/(k=a/\x=y):=by
 have ha:a < F.length:=(List.getElem?_eq_some_iff.mp h).1
 unfold cA
 by_cases e:k=a
 ·subst e
  rw [List.getElem?_set_self ha,h]
  constructor
  ·rintro⟨z,hz,hx⟩
   cases hz
   rcases List.mem_append.mp hx with q | q
   ·exact .inl ⟨_,rfl,q⟩
   ·exact .inr ⟨rfl,List.mem_singleton.mp q⟩
  ·rintro (⟨z,hz,hx⟩ | ⟨_,rfl⟩)
   ·cases hz;exact⟨_,rfl,List.mem_append_left _ hx⟩
   ·exact⟨_,rfl,by simp⟩
 ·rw [List.getElem?_set_ne (Ne.symm e)]
  constructor
  ·exact .inl
  ·rintro (q | ⟨q,_⟩)
   ·exact q
   ·exact absurd q e
theorem Cl.mono {ps:List Piece} {F F':List (List Str)} {k:Nat} {x:Str} (m:∀ a y,cA F a y->cA F' a y) (h:Cl ps F k x):Cl ps F' k x:=fun a p hp hk y hy=>m _ _ (h a p hp hk y hy)
theorem sum_set {F:List (List Str)} {a:Nat} {xs:List Str} {y:Str} (h:F[a]? = some xs):fu (F.set a (xs ++ [y]))=fu F+1:=by
 induction F generalizing a with
 | nil=>simp at h
 | cons z r ih =>
  cases a with
  | zero =>
   simp at h
   subst h
   simp [fu]
   omega
  | succ a =>
   have:=ih (a:=a) (by simpa using h)
   simp [fu] at this ⊢
   omega
theorem gL.add {ps:List Piece} {F:List (List Str)} {W:List (Nat × Str)} {ex:Nat->Str->Prop} (I:gL ps F W ex) {a:Nat} {xs:List Str} {y:Str} (h:F[a]? = some xs) (hy:y ∉ xs) (hl:bG ps a y):gL ps (F.set a (xs ++ [y])) (W ++ [(a,y)]) ex:=by
 have m:∀ k x,cA F k x->cA (F.set a (xs ++ [y])) k x:=fun k x q=>(ig h k x).mpr (.inl q)
 have ha:a < F.length:=(List.getElem?_eq_some_iff.mp h).1
 refine⟨by rw [List.length_set];exact I.len,fun k zs hz=>?_,fun k p hp x hx=>m _ _ (I.ask k p hp x hx),fun q hq=>?_,fun k x hx=>?_⟩
 ·by_cases e:k=a
  ·subst e
   rw [List.getElem?_set_self ha] at hz
   cases hz
   obtain⟨n1,n2⟩:=I.kH k xs h
   refine⟨?_,fun x hx=>?_⟩
   ·rw [List.nodup_append]
    exact⟨n1,by simp,fun u hu v hv z=>hy (by rw [List.mem_singleton] at hv;rw [<-hv,<-z];exact hu)⟩
   ·rcases List.mem_append.mp hx with q | q
    ·exact n2 x q
    ·rw [List.mem_singleton.mp q];exact hl
  ·rw [List.getElem?_set_ne (Ne.symm e)] at hz
   exact I.kH k zs hz
 ·rcases List.mem_append.mp hq with q | q
  ·exact m _ _ (I.wt _ q)
  ·rw [List.mem_singleton.mp q];exact (ig h a y).mpr (.inr ⟨rfl,rfl⟩)
 ·rcases (ig h k x).mp hx with q | ⟨rfl,rfl⟩
  ·rcases I.cl k x q with c | c | c
   ·exact .inl (List.mem_append_left _ c)
   ·exact .inr (.inl c)
   ·exact .inr (.inr (c.mono m))
  ·exact .inl (by simp)
theorem gL.pop {ps:List Piece} {F:List (List Str)} {W:List (Nat × Str)} {k:Nat} {x:Str} (I:gL ps F (W ++ [(k,x)]) fun _ _=>False):gL ps F W fun k' x'=>k' = k/\x' = x :=
 ⟨I.len,I.kH,I.ask,fun q hq=>I.wt q (List.mem_append_left _ hq),fun k' x' h=>by
  rcases I.cl k' x' h with c | c | c
  ·rcases List.mem_append.mp c with c | c
   ·exact .inl c
   ·have:=List.mem_singleton.mp c
    cases this
    exact .inr (.inl ⟨rfl,rfl⟩)
  ·exact c.elim
  ·exact .inr (.inr c)⟩
theorem gL.close {ps:List Piece} {F:List (List Str)} {W:List (Nat × Str)} {k:Nat} {x:Str} (I:gL ps F W fun k' x'=>k' = k/\x' = x) (h:Cl ps F k x):gL ps F W fun _ _=>False :=
 ⟨I.len,I.kH,I.ask,I.wt,fun k' x' q=>by
  rcases I.cl k' x' q with c | ⟨rfl,rfl⟩ | c
  ·exact .inl c
  ·exact .inr (.inr h)
  ·exact .inr (.inr c)⟩
theorem gL.is {ps:List Piece} {F:List (List Str)} (I:gL ps F [] fun _ _=>False) (k:Nat) (x:Str):cA F k x ↔ bG ps k x:=by
 constructor
 ·rintro⟨xs,h1,h2⟩;exact (I.kH k xs h1).2 x h2
 ·intro h
  induction h with
  | ask hp hx=>exact I.ask _ _ hp _ hx
  | back h hp hk hy ih =>
   rcases I.cl _ _ ih with c | c | c
   ·cases c
   ·exact c.elim
   ·exact c _ _ hp hk _ hy
def iB (H:Hp) (no:Addr) (tt:Addr) (pc:Piece):Prop:=∃ (d al:Addr) (kvs:List (Key × V)),H tt=some (.tup [.ref d,.ref al])/\H d=some (.dK kvs)/\SrcAt kvs (cU pc.1)/\H al=some (.lst ((dX pc).map V.str))/\al ≠ no
theorem iB.same {H H':Hp} {no tt:Addr} {pc:Piece} (h:iB H no tt pc) (s:af H H'):iB H' no tt pc:=let ⟨d,al,kvs,a,b,c,e,f⟩:=h;⟨d,al,kvs,s _ _ a,s _ _ b,c,s _ _ e,f⟩
theorem iB.acc {H:Hp} {no tt:Addr} {pc:Piece} {xs:List V} (h:iB H no tt pc) (hn:H no=some (.lst xs)) (ys:List V):iB (upd H no (.lst ys)) no tt pc:=by
 obtain⟨d,al,kvs,a,b,c,e,f⟩:=h
 refine⟨d,al,kvs,?_,?_,c,?_,f⟩
 ·rw [ae (bS a hn (by intro z;cases z))];exact a
 ·rw [ae (bS b hn (by intro z;cases z))];exact b
 ·rw [ae f];exact e
def kS (xs:List Str):List (Key × V):=xs.map fun x=>(Sum.inr x,.bl true)
def oK (xs:List Str):HO:=.dK (kS xs)
def fU (xs:List Str) (x:Str):List Str:=if x ∈ xs then xs else xs ++ [x]
def fw (l:List Str):List Str:=l.foldl fU []
theorem kI (xs:List Str):(kS xs).length=xs.length:=List.length_map ..
theorem qL (xs:List Str) (x:Str):(cw (kS xs) (Sum.inr x:Key)).isSome=decide (x ∈ xs):=by
 induction xs with
 | nil=>rfl
 | cons y r ih =>
  show (cw ((Sum.inr y,V.bl true) :: kS r) (Sum.inr x:Key)).isSome=_
  by_cases e:y=x
  ·subst e
   rw [cx rfl]
   simp
  ·rw [cy (fun z:(Sum.inr y:Key)=Sum.inr x=>e (Sum.inr.inj z)),ih]
   simp [Ne.symm e]
theorem vL (xs:List Str) (x:Str):((kS xs).any fun kv=>decide (kv.1=Sum.inr x))=decide (x ∈ xs):=by
 rw [Bool.eq_iff_iff]
 simp [kS]
theorem qM (xs:List Str) (x:Str):putK (kS xs) (Sum.inr x) (.bl true)=kS (fU xs x):=by
 unfold putK fU
 rw [vL]
 by_cases h:x ∈ xs
 ·rw [if_pos (by simpa using h),if_pos h]
  unfold kS
  rw [List.map_map]
  refine List.map_congr_left fun y _=>?_
  show (if (Sum.inr y:Key)=Sum.inr x then ((Sum.inr y:Key),V.bl true) else (Sum.inr y,V.bl true))=_
  split <;> rfl
 ·rw [if_neg (by simpa using h),if_neg h]
  simp [kS]
theorem sA {xs:List Str} {x z:Str}:z ∈ fU xs x ↔ z ∈ xs\/z=x:=by
 unfold fU
 split
 ·rename_i h
  exact⟨.inl,fun q=>q.elim id fun e=>e ▸ h⟩
 ·simp
theorem uo {xs:List Str} {x:Str} (h:xs.Nodup):(fU xs x).Nodup:=by
 unfold fU
 split
 ·exact h
 ·rename_i hx
  rw [List.nodup_append]
  exact⟨h,by simp,fun u hu v hv z=>hx (by rw [List.mem_singleton] at hv;rw [<-hv,<-z];exact hu)⟩
theorem sC (xs:List Str) (x:Str):(fU xs x).length<=xs.length+1:=by unfold fU;split <;> simp
theorem iC (l:List Str) (x:Str):fw (l ++ [x])=fU (fw l) x:=by unfold fw;rw [List.foldl_append];rfl
theorem oM (l:List Str) (z:Str):z ∈ fw l ↔ z ∈ l:=by
 refine ei (P:=fun l=>z ∈ fw l ↔ z ∈ l) (by simp [fw]) (fun l x ih=>?_) l
 rw [iC,sA,ih]
 simp
theorem vM (l:List Str):(fw l).Nodup:=ei (P:=fun l=>(fw l).Nodup) (by simp [fw]) (fun l x ih=>by rw [iC];exact uo ih) l
theorem oO (l:List Str):(fw l).length<=l.length:=ei (P:=fun l=>(fw l).length<=l.length) (by simp [fw]) (fun l x ih=>by
  rw [iC,List.length_append]
  exact Nat.le_trans (sC _ _) (Nat.succ_le_succ ih)) l
theorem m3 (p:Piece):(dX p).length<=p.1.length+1:=by
 unfold dX
 refine Nat.le_trans (List.length_filterMap_le _ _) ?_
 rw [List.length_append,List.length_map]
 have h1:=lg p.1
 have h2:(bf p.2).length<=1:=by cases p.2 <;> simp [bf]
 omega
theorem m4 {pool:List Str} (ds:List aG):(∀ d ∈ ds,d8 pool d)->(∀ x y,x ∈ pool->(cz ds).1 x=some y->y ∈ pool)/\∀ y,some y ∈ (cz ds).2->y ∈ pool:=by
 refine ei (P:=fun ds=>(∀ d ∈ ds,d8 pool d)->(∀ x y,x ∈ pool->(cz ds).1 x=some y->y ∈ pool)/\∀ y,some y ∈ (cz ds).2->y ∈ pool) ?_ (fun l d ih h=>?_) ds
 ·intro _
  exact⟨fun x y hx e=>by cases e;exact hx,fun y h=>nomatch h⟩
 ·obtain⟨i1,i2⟩:=ih fun d hd=>h d (List.mem_append_left _ hd)
  have hd:=h d (by simp)
  rw [gK]
  unfold jL
  refine⟨fun x y hx e=>?_,fun y hy=>?_⟩
  ·cases d with
   | put z n =>
    have e:fq (cz l).1 z none x=some y:=e
    unfold fq at e
    split at e
    ·cases e
    ·exact i1 x y hx e
   | copy z z2 =>
    have e:fq (cz l).1 z ((cz l).1 z2) x=some y:=e
    unfold fq at e
    split at e
    ·exact i1 z2 y hd.2 e
    ·exact i1 x y hx e
   | add z n=>exact i1 x y hx e
   | read z =>
    have e:fq (cz l).1 z none x=some y:=e
    unfold fq at e
    split at e
    ·cases e
    ·exact i1 x y hx e
   | tell z=>exact i1 x y hx e
  ·rcases List.mem_append.mp hy with q | q
   ·exact i2 y q
   ·cases d with
    | tell z =>
     have:=List.mem_singleton.mp (show some y ∈ [(cz l).1 z] from q)
     exact i1 z y hd this.symm
    | put z n=>cases q
    | copy z z2=>cases q
    | add z n=>cases q
    | read z=>cases q
theorem dz {pool:List Str} {m:Nat} {ps:List Piece} (ok:cR pool m ps) {k:Nat} {x:Str} (h:bG ps k x):x ∈ pool:=by
 induction h with
 | @ask k p x hp hx =>
  have hm:=List.mem_of_getElem? hp
  have hd:=m4 p.1 (ok.cS p hm).2
  obtain⟨o,ho,e⟩:=List.mem_filterMap.mp hx
  cases (show o=some x from e)
  rcases List.mem_append.mp ho with q | q
  ·exact hd.2 x q
  ·obtain⟨z,hz,ez⟩:=List.mem_map.mp q
   have he:=ok.ends p hm
   refine hd.1 z x ?_ ez
   cases hpe:p.2 with
   | stop=>rw [hpe] at hz;cases hz
   | go _=>rw [hpe] at hz;cases hz
   | eS b y n p1 p2 =>
    rw [hpe] at hz he
    rw [List.mem_singleton.mp hz]
    exact he.1
 | @back k a p x y h hp hk hy ih=>exact (m4 p.1 (ok.cS p (List.mem_of_getElem? hp)).2).1 x y ih hy
theorem fH {l:List Str}:∀ {m:List Str},l.Nodup->(∀ x ∈ l,x ∈ m)->l.length<=m.length:=by
 induction l with
 | nil=>intro m _ _;exact Nat.zero_le _
 | cons x r ih =>
  intro m nd h
  rw [List.nodup_cons] at nd
  have hx:=h x List.mem_cons_self
  have:=ih (m:=m.erase x) nd.2 fun y hy=>(List.mem_erase_of_ne (show y ≠ x from fun z=>nd.1 (by rw [<-z];exact hy))).mpr (h y (List.mem_cons_of_mem _ hy))
  rw [List.length_erase_of_mem hx] at this
  have h0:0 < m.length:=List.length_pos_of_mem hx
  simp only [List.length_cons]
  omega
theorem vP {F:List (List Str)} {n:Nat} (h:∀ xs ∈ F,xs.length<=n):fu F<=F.length * n:=by
 induction F with
 | nil=>simp [fu]
 | cons x r ih =>
  have h1:=h x List.mem_cons_self
  have h2:=ih fun xs hx=>h xs (List.mem_cons_of_mem _ hx)
  simp [fu] at h2 ⊢
  rw [Nat.succ_mul]
  omega
def jv (L:List (List Str)):PyData:=.tuple (L.map fun xs=>.tuple (xs.map PyData.str))
def kJ:Sp:=fun vs H Q _=>∃ (plv:V) (ps:List Piece) (pool:List Str) (m:Nat),vs = [plv]/\aP H plv (bQ ps)/\cR pool m ps/\m<=500/\pool.length < 64/\ps.length<=400 /\
 ∀ v (L:List (List Str)) H',aP H' v (jv L)->L.length=ps.length->(∀ (k:Nat) (xs:List Str),L[k]? = some xs->sortedS xs=true/\xs.Nodup/\∀ x,x ∈ xs ↔ bG ps k x)->af H H'->Q v H'
theorem uq {Sq:Hp->Addr->List V->Prop} {a acc:Addr} {xs:List V} {n:Nat} {js:List Nat} {g:TG} {ct:TT} {tm:TM} {σ : St} {H1:Hp} {Q:VK} (Pv:Nat->List V->St->Hp->Prop) (h0:Pv 0 [] (dZ n js σ) (upd H1 acc (.lst [])))
  (hl:∀ i zs τ H,i<=xs.length->Pv i zs τ H->Sq H a xs)
  (hs:∀ i x zs τ H t,xs[i]? = some x->H t=none->Pv i zs τ H->g (.ref t) τ (upd H t (.tup [.int (i:Nat),x])) fun τ1 H4=>ct τ1 H4 fun b H5=>if b=true then tm acc zs τ1 H5 (Pv (i+1)) else Pv (i+1) zs τ1 H5)
  (hd:∀ zs τ H,Pv xs.length zs τ H->Q (.ref acc) H) :
  vI (jK Sq a) n js g ct tm acc σ H1 Q:=by
 refine⟨fun i m zs τ H=>m=xs.length - i/\i<=xs.length/\Pv i zs τ H,⟨xs.length,by simp,Nat.zero_le _,h0⟩,?_⟩
 rintro i m ys τ H ⟨rfl,hi,p⟩
 have q:=hl i ys τ H hi p
 by_cases hlt:i < xs.length
 ·refine .inr ⟨⟨xs,xs[i],q,by simp [hlt]⟩,Pv (i+1),fun ys' τ' H' p'=>⟨xs.length - (i+1),by omega,rfl,hlt,p'⟩,fun v H' y=>?_⟩
  obtain⟨t,x,rfl,ht,rfl,h⟩:=y
  exact hs i x ys τ H t (h xs q) ht p
 ·have e:i=xs.length:=by omega
  subst e
  exact .inl ⟨⟨xs,q,rfl⟩,hd ys τ H p⟩
section
variable {X:Cx} {K:PySem.W.Frag}
theorem sD {tg l:Expr} {tl:TE} (hK:X.K=K) (hl:PE X l tl):PI X tg l (sV K tl):=by
 subst hK
 exact dI hl
def vQ (K:PySem.W.Frag):List V->Hp->VK->Prop:=fun xs H Q=>∃ p ys,xs = [.ref p]/\((av K H p ys/\∀ l,H l=none->Q (.ref l) (upd H l (.tup ys)))\/(ar K H p ys/\Q (.ref p) H))
theorem lh (hK:X.K=K):fh X (.type "tuple") (vQ K):=by
 subst hK
 exact bw
end
def dH (H:Hp) (wts:List Addr) (W:List (Nat × Str)):Prop:=Paired (fun a q=>H a=some (.tup [.int (q.1:Nat),.str q.2])) wts W
theorem dH.keep {H H':Hp} (s:∀ c ys,H c=some (.tup ys)->H' c=some (.tup ys)):∀ {wts:List Addr} {W:List (Nat × Str)},dH H wts W->dH H' wts W
 | _,_,.nil=>.nil
 | _,_,.cons h t=>.cons (s _ _ h) (dH.keep s t)
theorem dH.len {H:Hp}:∀ {wts:List Addr} {W:List (Nat × Str)},dH H wts W->wts.length=W.length
 | _,_,.nil=>rfl
 | _,_,.cons _ t=>by simp [dH.len t]
theorem dH.snoc_inv {H:Hp}:∀ {W:List (Nat × Str)} {wts:List Addr} {q:Nat × Str},dH H wts (W ++ [q])->∃ ws w,wts=ws ++ [w]/\dH H ws W/\H w=some (.tup [.int (q.1:Nat),.str q.2])
 | [],_,_,.cons h .nil=>⟨[],_,rfl,.nil,h⟩
 | _ :: W,_,_,.cons h t=>by
  obtain⟨ws,w,rfl,a,b⟩:=dH.snoc_inv (W:=W) t
  exact⟨_ :: ws,w,rfl,.cons h a,b⟩
def F0 (ps:List Piece):List (List Str):=ps.map fun pc=>fw (dX pc)
theorem pL {ps:List Piece} {k:Nat} {p:Piece} (h:ps[k]? = some p):(F0 ps)[k]? = some (fw (dX p)):=by unfold F0;rw [List.getElem?_map,h];rfl
theorem vR {ps:List Piece} {W:List (Nat × Str)} (hW:∀ q:Nat × Str,q ∈ W ↔ cA (F0 ps) q.1 q.2):gL ps (F0 ps) W fun _ _=>False:=by
 refine⟨by simp [F0],fun k xs h=>?_,fun k p hp x hx=>⟨_,pL hp,(oM _ _).mpr hx⟩,fun q hq=>(hW q).mp hq,fun k x h=>.inl ((hW (k,x)).mpr h)⟩
 unfold F0 at h
 rw [List.getElem?_map] at h
 cases hk:ps[k]? with
 | none=>rw [hk] at h;cases h
 | some p =>
  rw [hk] at h
  cases h
  exact⟨vM _,fun x hx=>.ask hk ((oM _ _).mp hx)⟩
theorem dH.snoc {H:Hp} {w:Addr} {q:Nat × Str} (e:H w=some (.tup [.int (q.1:Nat),.str q.2])):∀ {wts:List Addr} {W:List (Nat × Str)},dH H wts W->dH H (wts ++ [w]) (W ++ [q])
 | _,_,.nil=>.cons e .nil
 | _,_,.cons h t=>.cons h (dH.snoc e t)
theorem m5 (H:Hp):∀ xs:List Str,aD H (xs.map V.str) (xs.map PyData.str)
 | []=>.nil
 | x :: r=>.cons (.str x) (m5 H r)
theorem jM:∀ xs:List Str,bR (xs.map PyData.str)=true
 | []=>rfl
 | x :: r=>jM r
theorem fI (L:List (List Str)):bR (L.map fun xs=>PyData.tuple (xs.map PyData.str))=true:=by
 induction L with
 | nil=>rfl
 | cons x r ih =>
  show (bR (x.map PyData.str) && bR (r.map fun xs=>PyData.tuple (xs.map PyData.str)))=true
  rw [jM,ih];rfl
theorem ur (xs:List Str):(kS xs).map (·.1)=xs.map Sum.inr:=by unfold kS;rw [List.map_map];rfl
theorem iD {α β : Type} {f g:α->Option β}:∀ {l:List α},(∀ x ∈ l,f x=g x)->l.filterMap f=l.filterMap g
 | [],_=>rfl
 | x :: r,h=>by
  rw [List.filterMap_cons,List.filterMap_cons,h x List.mem_cons_self,iD fun y hy=>h y (List.mem_cons_of_mem _ hy)]
theorem m6 {α : Type} (xs:List α):(List.range xs.length).filterMap (fun k=>xs[xs.length - 1 - k]?)=xs.reverse:=by
 refine ei (P:=fun xs=>(List.range xs.length).filterMap (fun k=>xs[xs.length - 1 - k]?)=xs.reverse) rfl (fun l x ih=>?_) xs
 show (List.range (l ++ [x]).length).filterMap (fun k=>(l ++ [x])[(l ++ [x]).length - 1 - k]?)=(l ++ [x]).reverse
 rw [List.length_append,List.length_singleton,List.range_succ_eq_map,List.filterMap_cons,List.filterMap_map,List.reverse_append]
 have e0:(l ++ [x])[l.length+1 - 1 - 0]? = some x:=by simp
 rw [e0]
 show x :: _=x :: l.reverse
 rw [<-ih]
 congr 1
 refine iD fun k hk=>?_
 have hk:k < l.length:=List.mem_range.mp hk
 show (l ++ [x])[l.length+1 - 1 - (k+1)]? = _
 rw [List.getElem?_append_left (by omega)]
 congr 1
 omega
theorem qN (n:Nat):sliceRange ((n:Int) - 1) (-1) (-1)=(List.range n).map fun k=>n - 1 - k:=by
 unfold sliceRange
 have h:¬ ((-1:Int) > 0):=by decide
 simp only [if_neg h]
 by_cases hn:n=0
 ·subst hn;rfl
 ·rw [if_pos (by omega)]
  have e:(((n:Int) - 1 - -1 - -1 - 1) / (- -1)).toNat=n:=by
   have:((n:Int) - 1 - -1 - -1 - 1)=n:=by omega
   rw [this]
   simp
  rw [e]
  refine List.map_congr_left fun k hk=>?_
  have hk:=List.mem_range.mp hk
  omega
theorem sE (items:Array Value):slicePick items none none (some (-1))=items.toList.reverse.toArray:=by
 unfold slicePick
 show ((sliceRange ((items.size:Int) - 1) (-1) (-1)).filterMap (items[·]?)).toArray=_
 rw [qN,List.filterMap_map,<-m6 items.toList,Array.length_toList]
 congr 1
 refine iD fun k _=>?_
 show items[items.size - 1 - k]? = items.toList[items.size - 1 - k]?
 rw [Array.getElem?_toList]
theorem Vals.rev:∀ {xs:List V} {us:List Value},Vals xs us->Vals xs.reverse us.reverse
 | _,_,.nil=>.nil
 | _,_,.cons h t=>by
  rw [List.reverse_cons,List.reverse_cons]
  exact (Vals.rev t).append (.cons h .nil)
section
variable {X:Cx}
def wH (K:PySem.W.Frag) (te:TE) (ts:TO):TE:=fun σ H Q=>te σ H fun x H1=>ts σ H1 fun c H2=>c=some (-1)/\∃ l xs,x=.ref l/\av K H2 l xs/\∀ p,H2 p=none->Q (.ref p) (upd H2 p (.lst xs.reverse))
theorem oP {e st:Expr} {te:TE} {ts:TO} {p2 pos:Pos} (he:PE X e te) (hs:PO X (some st) ts):PE X (.Subscript e (.Slice none none (some st) p2) pos) (wH X.K te ts):=by
 intro pins s σ H Q I h
 refine Subscript_ (aH (he pins s σ H _ I h) fun v s1 ⟨x,H1,I1,r1,q1⟩=>?_)
 refine wpAny_Slice ?_
 rw [evalPart_none]
 refine wpAny_pure (wpAny_pure (aH (hs pins s1 σ H1 _ I1 q1) fun vs s3 ⟨c,H3,I3,pc,q3⟩=>?_))
 obtain⟨rfl,l,xs,rfl,hS,q⟩:=q3
 cases r1
 have I4:Inv X pins σ H3 { s3 with heap:=s3.heap.push { cls:=.type "slice",data:=.fields #[.none,.none,vs] } }:=I3.kept (t':=s3.toks) fun b ob q=>Heap.get?_push_of_some _ q
 obtain⟨its,rv,pl,hz⟩:=I4.list hS
 have hl:=pl.isList
 have hzz:its.length<=sizeLine:=by rw [<-rv.length];exact hz
 show wpAny (model X.prog X.w) X.A (subscriptTail e (.Slice none none (some st) p2) (.ref l) (.ref s3.heap.objs.size)) (EP X pins σ Q) X.xe { s3 with heap:=s3.heap.push { cls:=.type "slice",data:=.fields #[.none,.none,vs] } }
 refine tail_any (ops:=[.ref l,.ref s3.heap.objs.size]) hl.typeIs list_getitem_lookup ?_ (by with_unfolding_all rfl)
 refine wpAny_getItem_list_slice hl (Heap.IsSliceOf.new ..) .none .none pc (by simp) ?_ (by simpa using hzz)
 rw [sE]
 refine⟨.ref _,_,I4.laid (t':=s3.toks) (o:=.lst xs.reverse) (fun b ob q=>Heap.get?_push_of_some _ q) (Nat.le_refl _) ?_,rfl,q _ (I4.aA.fresh (Nat.le_refl _))⟩
 exact⟨by rw [List.length_reverse];exact hz,its.reverse,_,rv.rev,Heap.get?_push_size _ rfl⟩
end
end L2
namespace LS
open PySem PySem.Spec PyProof.Rows L2
theorem en:Slot "reversed" "__next__" "reversed.__next__" :=
  Slot.of (owner := "reversed") (n := "__next__")
    (by rw [typeLookup_type,builtinLookup_eq_fast]
        kernel_rfl)
    (by decide +kernel)
    (by decide +kernel)
    (by decide +kernel)
    (by first
      | exact .inl (by decide +kernel)
      | exact .inr (by decide +kernel))
    (by rw [isSubtype_type]
        kernel_rfl)
theorem iP:entryFor table "reversed.__next__" = some Builtin.«reversed.__next__» :=
 entryFor_of_tree (by kernel_rfl)
theorem m7:Manifest.owners.lookup (String.ofList ['d','e','s','r','e','v','e','r'].reverse)=some Manifest.sig_reversed:=by
 kernel_rfl
theorem jb (v:Value):argsOk "reversed.__next__" ⟨[v],[]⟩:=by
 unfold argsOk
 rw [signature?_of (id := "reversed.__next__") (n:=['_','_','t','x','e','n','_','_']) (o:=['d','e','s','r','e','v','e','r'])
  (by kernel_rfl) m7]
 kernel_rfl
theorem jc:Slot "reversed" "__iter__" "reversed.__iter__" :=
  Slot.of (owner := "reversed") (n := "__iter__")
    (by rw [typeLookup_type,builtinLookup_eq_fast]
        kernel_rfl)
    (by decide +kernel)
    (by decide +kernel)
    (by decide +kernel)
    (by first
      | exact .inl (by decide +kernel)
      | exact .inr (by decide +kernel))
    (by rw [isSubtype_type]
        kernel_rfl)
theorem m8 (v:Value):argsOk "reversed.__iter__" ⟨[v],[]⟩:=by
 unfold argsOk
 rw [signature?_of (id := "reversed.__iter__") (n:=['_','_','r','e','t','i','_','_']) (o:=['d','e','s','r','e','v','e','r'])
  (by kernel_rfl) m7]
 kernel_rfl
theorem m9:entryFor table "reversed.__new__" = some Builtin.«reversed.__new__» :=
 entryFor_of_tree (by kernel_rfl)
theorem qO:mroOf (.type "reversed")=pure [.type "reversed",.type "object"]:=by
 rw [mroOf_type]
 kernel_rfl
theorem qP:typeLookup (.type "reversed") "__new__" = pure (some (.builtin "reversed.__new__")):=by
 rw [typeLookup_type,builtinLookup_eq_fast]
 kernel_rfl
theorem nc:Slot "reversed" "__init__" "object.__init__" :=
  Slot.of (owner := "object") (n := "__init__")
    (by rw [typeLookup_type,builtinLookup_eq_fast]
        kernel_rfl)
    (by decide +kernel)
    (by decide +kernel)
    (by decide +kernel)
    (by first
      | exact .inl (by decide +kernel)
      | exact .inr (by decide +kernel))
    (by rw [isSubtype_type]
        kernel_rfl)
theorem qQ:isSubtype (.type "reversed") (.type "reversed")=pure true:=by
 rw [isSubtype_type]
 kernel_rfl
theorem qR:TypeCalled "reversed" "reversed.__new__" "object.__init__" :=
 ⟨by decide +kernel,by decide +kernel,⟨_,_,qO⟩,madeBy_type qO qP (by decide +kernel),by decide +kernel,qQ,nc⟩
theorem nL (a:Value):checkTypeCall "reversed" ⟨[a],[]⟩=pure ():=by
 kernel_rfl
theorem pM (a:Value):checkBuiltinCall "reversed.__new__" ⟨[.type "reversed",a],[]⟩=pure ():=by
 kernel_rfl
theorem uu:typeLookup (.type "tuple") "__reversed__" = pure none:=by
 rw [typeLookup_type,builtinLookup_eq_fast]
 kernel_rfl
theorem uv:isSubtype (.type "tuple") (.type "dict")=pure false:=by
 rw [isSubtype_type]
 kernel_rfl
theorem vS (l:Addr) (its:Array Value):Meets (Builtin.«reversed.__new__» ⟨[.type "reversed",.ref l],[]⟩) (fun _ R s=>s.heap.IsTuple l its/\(its.size:Int) < 2 ^ 63/\R (.ok (.ret (.ref s.heap.objs.size))) { s with heap:=s.heap.push { cls:=.type "reversed",data:=.fields #[.ref l,rawInt (its.size - 1)] },toks:=s.toks+1+1 }) :=
 .of_wp fun P w' A' R' s' hh=>by
  obtain⟨hp,g,d,tk,os⟩:=s'
  obtain⟨gl,hfit,hh⟩:=hh
  have hsub:=qQ
  have hno:=uu
  have la:Heap.IsTuple (Shared.heap ⟨hp,g,d,tk,os⟩) l its:=gl
  obtain⟨ol,el,cl,kl,dl⟩:=id gl
  have hT:Shared.TypeIs ⟨hp,g,d,tk,os⟩ (.ref l) "tuple" := ⟨ol,el,cl⟩
  have hdict:=uv
  have hgi:typeLookup (.type "tuple") (Str.ofString "__getitem__")=pure (some (.builtin "tuple.__getitem__")):=PyProof.Rows.slot_tuple_getitem.lookup
  have lb:IsTup (Shared.heap ⟨hp,g,d,tk,os⟩) l its:=⟨ol,el,cl,kl,dl⟩
  wp_walk using AutoSeq1.wpAny_loadPart' el,len_tuple lb hfit
  exact⟨_,rfl,hh⟩
theorem lT:entryFor table "reversed.__iter__" = some Builtin.«dict_keyiterator.__iter__» :=
 entryFor_alias (id' := "dict_keyiterator.__iter__")
  (by kernel_rfl) rfl
  (by decide +kernel)
  (by kernel_rfl)
def eV (h:Heap) (I l:Addr) (i:Int):Prop:=∃ o,h.get? I=some o/\o.cls=.type "reversed" /\ o.data=.fields #[.ref l,rawInt i]
theorem eV.type {s:Shared} {I l:Addr} {i:Int} (h:eV s.heap I l i):s.TypeIs (.ref I) "reversed" := let ⟨o,e,c,_⟩:=h;⟨o,e,c⟩
theorem eV.keep {h h':Heap} {I l:Addr} {i:Int} (x:eV h I l i) (k:∀ o,h.get? I=some o->h'.get? I=some o):eV h' I l i:=let ⟨o,e,c⟩:=x;⟨o,k _ e,c⟩
section
variable {prog:Program} {w:World} {A:Around} {E:Value->Shared->Prop} {s:Shared} {I l:Addr} {its:Array Value}
theorem uw {Q:Value->Shared->Prop} (hL:s.heap.IsTuple l its) (hfit:(its.size:Int) < 2 ^ 63)
  (h:∀ g tk,eV g s.heap.objs.size l ((its.size:Int) - 1)->(∀ b o,s.heap.get? b=some o->g.get? b=some o)->Q (.ref s.heap.objs.size) { s with heap:=g,toks:=tk }) :
  wpAny (model prog w) A (call (.type "reversed") [.ref l]) Q E s:=by
 refine callType_new qR (by decide) (nL _) (pM _) (fun obj=>F.args_object_init_2 obj _) m9 (vS l its) ⟨hL,hfit,?_⟩
 show _/\_
 exact⟨⟨_,Heap.get?_push_size _ rfl,rfl⟩,h _ _ ⟨_,Heap.get?_push_size _ rfl,rfl,rfl⟩ fun b o e=>Heap.get?_push_of_some _ e⟩
theorem oQ {i:Int} {Q:Value->Shared->Prop} (hit:eV s.heap I l i) (q:Q (.ref I) s):wpAny (model prog w) A (pyIter (.ref I)) Q E s:=by
 refine wpAny_pyIter_slot hit.type jc (wpAny_call_entry jc hit.type lT ?_ (m8 _))
 show wpAny _ _ (ret (.ref I)) _ _ s
 exact wpAny_pure ⟨_,rfl, "reversed",_,hit.type,en.lookup,q⟩
end
section
variable {prog:Program} {w:World} {A:Around} {E:Value->Shared->Prop} {s:Shared} {I l:Addr} {its:Array Value}
theorem ux {i:Nat} {x:Value} {Q:Option Value->Shared->Prop} (hit:eV s.heap I l (i:Int)) (ht:IsTup s.heap l its) (hx:its[i]? = some x) (hfit:(its.size:Int) < 2 ^ 63)
  (q:∀ h' tk,eV h' I l ((i:Int) - 1)->Heap.SameBut I s.heap h'->Q (some x) { s with heap:=h',toks:=tk }):wpAny (model prog w) A (pyNext (.ref I)) Q E s:=by
 obtain⟨oI,ho,hc,hd⟩:=id hit
 have hlt:i < its.size:=(Array.getElem?_eq_some_iff.mp hx).1
 unfold pyNext
 refine wpAny_bind (wpAny_attempt (wpAny_callSpecial?_slot (name:=Str.ofString "__next__") hit.type en (wpAny_call_entry en hit.type iP ?_ (jb _))))
 unfold Builtin.«reversed.__next__»
 refine wpAny_bind (wpAny_pure ?_)
 refine wpAny_bind (wpAny_field ho hd (x:=.ref l) rfl ?_)
 refine wpAny_bind (wpAny_field ho hd (x:=rawInt i) rfl ?_)
 dsimp only [rawInt]
 rw [if_neg (by omega)]
 refine wpAny_bind (wpAny_specialOf ht.typeIs PyProof.Rows.slot_tuple_getitem.lookup ?_)
 dsimp only [Option.isNone]
 rw [if_neg (by simp)]
 refine wpAny_bind (wpAny_mkInt ?_)
 have hj:seqIndex? (i:Int) its.size=some i:=by
  have h0:¬ ((i:Int) < 0):=by omega
  simp only [seqIndex?,if_neg h0]
  simp [hlt]
 refine wpAny_bind (wpAny_attempt (getItem_tuple (s:={ s with toks:=s.toks+1 }) ht (by omega) (by omega) hj hx ?_))
 dsimp only
 refine wpAny_bind (wpAny_field (s:={ s with toks:=s.toks+1 }) ho hd (x:=rawInt i) rfl ?_)
 dsimp only [rawInt]
 refine wpAny_bind (wpAny_setField (s:={ s with toks:=s.toks+1 }) ho hd (by simp) ?_)
 refine wpAny_pure ⟨_,rfl,wpAny_pure (q _ _ ⟨_,Heap.get?_update_self _ ho (Obj.isFreed_of_fields (Obj.data_mapFields hd _)),(Obj.cls_mapFields ..).trans hc,?_⟩ (Heap.SameBut.update ..))⟩
 rw [Obj.data_mapFields hd];simp [rawInt]
theorem uy {Q:Option Value->Shared->Prop} {s0:Shared} (hh:A.handled=none) (hk:∀ b o,b ≠ I->s0.heap.get? b=some o->s.heap.get? b=some o)
  (q:∀ h',(∀ b o,b ≠ I->s0.heap.get? b=some o->h'.get? b=some o)->Q none { s with heap:=h' }) :
  wpAny (model prog w) A.in1 (Builtin.SmallTypes.stopIteration:Sem Unit) (fun _ _=>False)
   (fun e s'=>wpAny (model prog w) A (isInstance e (.type "StopIteration") >>= fun b=>if b=true then pure none else throw e) Q E s') s:=by
 unfold Builtin.SmallTypes.stopIteration
 refine wpAny_bind ?_
 simp only [newExc,newTuple]
 refine wpAny_bind (wpAny_newObj_type ?_ (by size_fits))
 refine wpAny_bind (m:=firstArgMember _ _) (wpAny_of_eq (a:=Value.none) (by first | rfl | (simp only [firstArgMember];rfl)) ?_)
 refine wpAny_newObj_type ?_ (by size_fits)
 simp only [raiseNew]
 refine wpAny_bind (wpAny_handled ?_)
 rw [show A.in1.handled=none from hh]
 refine wpAny_bind (wpAny_pure (wpAny_throw ?_))
 refine wpAny_bind (wpAny_isInstance (T := "StopIteration") (b:=true) ⟨_,Heap.get?_push_size _ rfl,rfl⟩ isSubtype_stop ?_)
 exact wpAny_pure (q _ fun b o hb e=>Heap.get?_push_of_some _ (Heap.get?_push_of_some _ (hk b o hb e)))
theorem vT {Q:Option Value->Shared->Prop} (hh:A.handled=none) (hit:eV s.heap I l (-1))
  (q:∀ h',(∀ b o,b ≠ I->s.heap.get? b=some o->h'.get? b=some o)->Q none { s with heap:=h' }):wpAny (model prog w) A (pyNext (.ref I)) Q E s:=by
 obtain⟨oI,ho,hc,hd⟩:=id hit
 unfold pyNext
 refine wpAny_bind (wpAny_attempt (wpAny_callSpecial?_slot (name:=Str.ofString "__next__") hit.type en (wpAny_call_entry en hit.type iP ?_ (jb _))))
 unfold Builtin.«reversed.__next__»
 refine wpAny_bind (wpAny_pure ?_)
 refine wpAny_bind (wpAny_field ho hd (x:=.ref l) rfl ?_)
 refine wpAny_bind (wpAny_field ho hd (x:=rawInt (-1)) rfl ?_)
 dsimp only [rawInt]
 rw [if_pos (by decide)]
 refine wpAny_bind (wpAny_rule ?_)
 refine wpAny_bind ?_
 refine wpAny_bind (wpAny_setField ho hd (by simp) ?_)
 have d1:(Obj.mapFields (·.setIfInBounds 1 (rawInt (-1))) oI).data=.fields #[.ref l,rawInt (-1)]:=by rw [Obj.data_mapFields hd];simp [rawInt]
 have g1:=Heap.get?_update_self (Obj.mapFields (·.setIfInBounds 1 (rawInt (-1)))) ho (Obj.isFreed_of_fields (Obj.data_mapFields hd _))
 refine wpAny_setField g1 d1 (by simp) ?_
 refine wpAny_bind (wpAny_mono (uy (I:=I) (s0:=s) (E:=E) (Q:=Q) hh (fun b o hb e=>(Heap.get?_update_other _ _ (Ne.symm hb)).trans ((Heap.get?_update_other _ _ (Ne.symm hb)).trans e)) fun h' k=>q h' k) (fun _ _ z=>z.elim) fun e s' z=>z)
end
end LS
namespace L2
open PySem PySem.Spec PyProof.Rows
def oR (K:PySem.W.Frag) (a:Addr) (n:Nat):It :=
 ⟨fun i H=>∃ xs x,ar K H a xs/\xs.length=n/\xs.reverse[i]? = some x,fun i H x H'=>H' = H/\∀ xs,ar K H a xs->xs.reverse[i]? = some x,fun i _=>n=i⟩
theorem sF {P:Program} {w:World} {K:PySem.W.Frag} {tg:Expr} {n:Nat} (hn:(n:Int) < 2 ^ 63) (a it:Addr):Turn P w K tg (oR K a n) [it] it (fun i h=>LS.eV h it a ((n:Int) - 1 - i)) where
 mem:=by simp
 obj:=fun i h st b hb=>by
  have e:b=it:=by simpa using hb
  subst e
  obtain⟨o,e,c,d⟩:=st
  exact⟨o,e,fun v z=>by rw [d] at z;cases z⟩
 keep:=fun i h h' st k=>st.keep fun o e=>k it (by simp) o e
 item:=by
  intro X hP hw hK hc i pins s σ H E I hf st hg
  subst hP hw hK
  obtain⟨xs,x,hq,hl,hx⟩:=hg
  obtain⟨its,rv,p,hz⟩:=I.tuple hq
  have hi:i < n:=by
   have:=(List.getElem?_eq_some_iff.mp hx).1
   rw [List.length_reverse,hl] at this
   exact this
  have hx':xs[n - 1 - i]? = some x:=by
   rw [List.getElem?_reverse (by omega),hl] at hx
   exact hx
  obtain⟨u,hu,ru⟩:=rv.get hx'
  obtain⟨f0,f1,f2,f3,f4,f5⟩:=hf it (by simp)
  have hlen:its.length=n:=by rw [<-rv.length];exact hl
  have e1:((n:Int) - 1 - i)=((n - 1 - i:Nat):Int):=by omega
  rw [e1] at st
  obtain⟨ot,et,ct,kt,dt⟩:=id p
  refine LS.ux (its:=its.toArray) st ⟨ot,et,ct,kt,dt⟩ (x:=u) (by simpa using hu) (by simpa [hlen] using hn) fun h' tk st' sb=>?_
  have I1:Inv X pins σ H { s with heap:=h',toks:=tk }:=I.turned (t':=tk) (fun b o hb e=>(sb.2 b hb).trans e) f0 f1 f3 f4 f5
  have st2:LS.eV h' it a ((n:Int) - 1 - (i+1:Nat)):=by
   have e2:((n:Int) - 1 - (i+1:Nat))=((n - 1 - i:Nat):Int) - 1:=by omega
   rw [e2];exact st'
  obtain⟨o,e,c,d⟩:=id st'
  exact⟨u,rfl,j6 (s:={ s with heap:=h',toks:=tk }) e c d (by decide) ⟨x,H,I1,ru,⟨rfl,fun ys hy=>by rw [I.fK hy hq];exact hx⟩,st2,fun b hb=>(hf b hb).1⟩⟩
 done:=by
  intro X hP hw hK hc i pins s σ H E I hf st hg
  subst hP hw hK
  have hg:n=i:=hg
  subst hg
  obtain⟨f0,f1,f2,f3,f4,f5⟩:=hf it (by simp)
  have e1:((n:Int) - 1 - n) = -1:=by omega
  rw [e1] at st
  exact LS.vT (I.ok.hd hc) st fun h' eb=>⟨rfl,I.turned (t':=s.toks) (fun b o hb e=>eb b o hb e) f0 f1 f3 f4 f5⟩
 self:=fun _ _ _ _ _ st h=>LS.oQ st h
theorem nM:bootBuiltins "reversed" = some (.type "reversed"):=by decide +kernel
def xG (K:PySem.W.Frag) (ta:TA):TI:=fun σ H R=>ta σ H fun vs H1=>∃ a xs,vs = [.ref a]/\ar K H1 a xs/\R (oR K a xs.length) H1
section
variable {X:Cx}
theorem vU {a tg:Expr} {ta:TA} {p pos:Pos} (hg:Gl X "reversed") (hm:X.mg "reversed" = none) (ha:PA X [a] ta) (hs:starEach [a] X.env = [(false,eval a X.env)]:=by rfl) :
  PI X tg (.Call (.Name "reversed" p) [a] [] pos) (xG X.K ta):=by
 intro pins s σ H R I h
 refine Call_ (hU I hg hm nM (PyProof.Rows.callWith_type1 (aH (ha pos pins s σ H _ I h) fun us s1 ⟨vs,H1,I1,r1,q1⟩=>?_) hs rfl))
 obtain⟨x,xs,e,hx,q⟩:=q1
 subst e
 cases r1 with
 | cons r rr =>
  cases rr
  cases r
  obtain⟨is,rx,px,hz⟩:=I1.tuple hx
  have hl:is.length=xs.length:=rx.length.symm
  have hb:(xs.length:Int) < 2 ^ 63:=by
   have:sizeLine < 2 ^ 62:=by decide
   omega
  refine LS.uw (its:=is.toArray) px (by simpa [hl] using hb) fun g tk st up=>?_
  refine LS.oQ (s:={ s1 with heap:=g,toks:=tk }) st ?_
  have I2:Inv X pins σ H1 { s1 with heap:=g,toks:=tk }:=I1.kept (t':=tk) up
  refine⟨_,[s1.heap.objs.size],_,oR X.K x xs.length,H1,rfl,I2,sF hb x _,?_,fun c hc=>?_,q⟩
  ·have e:((is.toArray.size:Int) - 1)=((xs.length:Int) - 1 - (0:Nat)):=by simp [hl]
   rw [<-e];exact st
  ·have e:c=s1.heap.objs.size:=by simpa using hc
   subst e
   exact I1.gx (Nat.le_refl _) (I1.aA.fresh (Nat.le_refl _))
end
theorem uz {K:PySem.W.Frag} {a:Addr} {xs:List V} {g:TG} {tb:TS} {D:Ends} {σ : St} {H:Hp} (Pv:Nat->St->Hp->Prop) (h0:Pv 0 σ H) (hl:∀ i σ H,i<=xs.length->Pv i σ H->ar K H a xs)
  (hs:∀ i x σ H,xs.reverse[i]? = some x->Pv i σ H->g x σ H fun σ2 H2=>tb { D with nx:=Pv (i+1),ct:=Pv (i+1),bk:=D.nx } σ2 H2) (hd:∀ σ H,Pv xs.length σ H->D.nx σ H) :
  ∃ W:Nat->Nat->St->Hp->Prop,(∃ m,W 0 m σ H)/\∀ i m σ H,W i m σ H ->
   ((oR K a xs.length).stop i H/\D.nx σ H)\/((oR K a xs.length).go i H/\∃ N:St->Hp->Prop,(∀ σ' H',N σ' H'->∃ m',m' < m/\W (i+1) m' σ' H')/\∀ x H',(oR K a xs.length).iX i H x H'->g x σ H' fun σ2 H2=>tb { D with nx:=N,ct:=N,bk:=D.nx } σ2 H2):=by
 refine⟨fun i m σ H=>m=xs.length - i/\i<=xs.length/\Pv i σ H,⟨xs.length,by simp,Nat.zero_le _,h0⟩,?_⟩
 rintro i m σ H ⟨rfl,hi,p⟩
 have q:=hl i σ H hi p
 by_cases hlt:i < xs.length
 ·have hr:i < xs.reverse.length:=by rw [List.length_reverse];exact hlt
  refine .inr ⟨⟨xs,xs.reverse[i],q,rfl,List.getElem?_eq_getElem hr⟩,Pv (i+1),fun σ' H' p'=>⟨xs.length - (i+1),by omega,rfl,hlt,p'⟩,fun x H' y=>?_⟩
  obtain⟨e,y⟩:=y
  subst e
  exact hs i x σ _ (y xs q) p
 ·have e:i=xs.length:=by omega
  subst e
  exact .inl ⟨rfl,hd σ H p⟩
end L2
namespace LS
open PySem PySem.Spec PyProof.Rows L2
theorem iE {α : Type} (xs:Array α) (i:Nat):(SetTable.eraseAt xs i).toList=xs.toList.eraseIdx i:=by
 unfold SetTable.eraseAt
 rw [Array.toList_append,Array.toList_extract,Array.toList_extract,List.eraseIdx_eq_take_drop_succ]
 simp [List.extract_eq_take_drop,List.take_of_length_le]
theorem qS {α : Type} (xs:Array α) (i k:Nat):(SetTable.eraseAt xs i)[k]? = if k < i then xs[k]? else xs[k+1]?:=by
 rw [<-Array.getElem?_toList,iE,List.getElem?_eraseIdx]
 simp
theorem Up.erase {xs:Array Nat} {i:Nat} (up:Up xs):Up (SetTable.eraseAt xs i):=by
 intro p q a b hpq ha hb
 rw [qS] at ha hb
 split at ha <;> split at hb
 ·exact up _ _ _ _ hpq ha hb
 ·exact up _ _ _ _ (by omega) ha hb
 ·omega
 ·exact up _ _ _ _ (by omega) ha hb
theorem nN {α : Type} (xs:Array α) (p:Nat) (x:α):(SetTable.insertAt xs p x).size=xs.size+1:=by
 unfold SetTable.insertAt
 simp
 omega
theorem jd {α β : Type} {F:α->β->Prop}:∀ {l:List α} {m:List β} (i:Nat),Paired F l m->Paired F (l.eraseIdx i) (m.eraseIdx i)
 | _,_,_,.nil=>.nil
 | _,_,0,.cons _ t=>t
 | _,_,i+1,.cons h t=>.cons h (jd i t)
theorem je {α β : Type} {F:α->β->Prop}:∀ {l:List α} {m:List β} {i:Nat} {x:α},Paired F l m->l[i]? = some x->∃ y,m[i]? = some y/\F x y
 | _,_,i,_,.nil,h=>by simp at h
 | _,_,0,_,.cons h _,e=>by simp at e;subst e;exact⟨_,rfl,h⟩
 | _,_,i+1,_,.cons _ t,e=>by simpa using je t (by simpa using e)
def bC {K:Type} [DecidableEq K] (ks:List K) (k:K):List K:=ks.erase k
theorem sG {K:Type} [DecidableEq K] {ks:List K} (nd:ks.Nodup) (k x:K):x ∈ bC ks k ↔ x ≠ k/\x ∈ ks:=nd.mem_erase_iff
theorem uA {K:Type} [DecidableEq K] {ks:List K} (nd:ks.Nodup) (k:K):(bC ks k).Nodup:=nd.erase k
theorem iF {K:Type} [DecidableEq K] (ks:List K) (k:K):(bC ks k).length<=ks.length:=List.length_erase_le
theorem kK {α : Type} (xs:Array α) (i:Nat) (hi:i < xs.size):(SetTable.eraseAt xs i).size=xs.size - 1:=by
 rw [<-Array.length_toList,iE,List.length_eraseIdx,Array.length_toList,if_pos hi]
theorem uB {t:SetTable} {n i:Nat} (f:t.fits n=true) (hi:i < n) (up:Rp t):(t.drop i).fits (n - 1)=true/\(t.drop i).led=t.led/\Rp (t.drop i):=by
 unfold SetTable.fits at f
 rw [Bool.and_eq_true] at f
 obtain⟨f1,f2⟩:=f
 have f1:t.place.size=n:=by simpa using f1
 have f2:t.fill<=t.mask:=by simpa using f2
 have hj:t.place[i]? = some t.place[i]:=by simp [show i < t.place.size by omega]
 generalize t.place[i] = j at hj
 unfold SetTable.drop
 rw [hj]
 dsimp only
 refine⟨?_,rfl,fun hp=>(up hp).erase⟩
 unfold SetTable.fits SetTable.fill
 dsimp only
 unfold SetTable.fill at f2
 rw [kK _ _ (by omega),nN,f1]
 simp
 omega
section
variable {prog:Program} {w:World} {K:Type} [DecidableEq K] {knd:KeyKind prog w K}
variable {A:Around} {E:Value->Shared->Prop} {s:Shared} {a:Addr} {ks:List K}
theorem nO {k:K} {x:Value} {Q:Bool->Shared->Prop} (hk:knd.is k x=true) (hsc:x.scannable=true) (S:cC knd s.heap a ks)
  (q:∀ h',Heap.SameBut a s.heap h'->cC knd h' a (bC ks k)->Q (decide (k ∈ ks)) { s with heap:=h' }) :
  wpAny (model prog w) A (setDiscardHashed a x (knd.hash k)) Q E s:=by
 obtain⟨o,es,ep,t,S⟩:=S
 unfold setDiscardHashed setFind setFindIn
 refine wpAny_bind (wpAny_bind (wpAny_setState_of S.at_ S.data S.fits ?_))
 dsimp only
 rw [byScan_of hsc S.du S.elems]
 simp only [↓reduceIte]
 refine wpAny_bind (wpAny_rule ?_)
 refine wpAny_bind (wpAny_setScan_of hk S.at_ S.data S.fits S.elems ?_)
 cases hr:List.findIdx? (fun e=>knd.is k e.2) es.toList with
 | none =>
  have hin:¬ k ∈ ks:=fun z=>by
   obtain⟨e,he,hp⟩:=(S.mem k).mp z
   have:=List.findIdx?_eq_none_iff.mp hr e he
   rw [hp] at this;exact Bool.noConfusion this
  refine wpAny_pure (wpAny_pure ?_)
  have:=q s.heap (Heap.SameBut.refl a s.heap) (by unfold bC;rw [List.erase_of_not_mem hin];exact⟨o,es,ep,t,S⟩)
  rw [decide_eq_false hin] at this
  exact this
 | some j =>
  obtain⟨hj,hpj,_⟩:=List.findIdx?_eq_some_iff_getElem.mp hr
  have hjs:j < es.size:=by rw [<-Array.length_toList];exact hj
  have hin:k ∈ ks:=(S.mem k).mpr ⟨es.toList[j],List.getElem_mem hj,hpj⟩
  refine wpAny_pure ?_
  dsimp only
  rw [Nat.zero_add]
  refine wpAny_bind (wpAny_setState_of S.at_ S.data S.fits ?_)
  obtain⟨d1,d2,d3⟩:=uB S.fits hjs S.up
  have hsz:=kK es j hjs
  have du:(SetTable.eraseAt es j).size < scanBound:=by rw [hsz];exact Nat.lt_of_le_of_lt (Nat.sub_le _ _) S.du
  refine wpAny_bind (wpAny_storeSet_of S.at_ S.data ?_ (fits_of_scanBound du))
  refine wpAny_bind (wpAny_point (wpAny_pure ?_))
  have he:∃ ls:List K,ls.Perm (ks.erase k)/\Paired (Ent knd) (SetTable.eraseAt es j).toList ls:=by
   obtain⟨ls,l1,l2⟩:=S.ents
   obtain⟨y,hy,fy⟩:=je l2 (show es.toList[j]? = some es.toList[j] by simp [hj])
   have ey:y=k:=knd.inj _ _ _ fy.1 hpj
   subst ey
   refine⟨ls.eraseIdx j,?_,by rw [iE];exact jd j l2⟩
   have hjl:j < ls.length:=(List.getElem?_eq_some_iff.mp hy).1
   have p1:=kC ls j hjl
   have e1:ls[j] = y:=by
    have:=List.getElem?_eq_getElem hjl
    rw [hy] at this
    exact (Option.some.inj this).symm
   rw [e1] at p1
   exact List.Perm.cons_inv ((p1.trans l1).trans (List.perm_cons_erase hin))
  have:=q _ (Heap.SameBut.update s.heap a (Obj.putSet (SetTable.eraseAt es j) (t.drop j))) ⟨_,_,_,_,S.store he (S.nd.erase k) du (by rw [hsz];exact d1) d2 d3⟩
  rw [decide_eq_true hin] at this
  exact this
end
section
variable {prog:Program} {w:World} {A:Around} {E:Value->Shared->Prop} {s:Shared}
theorem qT {a:Addr} {ks:List Key} {k:Key} {v:Value} {Q:Value->Shared->Prop} (hk:(ax prog w).is k v=true) (S:cC (ax prog w) s.heap a ks)
  (q:∀ h',Heap.SameBut a s.heap h'->cC (ax prog w) h' a (bC ks k)->Q .none { s with heap:=h',toks:=s.toks+1 }):wpAny (model prog w) A (call (.builtin "set.discard") [.ref a,v]) Q E s:=by
 refine wpAny_call_entry PySem.F.slot_set_discard S.setOf.typeIs PySem.F.entry_set_discard ?_ (PySem.F.args_set_discard_2 _ _)
 unfold Builtin.«set.discard» Builtin.Frozenset.oneOther
 simp only [List.isEmpty_nil,bind_assoc]
 unfold Builtin.Frozenset.addrOf
 refine wpAny_bind (wpAny_pure ?_)
 refine wpAny_bind (wpAny_pure ?_)
 unfold Builtin.Frozenset.withSetAsKey setDiscard
 refine wpAny_bind (wpAny_tryCatch (wpAny_holding (wpAny_bind ((ax prog w).pyHash hk ?_))))
 refine nO (s:={ s with toks:=s.toks+1 }) hk (jS hk) S fun h' b S'=>?_
 exact wpAny_pure ⟨_,rfl,q h' b S'⟩
end
end LS
namespace L2
open PySem PySem.Spec PyProof.Rows LS
section
variable {X:Cx}
def vV (P:Program) (w:World):V->List V->Hp->VK->Prop:=fun x vs H Q=>∃ a ks k,x=.ref a/\vs = [kV k]/\H a=some (aQ P w a ks)/\Q .ba (upd H a (aQ P w a (bC ks k)))
theorem sH:mz X "set.discard" (vV X.prog X.w):=by
 intro pins s σ H x xs v us Q I rx r h
 obtain⟨a,ks,k,rfl,rfl,ha,q⟩:=h
 cases (show v=Value.ref a from rx)
 obtain⟨u,rfl,ru⟩:=vals1 r
 refine qT (ju ru) (I.pI ha) fun h' b S'=>?_
 refine⟨.ba,_,I.write (t':=s.toks+1) (x:=a) (e:=a) (by rw [ha];exact trivial) (.inl rfl) (fun c u' hc hu=>b.extBut c u' hc hu) ?_ (kZ S'),rfl,q⟩
 obtain⟨o,_,_,_,So⟩:=S'
 exact⟨o,So.at_⟩
end
theorem sI {x:Str} (h:bT x):PyData.canLay0 (.str x)=true:=by
 show (x.cps.all fun c=>decide (c < 0x110000))=true
 rw [<-Array.all_toList,List.all_eq_true]
 intro c hc
 have:=h.az c hc
 exact decide_eq_true (by omega)
section
variable {X:Cx}
end
theorem je {α β : Type} {F:α->β->Prop} {l:List α} {m:List β} (h:Paired F l m) {i:Nat} {x:α} (e:l[i]? = some x):∃ y,m[i]? = some y/\F x y:=LS.iz h e
section
variable {prog:Program} {w:World} {A:Around} {E:Value->Shared->Prop} {s:Shared}
end
section
variable {X:Cx}
end
def cY (f:Str->Bool):aG->Bool
 | .put x _=>f x
 | .copy x _=>f x
 | .add x _=>f x
 | .read _=>true
 | .tell _=>true
def gM (f:Str->Bool) (x:Str):Str->Bool:=fun z=>decide (z ≠ x) && f z
def lN (f:Str->Bool) (x:Str):Str->Bool:=fun z=>decide (z=x) || f z
def tF (f:Str->Bool):aG->Str->Bool
 | .put x _=>gM f x
 | .copy x y=>lN (gM f x) y
 | .add _ _=>f
 | .read x=>gM f x
 | .tell x=>lN f x
def spS (S:List aG × (Str->Bool)) (d:aG):List aG × (Str->Bool):=if cY S.2 d=true then (S.1 ++ [d],tF S.2 d) else S
def fb (f:Str->Bool) (rs:List aG):List aG × (Str->Bool):=rs.foldl spS ([],f)
def aU (f:Str->Bool) (ds:List aG):List aG:=(fb f ds.reverse).1.reverse
theorem ng {f:Str->Bool} {rs:List aG} {i:Nat} {d:aG} (h:rs[i]? = some d):fb f (rs.take (i+1))=spS (fb f (rs.take i)) d:=by
 rw [List.take_add_one,h]
 show List.foldl spS _ (rs.take i ++ [d])=_
 rw [List.foldl_append]
 rfl
theorem uC (f:Str->Bool) (rs:List aG):(fb f rs).1.length<=rs.length:=by
 refine ei (P:=fun rs=>(fb f rs).1.length<=rs.length) (Nat.le_refl _) (fun l d ih=>?_) rs
 show (fb f (l ++ [d])).1.length<=_
 have e:fb f (l ++ [d])=spS (fb f l) d:=by unfold fb;rw [List.foldl_append];rfl
 rw [e]
 unfold spS
 have ih:(fb f l).1.length<=l.length:=ih
 split
 ·simp;omega
 ·simp;omega
def jf (ks:List Key) (f:Str->Bool):Prop:=ks.Nodup/\∀ x:Str,(Sum.inr x:Key) ∈ ks ↔ f x=true
theorem jf.off {ks:List Key} {f:Str->Bool} (h:jf ks f) (x:Str):jf (LS.bC ks (Sum.inr x)) (gM f x):=⟨LS.uA h.1 _,fun z=>by
 rw [LS.sG h.1,h.2 z]
 unfold gM
 rw [Bool.and_eq_true,decide_eq_true_eq]
 exact⟨fun ⟨a,b⟩=>⟨fun e=>a (by rw [e]),b⟩,fun ⟨a,b⟩=>⟨fun e=>a (Sum.inr.inj e),b⟩⟩⟩
theorem pN {ks:List Key} {k z:Key}:z ∈ LS.putIn ks k ↔ z=k\/z ∈ ks:=by
 unfold LS.putIn
 split
 ·rename_i h
  exact⟨.inr,fun q=>q.elim (fun e=>e ▸ h) id⟩
 ·rw [List.mem_append,List.mem_singleton];exact Or.comm
theorem qU {ks:List Key} {k:Key} (h:ks.Nodup):(LS.putIn ks k).Nodup:=by
 unfold LS.putIn
 split
 ·exact h
 ·rename_i hx
  rw [List.nodup_append]
  exact⟨h,by simp,fun u hu v hv z=>hx (by rw [List.mem_singleton] at hv;rw [<-hv,<-z];exact hu)⟩
theorem jf.on {ks:List Key} {f:Str->Bool} (h:jf ks f) (x:Str):jf (LS.putIn ks (Sum.inr x)) (lN f x):=⟨qU h.1,fun z=>by
 rw [pN,h.2 z]
 unfold lN
 rw [Bool.or_eq_true,decide_eq_true_eq]
 exact⟨fun q=>q.imp Sum.inr.inj id,fun q=>q.imp (fun e=>by rw [e]) id⟩⟩
def fD:Sp:=fun vs H Q _=>∃ (da l:Addr) (ws:List V) (ds:List aG) (ns:List Str),vs = [.ref da,.ref l]/\H da=some (.tup ws)/\aD H ws (ds.map aY)/\ds.length<=500/\H l=some (.lst (ns.map V.str))/\ns.length<=500 /\
 ∀ t us H',H' t=some (.tup us)->aD H' us ((aU (fun x=>decide (x ∈ ns)) ds).map aY)->af H H'->Q (.ref t) H'
theorem iG (ks:List Key) (k:Key):(LS.putIn ks k).length<=ks.length+1:=by unfold LS.putIn;split <;> simp
theorem nh:∀ (ms acc:List Key),(ms.foldl LS.putIn acc).length<=acc.length+ms.length
 | [],acc=>Nat.le_refl _
 | m :: r,acc=>by
  have h1:=nh r (LS.putIn acc m)
  have h2:=iG acc m
  simp only [List.foldl_cons,List.length_cons]
  omega
theorem aD.lj {H:Hp}:∀ {xs:List V} {ds:List aG},aD H xs (ds.map aY)->aD H xs.reverse (ds.reverse.map aY)
 | _,[],h=>by rw [h.nil_inv];exact .nil
 | _,d :: r,h=>by
  obtain⟨x,xs,rfl,h1,h2⟩:=h.cons_inv
  rw [List.reverse_cons,List.reverse_cons,List.map_append]
  exact (aD.lj h2).app h1
theorem jg {H:Hp}:∀ {xs:List V} {ss:List Str},aD H xs (ss.map PyData.str)->xs=ss.map V.str
 | _,[],h=>h.nil_inv
 | _,n :: ns,h=>by
  obtain⟨x,r,rfl,h1,h2⟩:=h.cons_inv
  rw [h1.str_inv,jg h2]
  rfl
def eC (ps:List Piece) (e:End) (x:Str):Prop:=x ∈ bf e\/∃ k ∈ aV e,bG ps k x
def ll:Sp:=fun vs H Q _=>∃ (plv:V) (ps:List Piece) (pool:List Str) (m:Nat),vs = [plv]/\aP H plv (bQ ps)/\cR pool m ps/\m<=500/\pool.length < 64/\ps.length<=400 /\
 ∀ v (qs:List Piece) H',aP H' v (bQ qs)->qs.length=ps.length->(∀ (k:Nat) (p:Piece),ps[k]? = some p->∃ f:Str->Bool,qs[k]? = some (aU f p.1,p.2)/\∀ x,f x=true ↔ eC ps p.2 x)->af H H'->Q v H'
def cN (A:Str->Prop):aG->Str->Prop
 | .put y _,x=>x ≠ y/\A x
 | .copy y z,x=>(x ≠ y/\A x)\/(x=z/\A y)
 | .add _ _,x=>A x
 | .read y,x=>x ≠ y/\A x
 | .tell y,x=>x=y\/A x
def bD:List aG->(Str->Prop)->Str->Prop
 | [],A=>A
 | d :: r,A=>cN (bD r A) d
theorem qV (ds:List aG) (d:aG) (A:Str->Prop):bD (ds ++ [d]) A=bD ds (cN A d):=by
 induction ds with
 | nil=>rfl
 | cons e r ih=>show cN (bD (r ++ [d]) A) e=cN (bD r (cN A d)) e;rw [ih]
theorem gN (ds:List aG):∀ (A:Str->Prop) (x:Str),bD ds A x ↔ (∃ y,A y/\cU ds y=some x)\/some x ∈ (cz ds).2:=by
 refine ei (P:=fun ds=>∀ (A:Str->Prop) (x:Str),bD ds A x ↔ (∃ y,A y/\cU ds y=some x)\/some x ∈ (cz ds).2) ?_ (fun l d ih A x=>?_) ds
 ·intro A x
  constructor
  ·intro h;exact .inl ⟨x,h,rfl⟩
  ·rintro (⟨y,h,e⟩ | h)
   ·cases (show some y=some x from e);exact h
   ·cases h
 ·rw [qV,ih]
  have e1:cU (l ++ [d])=jT (cU l) d:=by unfold cU;rw [gK];rfl
  have e2:(cz (l ++ [d])).2=(cz l).2++ft (cU l) d:=by rw [gK];rfl
  rw [e1,e2]
  generalize cU l=f
  generalize (cz l).2=os
  rw [List.mem_append]
  cases d with
  | put y n =>
   simp only [cN,jT,ft,fq,List.not_mem_nil,or_false]
   refine or_congr ⟨fun ⟨z,⟨a,b⟩,c⟩=>⟨z,b,by rw [if_neg a];exact c⟩,fun ⟨z,b,c⟩=>?_⟩ Iff.rfl
   split at c
   ·cases c
   ·rename_i h;exact⟨z,⟨h,b⟩,c⟩
  | copy y w =>
   simp only [cN,jT,ft,fq,List.not_mem_nil,or_false]
   refine or_congr ⟨fun ⟨z,h,c⟩=>?_,fun ⟨z,b,c⟩=>?_⟩ Iff.rfl
   ·rcases h with ⟨a,b⟩ | ⟨a,b⟩
    ·exact⟨z,b,by rw [if_neg a];exact c⟩
    ·exact⟨y,b,by rw [if_pos rfl,<-a];exact c⟩
   ·split at c
    ·rename_i h;rw [h] at b;exact⟨w,.inr ⟨rfl,b⟩,c⟩
    ·rename_i h;exact⟨z,.inl ⟨h,b⟩,c⟩
  | add y n =>
   simp only [cN,jT,ft,List.not_mem_nil,or_false]
  | read y =>
   simp only [cN,jT,ft,fq,List.not_mem_nil,or_false]
   refine or_congr ⟨fun ⟨z,⟨a,b⟩,c⟩=>⟨z,b,by rw [if_neg a];exact c⟩,fun ⟨z,b,c⟩=>?_⟩ Iff.rfl
   split at c
   ·cases c
   ·rename_i h;exact⟨z,⟨h,b⟩,c⟩
  | tell y =>
   simp only [cN,jT,ft,List.mem_singleton]
   constructor
   ·rintro (⟨z,h | h,c⟩ | h)
    ·rw [h] at c;exact .inr (.inr c.symm)
    ·exact .inl ⟨z,h,c⟩
    ·exact .inr (.inl h)
   ·rintro (⟨z,h,c⟩ | h | h)
    ·exact .inl ⟨z,.inr h,c⟩
    ·exact .inr h
    ·exact .inl ⟨y,.inl rfl,h.symm⟩
theorem lp {ps:List Piece} {k:Nat} {p:Piece} (h:ps[k]? = some p) {x:Str} (hx:bD p.1 (eC ps p.2) x):bG ps k x:=by
 rcases (gN p.1 _ x).mp hx with ⟨y,a,e⟩ | a
 ·rcases a with a | ⟨k',hk,a⟩
  ·exact .ask h (List.mem_filterMap.mpr ⟨some x,List.mem_append_right _ (List.mem_map.mpr ⟨y,a,e⟩),rfl⟩)
  ·exact .back a h hk e
 ·exact .ask h (List.mem_filterMap.mpr ⟨some x,List.mem_append_left _ a,rfl⟩)
def cZ (f:Str->Bool) (ds:List aG):Str->Bool:=(fb f ds.reverse).2
theorem ni (f:Str->Bool) (l:List aG) (d:aG):fb f (l ++ [d])=L2.spS (fb f l) d:=by unfold fb;rw [List.foldl_append];rfl
theorem iH (f:Str->Bool) (d:aG) (r:List aG):cZ f (d :: r)=if cY (cZ f r) d=true then tF (cZ f r) d else cZ f r:=by
 unfold cZ
 rw [List.reverse_cons,ni]
 unfold L2.spS
 split <;> rfl
theorem dJ (f:Str->Bool) (d:aG) (r:List aG):aU f (d :: r)=if cY (cZ f r) d=true then d :: aU f r else aU f r:=by
 unfold aU cZ
 rw [List.reverse_cons,ni]
 unfold L2.spS
 split
 ·simp
 ·rfl
theorem iI (f:Str->Bool) (ds:List aG):∀ x,cZ f ds x=true ↔ bD ds (fun x=>f x=true) x:=by
 induction ds with
 | nil=>intro x;exact Iff.rfl
 | cons d r ih =>
  intro x
  rw [iH]
  show _ ↔ cN (bD r fun x=>f x=true) d x
  generalize cZ f r=g at ih
  generalize (bD r fun x=>f x=true)=A at ih
  cases d with
  | put y n =>
   show (if g y=true then gM g y else g) x=true ↔ x ≠ y/\A x
   split
   ·simp [gM,ih x]
   ·rename_i h
    rw [ih x]
    exact⟨fun a=>⟨fun e=>h ((ih y).mpr (e ▸ a)),a⟩,fun a=>a.2⟩
  | copy y z =>
   show (if g y=true then lN (gM g y) z else g) x=true ↔ (x ≠ y/\A x)\/(x=z/\A y)
   split
   ·rename_i h
    have hy:=(ih y).mp h
    simp only [lN,gM,Bool.or_eq_true,Bool.and_eq_true,decide_eq_true_eq,ih x]
    exact⟨fun a=>a.elim (fun e=>.inr ⟨e,hy⟩) .inl,fun a=>a.elim .inr fun b=>.inl b.1⟩
   ·rename_i h
    rw [ih x]
    exact⟨fun a=>.inl ⟨fun e=>h ((ih y).mpr (e ▸ a)),a⟩,fun a=>a.elim (fun b=>b.2) fun b=>absurd ((ih y).mpr b.2) h⟩
  | add y n =>
   show (if g y=true then g else g) x=true ↔ A x
   split <;> exact ih x
  | read y =>
   show (if true=true then gM g y else g) x=true ↔ x ≠ y/\A x
   rw [if_pos rfl]
   simp [gM,ih x]
  | tell y =>
   show (if true=true then lN g y else g) x=true ↔ x=y\/A x
   rw [if_pos rfl]
   simp [lN,ih x]
def iJ (ps qs:List Piece):Prop:=∀ (k:Nat) (p:Piece),ps[k]? = some p->∃ f:Str->Bool,qs[k]? = some (aU f p.1,p.2)/\∀ x,f x=true ↔ eC ps p.2 x
theorem cG (x:Str):∀ xs:List Str,dD (.str x) (xs.map V.str)=decide (x ∈ xs)
 | []=>rfl
 | y :: r=>by
  have ih:=cG x r
  unfold dD at ih ⊢
  rw [List.map_cons,List.any_cons,ih]
  by_cases e:y=x
  ·subst e;simp [jE]
  ·have:jE (V.str y) (V.str x)=false:=by
    show (y == x)=false
    exact beq_false_of_ne e
   rw [this,Bool.false_or]
   exact decide_eq_decide.mpr ⟨fun h=>List.mem_cons_of_mem _ h,fun h=>(List.mem_cons.mp h).resolve_left fun z=>e z.symm⟩
theorem dA:∀ xs:List Str,(xs.map V.str).all fG=true
 | []=>rfl
 | _ :: r=>dA r
end L2
namespace HT
open PySem PySem.Spec PyProof.Rows
section
variable {prog:Program} {w:World} {A:Around} {E:Value->Shared->Prop} {s:Shared}
theorem pO (n:Nat):Builtin.Slice.slicePlaces ((n:Int) - 1) (-1) (-1)=n:=by
 unfold Builtin.Slice.slicePlaces
 have h:¬ ((-1:Int) > 0):=by decide
 simp only [if_neg h]
 by_cases hn:n=0
 ·subst hn;rfl
 ·rw [if_pos (by omega)]
  have e:((n:Int) - 1 - -1 - 1) / (- -1)+1=n:=by
   rw [show ((n:Int) - 1 - -1 - 1)=n - 1 by omega,show (- -1:Int)=1 by decide,Int.ediv_one]
   omega
  rw [e]
  simp
theorem jV {sl:Addr} {vs:Value} {n:Nat} {Q:Int × Int × Nat->Shared->Prop} (hs:s.heap.IsSliceOf sl .none .none vs) (ps:IsPart vs (some (-1)))
  (h:Q ((n:Int) - 1,-1,n) s):wpAny (model prog w) A (Builtin.Slice.sliceApplied (.ref sl) (pure (n:Int))) Q E s:=by
 obtain⟨os,hos,hcs,hds⟩:=id hs
 unfold Builtin.Slice.sliceApplied Builtin.Slice.sliceFields
 refine wpAny_bind (wpAny_bind (wpAny_field hos hds (x:=.none) rfl (wpAny_bind (wpAny_field hos hds (x:=.none) rfl (wpAny_bind (wpAny_field hos hds (x:=vs) rfl (wpAny_pure ?_)))))))
 refine wpAny_bind (ir ps ?_)
 show wpAny _ _ (if ((-1:Int) == 0)=true then _ else _) _ _ s
 rw [if_neg (by decide)]
 refine wpAny_bind (slicePart_none (wpAny_bind (slicePart_none (wpAny_bind (wpAny_pure ?_)))))
 show wpAny _ _ (pure ((n:Int) - 1,(-1:Int),Builtin.Slice.slicePlaces ((n:Int) - 1) (-1) (-1))) _ _ s
 rw [pO]
 exact wpAny_pure h
theorem qW (xs:Array Value):((List.range xs.size).filterMap fun (m:Nat)=>xs[(((xs.size:Nat):Int) - 1+(m:Int) * -1).toNat]?).toArray=xs.toList.reverse.toArray:=by
 rw [<-L2.m6 xs.toList,Array.length_toList]
 congr 1
 refine L2.iD fun k hk=>?_
 have hk:k < xs.size:=List.mem_range.mp hk
 rw [Array.getElem?_toList]
 congr 1
 omega
theorem jA {t sl:Addr} {items:Array Value} {vs:Value} {Q:Value->Shared->Prop} (ht:IsTup s.heap t items) (hs:s.heap.IsSliceOf sl .none .none vs) (ps:IsPart vs (some (-1)))
  (h:Q (.ref s.heap.objs.size) { s with heap:=s.heap.push { cls:=.type "tuple",data:=.seq items.toList.reverse.toArray } })
  (hsz:items.size<=sizeLine):wpAny (model prog w) A (getItem (.ref t) (.ref sl)) Q E s:=by
 have htake:sizeOk (.seq items.toList.reverse.toArray):=by
  show items.toList.reverse.toArray.size<=sizeLine
  rw [List.size_toArray,List.length_reverse,Array.length_toList]
  exact hsz
 obtain⟨os,hos,hcs,hds⟩:=id hs
 have hTs:s.TypeIs (.ref sl) "slice" := ⟨os,hos,hcs⟩
 unfold getItem
 try with_reducible refine wpAny_holding ?_
 first | refine wpAny_bind (wpAny_pure ?_) | skip
 refine wpAny_bind (wpAny_sequenceKey ht.typeIs (by decide) ?_)
 refine wpAny_bind (wpAny_callSpecial?_slot (name:=Str.ofString "__getitem__") ht.typeIs PyProof.Rows.slot_tuple_getitem
  (wpAny_call_entry PyProof.Rows.slot_tuple_getitem ht.typeIs entry_tuple_getitem ?_ (args_tuple_getitem _ _)))
 show wpAny _ _ (Builtin.Tuple.tupleItemsOf (.ref t) >>= _) _ _ s
 refine wpAny_bind (tupleItemsOf_ ht ?_)
 refine wpAny_bind (wpAny_typeOf hTs ?_)
 rw [if_pos (by decide)]
 refine wpAny_bind (jV hs ps ?_)
 have hno:¬ ((((items.size:Nat):Int) - 1 == 0 && (-1:Int) == 1 && items.size == items.size)=true):=by
  intro q
  rw [Bool.and_eq_true,Bool.and_eq_true] at q
  exact absurd (eq_of_beq q.1.2) (by decide)
 show wpAny _ _ (if (((items.size:Nat):Int) - 1 == 0 && (-1:Int) == 1 && items.size == items.size)=true then _ else _) _ _ s
 rw [if_neg hno,qW]
 first
  | exact wpAny_bind (m:=Builtin.Tuple.tupleExact _) (wpAny_newObj_type (wpAny_pure ⟨_,rfl,wpAny_pure h⟩) htake)
  | exact wpAny_bind (m:=Builtin.Tuple.tupleExact _) (wpAny_newObj_type (wpAny_bind (wpAny_pure (wpAny_pure ⟨_,rfl,wpAny_pure h⟩))) htake)
  | exact wpAny_bind (wpAny_bind (m:=Builtin.Tuple.tupleExact _) (wpAny_newObj_type (wpAny_pure (wpAny_pure ⟨_,rfl,wpAny_pure h⟩)) htake))
  | exact wpAny_bind (wpAny_bind (m:=Builtin.Tuple.tupleExact _) (wpAny_newObj_type (wpAny_pure ⟨_,rfl,wpAny_pure h⟩) htake))
end
end HT
namespace L2
open PySem PySem.Spec PyProof.Rows LS
section
variable {X:Cx}
def wI (K:PySem.W.Frag) (te:TE) (ts:TO):TE:=fun σ H Q=>te σ H fun x H1=>ts σ H1 fun c H2=>c=some (-1)/\∃ l xs,x=.ref l/\ar K H2 l xs/\∀ p,H2 p=none->Q (.ref p) (upd H2 p (.tup xs.reverse))
theorem oT {e st:Expr} {te:TE} {ts:TO} {p2 pos:Pos} (he:PE X e te) (hs:PO X (some st) ts):PE X (.Subscript e (.Slice none none (some st) p2) pos) (wI X.K te ts):=by
 intro pins s σ H Q I h
 refine Subscript_ (aH (he pins s σ H _ I h) fun v s1 ⟨x,H1,I1,r1,q1⟩=>?_)
 refine wpAny_Slice ?_
 rw [evalPart_none]
 refine wpAny_pure (wpAny_pure (aH (hs pins s1 σ H1 _ I1 q1) fun vs s3 ⟨c,H3,I3,pc,q3⟩=>?_))
 obtain⟨rfl,l,xs,rfl,hS,q⟩:=q3
 cases r1
 have I4:Inv X pins σ H3 { s3 with heap:=s3.heap.push { cls:=.type "slice",data:=.fields #[.none,.none,vs] } }:=I3.kept (t':=s3.toks) fun b ob q=>Heap.get?_push_of_some _ q
 obtain⟨its,rv,ht,hz⟩:=I4.tuple hS
 have hzz:its.toArray.size<=sizeLine:=by rw [List.size_toArray,<-rv.length];exact hz
 show wpAny (model X.prog X.w) X.A (subscriptTail e (.Slice none none (some st) p2) (.ref l) (.ref s3.heap.objs.size)) (EP X pins σ Q) X.xe { s3 with heap:=s3.heap.push { cls:=.type "slice",data:=.fields #[.none,.none,vs] } }
 refine tail_any (ops:=[.ref l,.ref s3.heap.objs.size]) ht.typeIs PyProof.Rows.slot_tuple_getitem.lookup ?_ (by with_unfolding_all rfl)
 refine HT.jA ht (Heap.IsSliceOf.new ..) pc ?_ hzz
 refine⟨.ref _,_,I4.laid (t':=s3.toks) (o:=.tup xs.reverse) (fun b ob q=>Heap.get?_push_of_some _ q) (Nat.le_refl _) ?_,rfl,q _ (I4.aA.fresh (Nat.le_refl _))⟩
 exact⟨by rw [List.length_reverse];exact hz,its.reverse,rv.rev,⟨_,Heap.get?_push_size _ rfl,rfl,_,rfl,rfl⟩⟩
end
section
variable {prog:Program} {w:World} {A:Around} {E:Value->Shared->Prop} {s:Shared}
theorem nj {l:Addr} {vs:List Value} {ns:List Str} {Q:Value->Shared->Prop} (hl:s.heap.IsList l vs.toArray) (hI:StrsAre vs ns) (h64:vs.length < 64)
  (q:∀ (h':Heap) (D:Addr) (out:Array Value) (ns':List Str) (e:Nat),(∀ b o,s.heap.get? b=some o->h'.get? b=some o)->s.heap.objs.size<=D->h'.get? D=some { cls:=.type "list",data:=.seq out e } ->
   StrsAre out.toList ns'->ns'.Perm ns->sortedS ns' = true->Q (.ref D) { s with heap:=h' }):wpAny (model prog w) A (call (.builtin "sorted") [.ref l]) Q E s:=by
 refine sorted_strs hl hI h64 fun out ns' a1 a2 a3=>?_
 unfold sortedAll
 generalize hg:((s.heap.push (seqObj "list" #[] 0)).update s.heap.objs.size (Obj.mapSeq (· ++ vs.toArray)))=g
 have hz:g.objs.size=s.heap.objs.size+1:=by rw [<-hg,Heap.size_update,size_push']
 have kp:∀ b o,s.heap.get? b=some o->g.get? b=some o:=fun b o e=>by
  rw [<-hg]
  exact (Heap.get?_update_other _ _ (Nat.ne_of_gt (Heap.lt_size e))).trans (Heap.get?_push_of_some _ e)
 have hoL:(g.push (seqObj "list" vs.toArray 0)).get? (s.heap.objs.size+1)=some (seqObj "list" vs.toArray 0):=by rw [<-hz];exact Heap.get?_push_size _ rfl
 obtain⟨e,he⟩:=sortedHeap_at (out:=out) hoL
 refine q _ _ out ns' e (fun b o ho=>?_) (Nat.le_succ _) he a1 a2 a3
 have h1:=kp b o ho
 have hlt:=Heap.lt_size ho
 rw [sortedHeap_old (Nat.ne_of_lt (Nat.lt_succ_of_lt hlt)) (by rw [size_push',hz];exact Nat.lt_succ_of_lt (Nat.lt_succ_of_lt hlt))]
 exact Heap.get?_push_of_some _ h1
end
section
variable {X:Cx}
theorem iQ:fh X (.builtin "sorted") (fun vs H Q=>∃ (p:Addr) (ns:List Str),vs = [.ref p]/\av X.K H p (ns.map V.str)/\ns.length < 64 /\
  ∀ (l:Addr) (ns':List Str),ns'.Perm ns->sortedS ns' = true->H l=none->Q (.ref l) (upd H l (.lst (ns'.map V.str)))):=by
 intro pins s σ H xs us Q I r h
 obtain⟨p,ns,rfl,hp,h64,q⟩:=h
 obtain⟨u,rfl,ru⟩:=vals1 r
 cases (show u=Value.ref p from ru)
 obtain⟨its,hv,pl,_⟩:=I.list hp
 have hi:=kf hv
 refine nj pl.isList hi (by have:=hv.length;rw [List.length_map] at this;omega) fun h' D out ns' e hkeep hD he hS hp' hs=>?_
 have hv':Vals (ns'.map V.str) out.toList:=kW hS
 refine⟨.ref D,_,I.laid (t':=s.toks) (o:=.lst (ns'.map V.str)) hkeep hD (show bA X.prog X.w _ h' _ (.lst (ns'.map V.str)) from ⟨?_,out.toList,e,hv',by simpa using he⟩),rfl,q D ns' hp' hs (I.aA.fresh hD)⟩
 rw [List.length_map,hp'.length_eq]
 exact Nat.le_trans (Nat.le_of_lt h64) (by decide)
end
theorem lO {X:Cx} {K:PySem.W.Frag} (h:X.K=K):de X (compareOp .NotIn) (ve K true):=by subst h;exact gD
def gO (F:List (List Str)) (e:End) (x:Str):Prop:=x ∈ bf e\/∃ k ∈ aV e,cA F k x
def qX (ps:List Piece) (F:List (List Str)) (k:Nat) (x:Str):Prop:=∃ p,ps[k]? = some p/\bD p.1 (gO F p.2) x
theorem eD {A B:Str->Prop} (h:∀ x,A x->B x) (d:aG) (x:Str):cN A d x->cN B d x:=by
 cases d with
 | put y n=>exact fun q=>⟨q.1,h x q.2⟩
 | copy y z=>exact fun q=>q.elim (fun a=>.inl ⟨a.1,h x a.2⟩) fun a=>.inr ⟨a.1,h y a.2⟩
 | add y n=>exact h x
 | read y=>exact fun q=>⟨q.1,h x q.2⟩
 | tell y=>exact fun q=>q.elim .inl fun a=>.inr (h x a)
theorem fz {A B:Str->Prop} (h:∀ x,A x->B x):∀ (ds:List aG) (x:Str),bD ds A x->bD ds B x
 | [],x=>h x
 | d :: r,x=>eD (fz h r) d x
structure fE (ps:List Piece) (F:List (List Str)):Prop where
 len:F.length=ps.length
 row:∀ (k:Nat) (xs:List Str),F[k]? = some xs->sortedS xs=true/\xs.Nodup
 sound:∀ k x,cA F k x->bG ps k x
 vW:∀ k x,cA F k x->qX ps F k x
def total (F:List (List Str)):Nat:=(F.map List.length).sum
theorem lP:∀ (F:List (List Str)) (k:Nat) (old ys:List Str),F[k]? = some old->total (F.set k ys)+old.length=total F+ys.length
 | [],k,old,ys,h=>by simp at h
 | f :: F,0,old,ys,h=>by
  cases h
  simp only [total,List.set_cons_zero,List.map_cons,List.sum_cons]
  omega
 | f :: F,k+1,old,ys,h=>by
  have ih:=lP F k old ys h
  simp only [total,List.set_cons_succ,List.map_cons,List.sum_cons] at ih ⊢
  omega
theorem nq:∀ (F:List (List Str)) (n:Nat),(∀ xs ∈ F,xs.length<=n)->total F<=F.length * n
 | [],n,_=>by simp [total]
 | f :: F,n,h=>by
  have ih:=nq F n fun xs hx=>h xs (List.mem_cons_of_mem _ hx)
  have h1:=h f (List.mem_cons_self ..)
  simp only [total,List.map_cons,List.sum_cons,List.length_cons,Nat.succ_mul] at ih ⊢
  omega
theorem wJ {l m:List Str} (hl:l.Nodup) (h:∀ x ∈ l,x ∈ m) (hm:m.length<=l.length):∀ x ∈ m,x ∈ l:=fun x hx=>by
 by_cases e:x ∈ l
 ·exact e
 ·have h1:(x :: l).Nodup:=List.nodup_cons.mpr ⟨e,hl⟩
  have h2:=fH h1 fun y hy=>(List.mem_cons.mp hy).elim (fun z=>z ▸ hx) (h y)
  rw [List.length_cons] at h2
  omega
theorem lq {F:List (List Str)} {k:Nat} {old ys:List Str} (hk:F[k]? = some old) {j:Nat} {x:Str}:cA (F.set k ys) j x ↔ (j=k/\x ∈ ys)\/(j ≠ k/\cA F j x):=by
 have hl:k < F.length:=(List.getElem?_eq_some_iff.mp hk).1
 unfold cA
 by_cases e:j=k
 ·subst e
  rw [List.getElem?_set_self hl]
  simp
 ·rw [List.getElem?_set_ne (fun z=>e z.symm)]
  simp [e]
theorem sJ {ps:List Piece} {F:List (List Str)} (hs:∀ k x,cA F k x->bG ps k x) {k:Nat} {p:Piece} (hp:ps[k]? = some p) {x:Str} (h:bD p.1 (gO F p.2) x):bG ps k x :=
 lp hp (fz (fun x q=>q.elim .inl fun ⟨k',a,b⟩=>.inr ⟨k',a,hs k' x b⟩) _ _ h)
theorem fE.set {ps:List Piece} {F:List (List Str)} (I:fE ps F) {k:Nat} {old ys:List Str} {p:Piece} (hk:F[k]? = some old) (hp:ps[k]? = some p) (h1:sortedS ys=true) (h2:ys.Nodup) (hy:∀ x,x ∈ ys ↔ bD p.1 (gO F p.2) x) :
    fE ps (F.set k ys)/\(ys ≠ old->total F < total (F.set k ys)):=by
  have sub:∀ x ∈ old,x ∈ ys:=fun x hx=>by
    obtain⟨p',hp',h⟩:=I.vW k x ⟨old,hk,hx⟩
    rw [hp] at hp'
    cases hp'
    exact (hy x).mpr h
  have up:∀ j x,cA F j x->cA (F.set k ys) j x:=fun j x h=>(lq hk).mpr (by
    by_cases e:j=k
    · subst e
      obtain⟨xs,a,b⟩:=h
      rw [hk] at a
      cases a
      exact .inl ⟨rfl,sub x b⟩
    · exact .inr ⟨e,h⟩)
  have upA:∀ e x,gO F e x->gO (F.set k ys) e x:=fun e x h=>h.elim .inl fun ⟨j,a,b⟩=>.inr ⟨j,a,up j x b⟩
  refine⟨⟨by rw [List.length_set];exact I.len,fun j xs h=>?_,fun j x h=>?_,fun j x h=>?_⟩,fun ne=>?_⟩
  · by_cases e:j=k
    · subst e
      rw [List.getElem?_set_self (List.getElem?_eq_some_iff.mp hk).1] at h
      cases h
      exact⟨h1,h2⟩
    · rw [List.getElem?_set_ne (fun z=>e z.symm)] at h
      exact I.row j xs h
  · rcases (lq hk).mp h with ⟨rfl,a⟩ | ⟨_,a⟩
    · exact sJ I.sound hp ((hy x).mp a)
    · exact I.sound j x a
  · rcases (lq hk).mp h with ⟨rfl,a⟩ | ⟨_,a⟩
    · exact⟨p,hp,fz (upA _) _ _ ((hy x).mp a)⟩
    · obtain⟨p',a1,a2⟩:=I.vW j x a
      exact⟨p',a1,fz (upA _) _ _ a2⟩
  · have ht:=lP F k old ys hk
    have ho:=(I.row k old hk)
    have:¬ ys.length<=old.length:=fun hle=>ne (jJ.unique ⟨e7 h1,h2⟩ ⟨e7 ho.1,ho.2⟩ fun x=>⟨wJ ho.2 sub hle x,sub x⟩)
    omega
theorem fE.done {ps:List Piece} {F:List (List Str)} (hc:∀ k x,qX ps F k x->cA F k x) {k:Nat} {x:Str} (h:bG ps k x):cA F k x:=by
 induction h with
 | @ask k p x hp hx =>
  refine hc k x ⟨p,hp,(gN _ _ _).mpr ?_⟩
  obtain⟨o,ho,e⟩:=List.mem_filterMap.mp hx
  have e:o=some x:=e
  subst e
  rcases List.mem_append.mp ho with a | a
  ·exact .inr a
  ·obtain⟨y,b1,b2⟩:=List.mem_map.mp a
   exact .inl ⟨y,.inl b1,b2⟩
 | @back k a p x y h hp hk hy ih=>exact hc a y ⟨p,hp,(gN _ _ _).mpr (.inl ⟨x,.inr ⟨k,hk,ih⟩,hy⟩)⟩
theorem fE.start {ps:List Piece}:fE ps (List.replicate ps.length []):=by
 have no:∀ k x,¬ cA (List.replicate ps.length []) k x:=fun k x ⟨xs,h,hx⟩=>by
  rw [List.getElem?_replicate] at h
  split at h
  ·cases h;cases hx
  ·cases h
 refine⟨List.length_replicate,fun k xs h=>?_,fun k x h=>absurd h (no k x),fun k x h=>absurd h (no k x)⟩
 rw [List.getElem?_replicate] at h
 split at h
 ·cases h;exact⟨rfl,List.nodup_nil⟩
 ·cases h
def gW (H:Hp) (rl:Addr) (vs:List V) (F:List (List Str)):Prop:=vs.length=F.length/\∀ (i:Nat) (xs:List Str),F[i]? = some xs->∃ a:Addr,vs[i]? = some (.ref a)/\a ≠ rl/\H a=some (.lst (xs.map V.str))
def eT (H:Hp) (rl:Addr) (F:List (List Str)):Prop:=∃ vs,H rl=some (.lst vs)/\gW H rl vs F
theorem eT.same {H H':Hp} {rl:Addr} {F:List (List Str)} (h:eT H rl F) (s:af H H'):eT H' rl F:=by
 obtain⟨vs,h1,h2,h3⟩:=h
 exact⟨vs,s _ _ h1,h2,fun i xs hx=>by obtain⟨a,a1,a2,a3⟩:=h3 i xs hx;exact⟨a,a1,a2,s _ _ a3⟩⟩
theorem gW.put {H:Hp} {rl a:Addr} {vs:List V} {F:List (List Str)} (h:gW H rl vs F) {k:Nat} {ys:List Str} (hk:k < F.length) (ha:H a=some (.lst (ys.map V.str))) (hn:a ≠ rl) :
  eT (upd H rl (.lst (vs.set k (.ref a)))) rl (F.set k ys):=by
 refine⟨_,aa,by rw [List.length_set,List.length_set];exact h.1,fun i xs hx=>?_⟩
 by_cases e:i=k
 ·subst e
  rw [List.getElem?_set_self hk] at hx
  cases hx
  exact⟨a,by rw [List.getElem?_set_self (by rw [h.1];exact hk)],hn,by rw [ae hn];exact ha⟩
 ·rw [List.getElem?_set_ne (fun z=>e z.symm)] at hx
  obtain⟨b,b1,b2,b3⟩:=h.2 i xs hx
  exact⟨b,by rw [List.getElem?_set_ne (fun z=>e z.symm)];exact b1,b2,by rw [ae b2];exact b3⟩
theorem gW.snoc {H H':Hp} {rl a:Addr} {vs:List V} {F:List (List Str)} {ys:List Str} (h:gW H rl vs F) (hk:∀ c o,H c=some o->c ≠ rl->H' c=some o) (ha:H' a=some (.lst (ys.map V.str))) (hn:a ≠ rl):gW H' rl (vs ++ [.ref a]) (F ++ [ys]):=by
 refine⟨by rw [List.length_append,List.length_append,h.1];rfl,fun i xs hx=>?_⟩
 by_cases e:i < F.length
 ·rw [List.getElem?_append_left e] at hx
  obtain⟨b,b1,b2,b3⟩:=h.2 i xs hx
  exact⟨b,by rw [List.getElem?_append_left (by rw [h.1];exact e)];exact b1,b2,hk _ _ b3 b2⟩
 ·rw [List.getElem?_append_right (by omega)] at hx
  have hi:i - F.length=0:=by
   have:=(List.getElem?_eq_some_iff.mp hx).1
   simp at this
   omega
  rw [hi] at hx
  cases hx
  exact⟨a,by rw [List.getElem?_append_right (by rw [h.1];omega),h.1,hi];rfl,hn,ha⟩
theorem nu:∀ (xs ys:List Str),PyData.eqvAll (xs.map PyData.str) (ys.map PyData.str)=decide (xs=ys)
 | [],[]=>rfl
 | [],_ :: _=>rfl
 | _ :: _,[]=>rfl
 | x :: xs,y :: ys=>by
  show ((x == y) && PyData.eqvAll (xs.map PyData.str) (ys.map PyData.str))=_
  rw [nu xs ys]
  by_cases e:x=y
  ·subst e;simp
  ·rw [beq_false_of_ne e];simp [e]
theorem jh (xs:List Str):(PyData.list (xs.map PyData.str)).depth<=1:=by
 have h:PyData.depthAll (xs.map PyData.str)<=0:=ie _ fun d hd=>by obtain⟨x,_,rfl⟩:=List.mem_map.mp hd;exact Nat.le_refl 0
 show PyData.depthAll (xs.map PyData.str)+1<=1
 omega
theorem ji {xs:List Str} (h:∀ x ∈ xs,bT x):(PyData.list (xs.map PyData.str)).canLay0=true:=by
 have:=cF (xs.map PyData.str) fun d hd=>by obtain⟨x,hx,rfl⟩:=List.mem_map.mp hd;exact sI (h x hx)
 exact this
theorem jW {H:Hp}:∀ xs:List Str,aD H (xs.map V.str) (xs.map PyData.str)
 | []=>.nil
 | x :: r=>.cons (.str x) (jW r)
theorem pP {pool:List Str} {A:Str->Prop} (h:∀ x,A x->x ∈ pool) {d:aG} (hd:d8 pool d) {x:Str}:cN A d x->x ∈ pool:=by
 cases d with
 | put y n=>exact fun q=>h x q.2
 | copy y z=>exact fun q=>q.elim (fun a=>h x a.2) fun a=>a.1 ▸ hd.2
 | add y n=>exact h x
 | read y=>exact fun q=>h x q.2
 | tell y=>exact fun q=>q.elim (fun e=>e ▸ hd) (h x)
theorem gc {pool:List Str} {A:Str->Prop} (h:∀ x,A x->x ∈ pool):∀ {ds:List aG},(∀ d ∈ ds,d8 pool d)->∀ {x:Str},bD ds A x->x ∈ pool
 | [],_,x=>h x
 | d :: r,hd,x=>pP (fun y hy=>gc h (fun d' h'=>hd d' (List.mem_cons_of_mem _ h')) hy) (hd d (List.mem_cons_self ..))
theorem lQ {pool:List Str} {m:Nat} {ps:List Piece} (ok:cR pool m ps) {F:List (List Str)} (hs:∀ k x,cA F k x->bG ps k x) {k:Nat} {p:Piece} (hp:ps[k]? = some p) {x:Str} (h:gO F p.2 x):x ∈ pool:=by
 rcases h with h | ⟨k',_,h⟩
 ·have:=ok.ends p (List.mem_of_getElem? hp)
  obtain⟨ds,e⟩:=p
  cases e with
  | stop=>cases h
  | go q=>cases h
  | eS b y n q r=>rw [List.mem_singleton.mp h];exact this.1
 ·exact dz ok (hs k' x h)
theorem nv {ds:List aG} {j:Nat} {d:aG} (h:ds.reverse[j]? = some d):(ds.reverse.take (j+1)).reverse=d :: (ds.reverse.take j).reverse:=by
 rw [List.take_add_one,h]
 show (ds.reverse.take j ++ [d]).reverse=_
 rw [List.reverse_append]
 rfl
theorem vX {n i:Nat} (h:i < n):i4 n (i:Int)=some i:=by
 unfold i4
 simp
 omega
section
variable {X:Cx}
theorem uD:de X (binaryOp .Mult) (fun x y H Q=>∃ t n,x=.str t/\y=.int n/\MulOk t n/\Q (.str (Txt.mul t n)) H):=by
 intro pins s σ H x y v u Q I rx ry h
 obtain⟨t,n,rfl,rfl,hm,q⟩:=h
 obtain⟨k,rfl⟩:=rx
 obtain⟨k',rfl⟩:=ry
 exact SB.mul hm fun t' j=>⟨.str _,H,I.tok _,⟨_,rfl⟩,q⟩
end
theorem sM {c0 c:Nat} {n:Int} (h0:97<=c0/\c0<=122) (hc:97<=c/\c<=122) (h1:1<=n) (h3:n<=4):MulOk ⟨#[c]⟩ n/\(Txt.mul ⟨#[c]⟩ n).length<=4/\bT ((⟨#[c0]⟩:Str)++Txt.mul ⟨#[c]⟩ n):=by
 obtain rfl | rfl | rfl | rfl:n=1\/n=2\/n=3\/n=4:=by omega
 ·refine⟨⟨by decide,fun _ h=>absurd h (by show ¬ true=false;decide),fun _ h=>absurd h (by show ¬ true=false;decide)⟩,by show 1<=4;decide,⟨by show 1<=2;decide,by show 2<=8;decide,fun d hd=>?_⟩⟩
  have:d ∈ [c0,c]:=hd
  simp at this
  omega
 ·refine⟨⟨by decide,fun _ _=>by show ¬ ((1:Nat):Int) > _;decide,fun _ _=>by show Builtin.Str.tooLong (1 * 2)=false;decide⟩,by show 2<=4;decide,⟨by show 1<=3;decide,by show 3<=8;decide,fun d hd=>?_⟩⟩
  have:d ∈ [c0,c,c]:=hd
  simp at this
  omega
 ·refine⟨⟨by decide,fun _ _=>by show ¬ ((1:Nat):Int) > _;decide,fun _ _=>by show Builtin.Str.tooLong (1 * 3)=false;decide⟩,by show 3<=4;decide,⟨by show 1<=4;decide,by show 4<=8;decide,fun d hd=>?_⟩⟩
  have:d ∈ [c0,c,c,c]:=hd
  simp at this
  omega
 ·refine⟨⟨by decide,fun _ _=>by show ¬ ((1:Nat):Int) > _;decide,fun _ _=>by show Builtin.Str.tooLong (1 * 4)=false;decide⟩,by show 4<=4;decide,⟨by show 1<=5;decide,by show 5<=8;decide,fun d hd=>?_⟩⟩
  have:d ∈ [c0,c,c,c,c]:=hd
  simp at this
  omega
theorem sN (L:List (List Str)):(jv L).depth<=60:=by
 have h:=ie (m:=1) (L.map fun xs=>PyData.tuple (xs.map PyData.str)) fun d hd=>by
  obtain⟨xs,_,rfl⟩:=List.mem_map.mp hd
  exact jh xs
 show PyData.depthAll (L.map fun xs=>PyData.tuple (xs.map PyData.str))+1<=60
 omega
theorem sO {L:List (List Str)} (h:∀ xs ∈ L,∀ x ∈ xs,bT x):(jv L).canLay0=true :=
 cF _ fun d hd=>by
  obtain⟨xs,hx,rfl⟩:=List.mem_map.mp hd
  exact ji (h xs hx)
def jw:Sp:=fun vs H Q _=>∃ (dp l:Addr) (d:aG) (ns:List Str),vs = [.ref dp,.ref l]/\H dp=some (.tup (kr d))/\H l=some (.lst (ns.map V.str))/\ns.Nodup/\ns.length<=100 /\
 ∀ (l':Addr) (ns':List Str) H',H' l' = some (.lst (ns'.map V.str))->ns'.Nodup->(∀ x,x ∈ ns' ↔ cN (· ∈ ns) d x)->(l' = l\/H l' = none)->af H H'->Q (.ref l') H'
def fJ:Sp:=fun vs H Q _=>∃ (plv:V) (rl:Addr) (ps:List Piece) (F:List (List Str)) (k:Nat) (ds:List aG) (e:End),vs = [plv,.int (k:Nat),.ref rl]/\aP H plv (bQ ps)/\i8 ps/\ps[k]? = some (ds,e)/\F.length=ps.length/\ps.length<=400/\eT H rl F/\(∀ (k:Nat) (xs:List Str),F[k]? = some xs->xs.Nodup/\xs.length<=100) /\
 ∀ (l:Addr) (ns:List Str) H',H' l=some (.lst (ns.map V.str))->ns.Nodup->(∀ x,x ∈ ns ↔ gO F e x)->H l=none->af H H'->Q (.ref l) H'
def iK:Sp:=fun vs H Q _=>∃ (plv:V) (ps:List Piece) (pool:List Str) (m:Nat),vs = [plv]/\aP H plv (bQ ps)/\cR pool m ps/\(∀ x ∈ pool,bT x)/\m<=500/\pool.length < 64/\ps.length<=400 /\
 ∀ (l:Addr) (F:List (List Str)) H',eT H' l F->F.length=ps.length->(∀ (k:Nat) (xs:List Str),F[k]? = some xs->sortedS xs=true/\xs.Nodup/\∀ x,x ∈ xs ↔ bG ps k x)->af H H'->Q (.ref l) H'
def jX:Sp:=fun vs H Q _=>∃ (b:Addr) (c:Nat),vs = [.ref b,.int c]/\bM H b/\0 < c/\c<=1000/\∀ v xs ps H',aP H' v (bQ ps)->ps.length=c->cR xs 4 ps->((∀ x ∈ xs,bT x)/\xs.length<=60)->bM H' b->Fix b H H'->Q v H'
theorem oU {X:Cx} {K:PySem.W.Frag} (h:X.K=K):qg X (vb K):=by subst h;exact bo
theorem pQ (f:Str->Bool) (ds:List aG):(aU f ds).length<=ds.length:=by
 induction ds with
 | nil=>exact Nat.le_refl _
 | cons d r ih =>
  rw [dJ]
  split
  ·exact Nat.succ_le_succ ih
  ·exact Nat.le_succ_of_le ih
theorem g0 (f:Str->Bool):∀ ds:List aG,cZ f (aU f ds)=cZ f ds
 | []=>rfl
 | d :: r=>by
  have ih:=g0 f r
  rw [dJ,iH]
  by_cases h:cY (cZ f r) d=true
  ·rw [if_pos h,if_pos h,iH,ih,if_pos h]
  ·rw [if_neg h,if_neg h,ih]
theorem jj (f:Str->Bool):∀ ds:List aG,aU f (aU f ds)=aU f ds
 | []=>rfl
 | d :: r=>by
  have ih:=jj f r
  rw [dJ]
  by_cases h:cY (cZ f r) d=true
  ·rw [if_pos h,dJ,g0,if_pos h,ih]
  ·rw [if_neg h,ih]
theorem iL (f:Str->Bool):∀ (ds:List aG),∀ d ∈ aU f ds,d ∈ ds
 | [],d,h=>h
 | e :: r,d,h=>by
  rw [dJ] at h
  split at h
  ·rcases List.mem_cons.mp h with a | a
   ·rw [a];exact List.mem_cons_self ..
   ·exact List.mem_cons_of_mem _ (iL f r d a)
  ·exact List.mem_cons_of_mem _ (iL f r d h)
theorem kL {f:Str->Bool} {A:Str->Prop} (hA:∀ x,A x->f x=true):∀ (ds:List aG) (x:Str),bD ds A x->bD (aU f ds) A x
 | [],x,h=>h
 | d :: r,x,h=>by
  have ih:=kL hA r
  have h:cN (bD r A) d x:=h
  have no:∀ y,¬ cZ f r y=true->¬ bD r A y:=fun y hy hl=>hy ((iI f r y).mpr (fz hA r y hl))
  rw [dJ]
  by_cases hk:cY (cZ f r) d=true
  ·rw [if_pos hk]
   exact eD ih d x h
  ·rw [if_neg hk]
   cases d with
   | put y n=>exact ih x h.2
   | copy y z =>
    rcases h with h | h
    ·exact ih x h.2
    ·exact absurd h.2 (no y hk)
   | add y n=>exact ih x h
   | read y=>exact absurd rfl hk
   | tell y=>exact absurd rfl hk
theorem nP {f:Str->Bool} (ds:List aG) (x:Str) (h:bD (aU f ds) (fun x=>f x=true) x):bD ds (fun x=>f x=true) x:=by
 rw [<-iI] at h ⊢
 rw [g0] at h
 exact h
def xH (P:Nat->Str->Prop) (e:End) (x:Str):Prop:=x ∈ bf e\/∃ k ∈ aV e,P k x
theorem kM {ps:List Piece} {P:Nat->Str->Prop} (hc:∀ (k:Nat) (p:Piece) (x:Str),ps[k]? = some p->bD p.1 (xH P p.2) x->P k x) {k:Nat} {x:Str} (h:bG ps k x):P k x:=by
 induction h with
 | @ask k p x hp hx =>
  refine hc k p x hp ((gN _ _ _).mpr ?_)
  obtain⟨o,ho,e⟩:=List.mem_filterMap.mp hx
  have e:o=some x:=e
  subst e
  rcases List.mem_append.mp ho with a | a
  ·exact .inr a
  ·obtain⟨y,b1,b2⟩:=List.mem_map.mp a
   exact .inl ⟨y,.inl b1,b2⟩
 | @back k a p x y h hp hk hy ih=>exact hc a p y hp ((gN _ _ _).mpr (.inl ⟨x,.inr ⟨k,hk,ih⟩,hy⟩))
theorem lr {ps qs:List Piece} (hQ:iJ ps qs) (hl:qs.length=ps.length) {k:Nat} {p':Piece} (h:qs[k]? = some p'):∃ p f,ps[k]? = some p/\p' = (aU f p.1,p.2)/\∀ x,f x=true ↔ eC ps p.2 x:=by
 have hk:k < ps.length:=by have:=(List.getElem?_eq_some_iff.mp h).1;omega
 have hp:ps[k]? = some ps[k]:=by simp [hk]
 obtain⟨f,a,b⟩:=hQ k _ hp
 rw [h] at a
 cases a
 exact⟨_,f,hp,rfl,b⟩
theorem iM {ps qs:List Piece} (hQ:iJ ps qs) (hl:qs.length=ps.length) (k:Nat) (x:Str):bG qs k x ↔ bG ps k x:=by
 have sub2:∀ {k:Nat} {x:Str},bG qs k x->bG ps k x:=fun {k x} h=>kM (P:=bG ps) (fun k p' x hp' hx=>by
  obtain⟨p,f,hp,rfl,hf⟩:=lr hQ hl hp'
  have hA:(fun x=>f x=true)=eC ps p.2:=funext fun x=>propext (hf x)
  refine lp hp ?_
  rw [<-hA]
  refine nP _ _ ?_
  rw [hA]
  exact hx) h
 refine⟨sub2,fun h=>kM (P:=bG qs) (fun k p x hp hx=>?_) h⟩
 obtain⟨f,hq,hf⟩:=hQ k p hp
 refine lp hq ?_
 exact kL (A:=eC qs p.2) (fun y hy=>(hf y).mpr (hy.elim .inl fun ⟨k',a,b⟩=>.inr ⟨k',a,sub2 b⟩)) _ _ hx
theorem nQ {ps qs:List Piece} (hQ:iJ ps qs) (hl:qs.length=ps.length) (e:End) (x:Str):eC qs e x ↔ eC ps e x :=
 or_congr Iff.rfl ⟨fun ⟨k,a,b⟩=>⟨k,a,(iM hQ hl k x).mp b⟩,fun ⟨k,a,b⟩=>⟨k,a,(iM hQ hl k x).mpr b⟩⟩
theorem wK {f g:Str->Bool} {A:Str->Prop} (hf:∀ x,f x=true ↔ A x) (hg:∀ x,g x=true ↔ A x):f=g:=funext fun x=>by
 have:=(hf x).trans (hg x).symm
 cases h1:f x <;> cases h2:g x <;> simp_all
theorem ny {ps qs rs:List Piece} (h1:iJ ps qs) (l1:qs.length=ps.length) (h2:iJ ps rs) (l2:rs.length=ps.length):qs=rs:=by
 refine List.ext_getElem? fun k=>?_
 by_cases hk:k < ps.length
 ·have hp:ps[k]? = some ps[k]:=by simp [hk]
  obtain⟨f,a,b⟩:=h1 k _ hp
  obtain⟨g,c,d⟩:=h2 k _ hp
  rw [a,c,wK b d]
 ·rw [List.getElem?_eq_none (by omega),List.getElem?_eq_none (by omega)]
theorem pR {ps qs:List Piece} (h1:iJ ps qs) (l1:qs.length=ps.length):iJ qs qs:=fun k p' hp'=>by
 obtain⟨p,f,hp,rfl,hf⟩:=lr h1 l1 hp'
 refine⟨f,?_,fun x=>(hf x).trans (nQ h1 l1 _ x).symm⟩
 rw [hp']
 show some (aU f p.1,p.2)=some (aU f (aU f p.1),p.2)
 rw [jj]
theorem qY {pool:List Str} {m:Nat} {ps qs:List Piece} (ok:cR pool m ps) (h1:iJ ps qs) (l1:qs.length=ps.length):cR pool m qs:=by
 have go:∀ p' ∈ qs,∃ p f,p ∈ ps/\p' = (aU f p.1,p.2):=fun p' h=>by
  obtain⟨k,hk,e⟩:=List.getElem_of_mem h
  obtain⟨p,f,hp,e2,_⟩:=lr h1 l1 (k:=k) (p':=p') (by rw [List.getElem?_eq_getElem hk,e])
  exact⟨p,f,List.mem_of_getElem? hp,e2⟩
 refine⟨fun p' h=>?_,fun p' h=>?_⟩
 ·obtain⟨p,f,hp,rfl⟩:=go p' h
  exact⟨Nat.le_trans (pQ f p.1) (ok.cS p hp).1,fun d hd=>(ok.cS p hp).2 d (iL f _ d hd)⟩
 ·obtain⟨p,f,hp,rfl⟩:=go p' h
  rw [l1]
  exact ok.ends p hp
def nz (ps:List Piece) (F:List (List Str)):Prop:=F.length=ps.length/\∀ (k:Nat) (xs:List Str),F[k]? = some xs->sortedS xs=true/\xs.Nodup/\∀ x,x ∈ xs ↔ bG ps k x
theorem nz.ask {ps:List Piece} {F:List (List Str)} (h:nz ps F) (hin:i8 ps) {k:Nat} {ds:List aG} {e:End} (hp:ps[k]? = some (ds,e)) (x:Str):gO F e x ↔ eC ps e x:=by
 refine or_congr Iff.rfl ⟨fun ⟨k,a,xs,b,c⟩=>⟨k,a,((h.2 k xs b).2.2 x).mp c⟩,fun ⟨k',a,b⟩=>?_⟩
 have hk:k' < F.length:=by rw [h.1];exact iA hin hp k' a
 have hF:F[k']? = some F[k']:=by simp [hk]
 exact⟨k',a,_,hF,((h.2 k' _ hF).2.2 x).mpr b⟩
def nA:Sp:=fun vs H Q _=>∃ (plv:V) (rl:Addr) (ps:List Piece) (F:List (List Str)) (k:Nat) (ds:List aG) (e:End) (pool:List Str) (m:Nat),vs = [plv,.int (k:Nat),.ref rl]/\aP H plv (bQ ps)/\cR pool m ps/\m<=500/\pool.length < 64/\ps.length<=400/\ps[k]? = some (ds,e)/\eT H rl F/\nz ps F /\
 ∀ (t:Addr) (us:List V) (f:Str->Bool) H',H' t=some (.tup us)->aD H' us ((aU f ds).map aY)->(∀ x,f x=true ↔ eC ps e x)->af H H'->Q (.ref t) H'
end L2
namespace My
open PySem PySem.Spec PyProof.Rows L2
def top (i:Nat):Stmt:=PySem.Challenge.pw_ledpast_k36_spare_deeds_by_hand.main.body.getD i (.Pass ⟨0,0,0,0⟩)
structure Bl (mg:Str->Option Value):Prop where
 len:mg "len" = none
 zip:mg "zip" = none
 tuple:mg "tuple" = none
 set:mg "set" = none
 min:mg "min" = none
 range:mg "range" = none
 list:mg "list" = none
 int:mg "int" = none
 enumerate:mg "enumerate" = none
 sorted:mg "sorted" = none
 reversed:mg "reversed" = none
abbrev cn:Stmt:=top 2
theorem jY:aX ["thing", "kinds", "wanted"] ["thing", "kinds", "wanted"] (au cn):=⟨rfl,rfl,rfl,by decide +kernel,rfl,by decide +kernel,by decide +kernel⟩
abbrev fc:Stmt:=top 3
theorem pS:aX ["end"] ["end"] (au fc):=⟨rfl,rfl,rfl,by decide +kernel,rfl,by decide +kernel,by decide +kernel⟩
abbrev eE:Stmt:=top 5
theorem nR:aX ["end"] ["end"] (au eE):=⟨rfl,rfl,rfl,by decide +kernel,rfl,by decide +kernel,by decide +kernel⟩
abbrev fF:Stmt:=top 6
theorem er:aX ["piece", "deeds", "end", "sources", "asked", "deed", "word", "name"] ["piece"] (au fF):=⟨rfl,rfl,rfl,by decide +kernel,rfl,by decide +kernel,by decide +kernel⟩
abbrev dM:Stmt:=top 7
theorem dq:aX ["plan", "back", "at", "deeds", "end", "way"] ["plan"] (au dM):=⟨rfl,rfl,rfl,by decide +kernel,rfl,by decide +kernel,by decide +kernel⟩
abbrev ij:Stmt:=top 8
theorem eF:aX ["plan", "traces", "back", "found", "waiting", "at", "name", "ahead", "source"] ["plan"] (au ij):=⟨rfl,rfl,rfl,by decide +kernel,rfl,by decide +kernel,by decide +kernel⟩
abbrev cq:Stmt:=top 9
theorem cM:aX ["deeds", "names", "wanted", "kept", "deed", "word", "name"] ["deeds", "names"] (au cq):=⟨rfl,rfl,rfl,by decide +kernel,rfl,by decide +kernel,by decide +kernel⟩
abbrev gm:Stmt:=top 10
theorem eY:aX ["plan", "at_pieces", "pieces", "deeds", "end", "names", "way"] ["plan"] (au gm):=⟨rfl,rfl,rfl,by decide +kernel,rfl,by decide +kernel,by decide +kernel⟩
abbrev fe:Stmt:=top 12
theorem iN:aX ["script", "k", "cell"] ["script", "k"] (au fe):=⟨rfl,rfl,rfl,by decide +kernel,rfl,by decide +kernel,by decide +kernel⟩
abbrev eG:Stmt:=top 13
theorem jN:aX ["bag", "many", "found"] ["bag", "many"] (au eG):=⟨rfl,rfl,rfl,by decide +kernel,rfl,by decide +kernel,by decide +kernel⟩
abbrev dN:Stmt:=top 14
theorem cg:aX ["bag", "letters", "many", "base", "at", "names", "k", "name"] ["bag"] (au dN):=⟨rfl,rfl,rfl,by decide +kernel,rfl,by decide +kernel,by decide +kernel⟩
abbrev dr:Stmt:=top 15
theorem lU:aX ["bag"] ["bag"] (au dr):=⟨rfl,rfl,rfl,by decide +kernel,rfl,by decide +kernel,by decide +kernel⟩
abbrev eI:Stmt:=top 16
theorem g9:aX ["bag", "names", "word", "name"] ["bag", "names"] (au eI):=⟨rfl,rfl,rfl,by decide +kernel,rfl,by decide +kernel,by decide +kernel⟩
abbrev ff:Stmt:=top 17
theorem gd:aX ["bag", "names", "count", "way", "word", "name"] ["bag", "names", "count"] (au ff):=⟨rfl,rfl,rfl,by decide +kernel,rfl,by decide +kernel,by decide +kernel⟩
abbrev eJ:Stmt:=top 18
theorem dP:aX ["bag", "count", "most", "names", "pieces", "k", "many", "end"] ["bag", "count", "most"] (au eJ):=⟨rfl,rfl,rfl,by decide +kernel,rfl,by decide +kernel,by decide +kernel⟩
abbrev dQ:Stmt:=top 19
theorem nB:aX ["bag", "most"] ["bag", "most"] (au dQ):=⟨rfl,rfl,rfl,by decide +kernel,rfl,by decide +kernel,by decide +kernel⟩
abbrev dU:Stmt:=top 20
theorem fA:aX ["deed", "names", "word", "name", "left"] ["deed", "names"] (au dU):=⟨rfl,rfl,rfl,by decide +kernel,rfl,by decide +kernel,by decide +kernel⟩
abbrev bV:Stmt:=top 21
theorem dc:aX ["plan", "piece", "rows", "end", "names", "there"] ["plan", "piece", "rows"] (au bV):=⟨rfl,rfl,rfl,by decide +kernel,rfl,by decide +kernel,by decide +kernel⟩
abbrev eM:Stmt:=top 22
theorem bX:aX ["plan", "rows", "going", "piece", "names", "deed"] ["plan"] (au eM):=⟨rfl,rfl,rfl,by decide +kernel,rfl,by decide +kernel,by decide +kernel⟩
abbrev cu:Stmt:=top 24
theorem bu:aX ["bag", "count", "letters", "shift", "names", "k", "sign", "pieces", "deeds"] ["bag", "count"] (au cu):=⟨rfl,rfl,rfl,by decide +kernel,rfl,by decide +kernel,by decide +kernel⟩
abbrev eN:Stmt:=top 23
theorem eU:aX ["plan", "piece", "rows", "names", "kept", "deed"] ["plan", "piece", "rows"] (au eN):=⟨rfl,rfl,rfl,by decide +kernel,rfl,by decide +kernel,by decide +kernel⟩
abbrev gf:Stmt:=top 25
theorem gP:aX ["script", "first", "great", "plan", "rows", "due"] ["script"] (au gf):=⟨rfl,rfl,rfl,by decide +kernel,rfl,by decide +kernel,by decide +kernel⟩
section
variable {P:Program} {w:World} {K:PySem.W.Frag} {mg:Str->Option Value} {base:Heap}
theorem jZ {f:Addr} {fd:FuncData} (F:dg K "parts_of_kind" "parts_of_kind" cn f fd) (Z:Bl mg)  : bI P w K mg base cQ 1 f fd ["thing", "kinds", "wanted"] (kY K):=by
 refine F.ok (k:=0) jY (fun vs H Q E h=>?_) (fun cdv A outer s H vs Q E hr h=>?_)
 ·obtain⟨t,s,v0,xs,ks,w,rfl,_⟩:=h
  rfl
 ·obtain⟨t,s,v0,xs,ks,w,rfl,ht,hs,hl,q⟩:=h
  refine⟨_,(ao (aS (cL ["part", "kind"] ["wanted"] [2] rfl (vC rfl Z.zip (U (mx tY (pv 0) (gg ai) ox) (U (pv 1) ab))) rfl (by decide +kernel) (by decide +kernel) (by decide +kernel) ⟨⟨rfl,.inl rfl,rfl⟩,True.intro⟩ (fun _ _ _ _=>(kQ (K:=K) (n:=2) rfl (fg (n:=2) rfl (bx (aC (i:=0) (show ((["part", "kind"]:List Str)++(["wanted"]:List Str)).Nodup by decide +kernel) rfl (Or.inl rfl) (hf:=Or.inr rfl)) (bx (aC (i:=1) (show ((["part", "kind"]:List Str)++(["wanted"]:List Str)).Nodup by decide +kernel) rfl (Or.inl rfl) (hf:=Or.inr rfl)) eu))))) (fun _ _ _ _=>(gh (aL cP (pv 1) (pv 2) (bc _)))) (fun _ _ _ _=>(pv 0))))),?_⟩
  refine⟨_,rfl,_,rfl,t,_,rfl,ar.of ht,fun hw=>?_,fun _ p np=>?_⟩
  ·exfalso
   obtain⟨h1,_⟩:=hw
   simp [HT.bg] at h1
  ·have ec:i3 (v0 :: xs) (some 1) none=xs:=by simp [i3,HT.bg]
   rw [ec]
   have sp:=af.new (o:=.tup xs) np
   refine⟨_,rfl,p,s,rfl,⟨_,ar.of aa⟩,⟨_,hs.same sp⟩,fun acc na=>?_⟩
   refine vD (K:=K) (a:=p) (b:=s) (xs:=xs) (ys:=ks.map V.str) (fun i zs τ H'=>∃ (c1 c2:Option V),τ = [c1,c2,some (.str w)]/\zs=gS w xs ks i/\H' acc=some (.lst zs)/\H' p=some (.tup xs)/\af H H') ?_ ?_ ?_ ?_
   ·exact⟨none,none,rfl,rfl,aa,af.new na _ _ aa,sp.trans (af.new na)⟩
   ·rintro i zs τ H4 hi ⟨c1,c2,rfl,rfl,ha,hp4,s4⟩
    exact⟨ar.of hp4,hs.same s4,ha,aw (by have:=qv (w:=w) (xs:=xs) (ks:=ks) (i:=i);omega)⟩
   ·rintro i x y zs τ H4 u hx hy hu ⟨c1,c2,rfl,rfl,ha,hp4,s4⟩
    obtain⟨k,rfl,hk⟩:∃ k,y=V.str k/\ks[i]? = some k:=by
     rw [List.getElem?_map] at hy
     cases e:ks[i]? with
     | none=>rw [e] at hy;cases hy
     | some k=>rw [e] at hy;exact⟨k,(Option.some.inj hy).symm,rfl⟩
    have su:=af.new (o:=.tup [x,.str k]) hu
    refine⟨u,_,rfl,ar.of aa,rfl,_,_,rfl,_,_,rfl,rfl,?_⟩
    refine⟨_,rfl,_,rfl,rfl,_,rfl,?_⟩
    have hn:=pF (w:=w) hx hk
    by_cases hkw:k=w
    ·rw [if_pos hkw] at hn
     refine aZ (decide_eq_true (congrArg V.str hkw)) ?_
     refine⟨_,rfl,su _ _ ha,_,_,rfl,hn.symm,aa,?_,?_⟩
     ·rw [ae (bS hp4 ha (by intro z;cases z))]
      exact su _ _ hp4
     ·exact (s4.trans su).put (sp.free na)
    ·rw [if_neg hkw,List.append_nil] at hn
     refine aI (decide_eq_false fun z=>hkw (V.str.inj z)) ?_
     exact⟨_,_,rfl,hn.symm,su _ _ ha,su _ _ hp4,s4.trans su⟩
   ·rintro zs τ H4 ⟨c1,c2,rfl,rfl,ha,hp4,s4⟩
    rw [qu] at ha
    exact q acc H4 ha s4
theorem pT {f:Addr} {fd:FuncData} (F:dg K "ways_on" "ways_on" fc f fd) (Z:Bl mg) {aE s0 s1 s2 s3:Addr} (GE:pG K mg aE s0 s1 s2 s3) (O_parts_of_kind:Own P w K mg base "parts_of_kind" 1 ["thing", "kinds", "wanted"] (kY K)):bI P w K mg base cQ 3 f fd ["end"] kB:=by
 refine F.ok (k:=2) pS (fun vs H Q E h=>?_) (fun cdv A outer s H vs Q E hr h=>?_)
 ·obtain⟨ea,e,rfl,_⟩:=h
  rfl
 ·obtain⟨ea,e,rfl,he,q⟩:=h
  refine⟨_,(ao (aS (bF bw rfl Z.tuple cK (U (ay O_parts_of_kind (hr.mono (by decide)) rfl (U (pv 0) (U (ub GE.tab rfl (aJ bo (pv 0) ai (fun _ _=>rfl)) (fun _ _=>rfl)) (U aM ab)))) ab)))),?_⟩
  obtain⟨xs,ev,hl,hp⟩:=qw e
  rw [ev] at he
  obtain⟨s,hs,ks⟩:=GE.at_ e
  refine⟨_,rfl,_,rfl,ea,_,0,_,rfl,rfl,ar.of he,di,_,s,rfl,hs,ea,s,_,xs,kE e, "piece",rfl,he,.inr ks,hl,fun l H1 hl1 s1=>?_⟩
  rw [hp] at hl1
  exact⟨l,_,rfl,.inl ⟨av.of hl1,fun t ht=>q t _ aa (s1.trans (af.new ht))⟩⟩
theorem nS {f:Addr} {fd:FuncData} (F:dg K "asked_by" "asked_by" eE f fd) (Z:Bl mg)  : bI P w K mg base cQ 1 f fd ["end"] gU:=by
 refine F.ok (k:=0) nR (fun vs H Q E h=>?_) (fun cdv A outer s H vs Q E hr h=>?_)
 ·obtain⟨ea,e,rfl,_⟩:=h
  rfl
 ·obtain⟨ea,e,rfl,he,q⟩:=h
  refine⟨_,(ao (aS (rm (aL eZ (aJ bo (pv 0) ai (fun _ _=>rfl)) (bY (U aM (U aM ab))) (by with_unfolding_all rfl)) (bE (U (aJ bo (pv 0) ai (fun _ _=>rfl)) ab)) (bE ab)))),?_⟩
  cases e with
  | stop =>
   refine⟨_,rfl,ea,_,0,_,rfl,rfl,ar.of he,di,ln2,fun p1 np=>?_⟩
   have sp:=af.new (o:=.tup [.str "less",.str "is"]) np
   refine⟨p1,_,rfl,.inr (ar.of aa),rfl,rfl,_,rfl,?_⟩
   refine aI (by decide) ?_
   exact⟨(by show 0<=sizeLine;decide),fun l nl=>q l _ aa (sp.free nl) (sp.trans (af.new nl))⟩
  | go p =>
   refine⟨_,rfl,ea,_,0,_,rfl,rfl,ar.of he,di,ln2,fun p1 np=>?_⟩
   have sp:=af.new (o:=.tup [.str "less",.str "is"]) np
   refine⟨p1,_,rfl,.inr (ar.of aa),rfl,rfl,_,rfl,?_⟩
   refine aI (by decide) ?_
   exact⟨(by show 0<=sizeLine;decide),fun l nl=>q l _ aa (sp.free nl) (sp.trans (af.new nl))⟩
  | eS b x n p p2 =>
   refine⟨_,rfl,ea,_,0,_,rfl,rfl,ar.of he,di,ln2,fun p1 np=>?_⟩
   have sp:=af.new (o:=.tup [.str "less",.str "is"]) np
   refine⟨p1,_,rfl,.inr (ar.of aa),rfl,rfl,_,rfl,?_⟩
   refine aZ (by cases b <;> decide) ?_
   exact⟨_,rfl,ea,_,1,_,rfl,rfl,ar.of (sp _ _ he),dE,sZ,fun l nl=>q l _ aa (sp.free nl) (sp.trans (af.new nl))⟩
theorem qZ {f:Addr} {fd:FuncData} (F:dg K "traced" "traced" fF f fd) (Z:Bl mg) (O_asked_by:Own P w K mg base "asked_by" 1 ["end"] gU):bI P w K mg base cQ 3 f fd ["piece"] jU:=by
  refine F.ok (k:=2) er (fun vs H Q E h=>?_) (fun cdv A outer s H vs Q E hr h=>?_)
  · obtain⟨pc,da,ea,ws,ds,e,rfl,_⟩:=h
    rfl
  · obtain⟨pc,da,ea,ws,ds,e,rfl,hpc,hda,hws,hea,hdl,q⟩:=h
    refine⟨_,(ah (gu (pv 0) (fg rfl (bx (aC (i:=1) er.nd rfl (Or.inl rfl)) (bx (aC (i:=2) er.nd rfl (Or.inl rfl)) eu))))
      (ah (aF (i:=3) er.nd rfl (Or.inr rfl) rP)
      (ah (aF (i:=4) er.nd rfl (Or.inl rfl) (bE ab))
      (ah (cJ PassesOwn.never rfl (eO (pv 1)) (aC (i:=5) er.nd rfl (Or.inl rfl))
      (ah (p7 (i:=6) (j:=7) rfl er.nd rfl rfl (by decide) rfl rfl (U (aJ bo (pv 5) ai (fun _ _=>rfl)) (U (aJ bo (pv 5) ai (fun _ _=>rfl)) ab)) rfl)
      (ao (bL (aL cP (pv 6) aM (bc _))
      (ao (bJ (cW PySem.F.plainAttrs_list PySem.F.slot_list_append PySem.F.type_list_append bK (pv 4) (U (fQ (fW hr) (pv 3) (pv 7) (pv 7) ⟨rfl,rfl,rfl,rfl⟩) ab))))
      (ao (bL (aL cP (pv 6) aM (bc _))
      (ao (kU (fW hr) (pv 3) (pv 7) (fQ (fW hr) (pv 3) (aJ bo (pv 5) ai (fun _ _=>rfl)) (aJ bo (pv 5) ai (fun _ _=>rfl)) ⟨rfl,rfl,rfl,rfl⟩) rfl))
      (ao (bL (aL o3 (pv 6) aM (bc _))
      (ao (kU (fW hr) (pv 3) (pv 7) uN rfl))
      bp))))))))
      (ah (bJ (cW PySem.F.plainAttrs_list PySem.F.slot_list_extend PySem.F.type_list_extend lH (pv 4) (U (cL ["name"] ["sources"] [3] rfl (dI (ay O_asked_by (hr.mono (by decide)) rfl (U (pv 2) ab))) rfl (by decide +kernel) (by decide +kernel) (by decide +kernel) ⟨⟨rfl,.inl rfl,rfl⟩,True.intro⟩ (fun _ _ _ _=>(aC (i:=0) (show ((["name"]:List Str)++(["sources"]:List Str)).Nodup by decide +kernel) rfl (Or.inl rfl) (hf:=Or.inr rfl))) (fun _ _ _ _=>cE) (fun _ _ _ _=>(fQ (fW hr) (pv 1) (pv 0) (pv 0) ⟨rfl,rfl,rfl,rfl⟩))) ab)))
      (ao (aS (bY (U (pv 3) (U (cL ["name"] [] [] rfl (dI (pv 4)) rfl (by decide +kernel) (by decide +kernel) (by decide +kernel) True.intro (fun _ _ _ _=>(aC (i:=0) (show ((["name"]:List Str)++([]:List Str)).Nodup by decide +kernel) rfl (Or.inl rfl) (hf:=Or.inr rfl))) (fun _ _ _ _=>(gh (mh (og (pv 0))))) (fun _ _ _ _=>(pv 0))) ab)))))))))),?_⟩
    have hwl:ws.length=ds.length:=by rw [hws.len,List.length_map]
    refine⟨_,rfl,pc,_,rfl,ar.of hpc,rfl,_,_,rfl,_,_,rfl,rfl,?_⟩
    refine fun d nd=>?_
    refine⟨(by show 0<=sizeLine;decide),fun l nl=>?_⟩
    have s1:af H (upd (upd H d (.dK [])) l (.lst [])):=(af.new nd).trans (af.new nl)
    have nld:d ≠ l:=fun z=>by rw [<-z,aa] at nl;cases nl
    have nl0:H l=none:=(af.new nd).free nl
    refine⟨_,rfl,da,rfl,⟨_,ar.of (s1 _ _ hda)⟩,?_⟩
    refine fC (K:=K) (a:=da) (xs:=ws) (fun i σ H'=>∃ kvs c5 c6 c7,σ = [some (.ref pc),some (.ref da),some (.ref ea),some (.ref d),some (.ref l),c5,c6,c7]/\H' d=some (.dK kvs)/\SrcAt kvs (cz (ds.take i)).1/\H' l=some (.lst ((cz (ds.take i)).2.map oS))/\kvs.length<=i/\af H H') ?_ ?_ ?_ ?_
    · exact⟨[],none,none,none,rfl,(by rw [ae nld,aa]),SrcAt.nil,aa,Nat.le_refl _,s1⟩
    · rintro i σ H2 hi ⟨kvs,c5,c6,c7,rfl,h1,h2,h3,h4,h5⟩
      exact ar.of (h5 _ _ hda)
    · rintro i x σ H2 hx ⟨kvs,c5,c6,c7,rfl,h1,h2,h3,h4,h5⟩
      have hwd:=hws.len
      have hi:i < ds.length:=by
        have:=(List.getElem?_eq_some_iff.mp hx).1
        omega
      have hdd:ds[i]? = some ds[i]:=by simp [hi]
      generalize ds[i] = dd at hdd
      have ht:=sy hdd
      obtain⟨v,hv,rd⟩:=hws.get (i:=i) (d:=aY dd) (by rw [List.getElem?_map,hdd];rfl)
      rw [hx] at hv
      cases hv
      obtain⟨dp,rfl,hdp0⟩:=jr rd
      have hdp:=h5 _ _ hdp0
      have ndl:=mY ds i
      generalize cz (ds.take i)=S at h2 h3 ht ndl
      cases dd
      case put x n =>
        refine⟨_,rfl,dp,_,0,_,rfl,rfl,ar.of hdp,di,_,rfl,dp,_,1,_,rfl,rfl,ar.of hdp,dE,_,_,rfl,?_⟩
        refine⟨_,rfl,rfl,_,rfl,?_⟩
        refine aI (show decide (V.str "put" = V.str "tell")=false by decide +kernel) ?_
        refine⟨_,rfl,rfl,_,rfl,?_⟩
        refine aI (show decide (V.str "put" = V.str "copy")=false by decide +kernel) ?_
        refine⟨_,rfl,rfl,_,rfl,?_⟩
        refine aZ (show (!decide (V.str "put" = V.str "add"))=true by decide +kernel) ?_
        refine⟨_,rfl,_,rfl,d,_,rfl,i7.k (k:=Sum.inr x) h1 (aw (by omega)),?_⟩
        refine⟨putK kvs (Sum.inr x) (oS none),_,_,_,rfl,aa,(by rw [ht];exact h2.put x none),?_,?_,h5.put nd⟩
        · rw [ae nld.symm,h3,ht];simp [jL,ft]
        · have:=cT kvs (Sum.inr x:Key) (oS none);omega
      case copy x y =>
        refine⟨_,rfl,dp,_,0,_,rfl,rfl,ar.of hdp,di,_,rfl,dp,_,1,_,rfl,rfl,ar.of hdp,dE,_,_,rfl,?_⟩
        refine⟨_,rfl,rfl,_,rfl,?_⟩
        refine aI (show decide (V.str "copy" = V.str "tell")=false by decide +kernel) ?_
        refine⟨_,rfl,rfl,_,rfl,?_⟩
        refine aZ (show decide (V.str "copy" = V.str "copy")=true by decide +kernel) ?_
        refine⟨_,rfl,d,rfl,.inl ⟨kvs,.inl h1⟩,_,rfl,dp,_,2,_,rfl,rfl,ar.of hdp,at2,_,rfl,dp,_,2,_,rfl,rfl,ar.of hdp,at2,_,_,fT.k (k:=Sum.inr y) h1,h2 y,_,rfl,_,rfl,d,_,rfl,i7.k (k:=Sum.inr x) h1 (aw (by omega)),?_⟩
        refine⟨putK kvs (Sum.inr x) (oS (S.1 y)),_,_,_,rfl,aa,(by rw [ht];exact h2.put x (S.1 y)),?_,?_,h5.put nd⟩
        · rw [ae nld.symm,h3,ht];simp [jL,ft]
        · have:=cT kvs (Sum.inr x:Key) (oS (S.1 y));omega
      case add x n =>
        refine⟨_,rfl,dp,_,0,_,rfl,rfl,ar.of hdp,di,_,rfl,dp,_,1,_,rfl,rfl,ar.of hdp,dE,_,_,rfl,?_⟩
        refine⟨_,rfl,rfl,_,rfl,?_⟩
        refine aI (show decide (V.str "add" = V.str "tell")=false by decide +kernel) ?_
        refine⟨_,rfl,rfl,_,rfl,?_⟩
        refine aI (show decide (V.str "add" = V.str "copy")=false by decide +kernel) ?_
        refine⟨_,rfl,rfl,_,rfl,?_⟩
        refine aI (show (!decide (V.str "add" = V.str "add"))=false by decide +kernel) ?_
        refine⟨kvs,_,_,_,rfl,h1,(by rw [ht];exact h2),?_,Nat.le_succ_of_le h4,h5⟩
        rw [h3,ht];simp [jL,ft]
      case read x =>
        refine⟨_,rfl,dp,_,0,_,rfl,rfl,ar.of hdp,di,_,rfl,dp,_,1,_,rfl,rfl,ar.of hdp,dE,_,_,rfl,?_⟩
        refine⟨_,rfl,rfl,_,rfl,?_⟩
        refine aI (show decide (V.str "read" = V.str "tell")=false by decide +kernel) ?_
        refine⟨_,rfl,rfl,_,rfl,?_⟩
        refine aI (show decide (V.str "read" = V.str "copy")=false by decide +kernel) ?_
        refine⟨_,rfl,rfl,_,rfl,?_⟩
        refine aZ (show (!decide (V.str "read" = V.str "add"))=true by decide +kernel) ?_
        refine⟨_,rfl,_,rfl,d,_,rfl,i7.k (k:=Sum.inr x) h1 (aw (by omega)),?_⟩
        refine⟨putK kvs (Sum.inr x) (oS none),_,_,_,rfl,aa,(by rw [ht];exact h2.put x none),?_,?_,h5.put nd⟩
        · rw [ae nld.symm,h3,ht];simp [jL,ft]
        · have:=cT kvs (Sum.inr x:Key) (oS none);omega
      case tell x =>
        refine⟨_,rfl,dp,_,0,_,rfl,rfl,ar.of hdp,di,_,rfl,dp,_,1,_,rfl,rfl,ar.of hdp,dE,_,_,rfl,?_⟩
        refine⟨_,rfl,rfl,_,rfl,?_⟩
        refine aZ (show decide (V.str "tell" = V.str "tell")=true by decide +kernel) ?_
        refine⟨_,rfl,.inl ⟨rfl,_,av.of h3⟩,_,rfl,d,rfl,.inl ⟨kvs,.inl h1⟩,_,rfl,_,rfl,_,_,fT.k (k:=Sum.inr x) h1,h2 x,l,_,_,rfl,rfl,h3,aw (by rw [List.length_map];omega),?_⟩
        refine⟨kvs,_,_,_,rfl,(by rw [ae nld];exact h1),(by rw [ht];exact h2),?_,Nat.le_succ_of_le h4,h5.put nl0⟩
        rw [aa,ht];simp [jL,ft]
    · rintro σ H2 ⟨kvs,c5,c6,c7,rfl,h1,h2,h3,h4,h5⟩
      have hsl:=lg ds
      rw [hwl,List.take_of_length_le (Nat.le_refl _)] at h2 h3
      refine⟨_,rfl,.inl ⟨rfl,_,av.of h3⟩,?_⟩
      refine⟨_,rfl,ea,e,rfl,h5 _ _ hea,fun l2 H3 hl2 nl2 s3=>?_⟩
      refine⟨l2,rfl,⟨_,av.of hl2⟩,fun acc na=>?_⟩
      have h1':=s3 _ _ h1
      have h3':=s3 _ _ h3
      refine eB (K:=K) (a:=l2) (xs:=(bf e).map V.str) (fun i zs τ H'=>∃ c1,τ = [c1,some (.ref d)]/\zs=(((bf e).take i).map (cU ds)).map oS/\H' acc=some (.lst zs)/\af H3 H') ?_ ?_ ?_ ?_
      · exact⟨none,rfl,rfl,aa,af.new na⟩
      · rintro i zs τ H4 hi ⟨c1,rfl,rfl,ha,s4⟩
        exact⟨av.of (s4 _ _ hl2),ha,aw (by have:(bf e).length<=1:=(by cases e <;> simp [bf]);simp;omega)⟩
      · rintro i x zs τ H4 hx ⟨c1,rfl,rfl,ha,s4⟩
        rw [List.getElem?_map] at hx
        cases hn:(bf e)[i]? with
        | none=>rw [hn] at hx;cases hx
        | some y =>
          rw [hn] at hx
          cases hx
          change ∃ v,_/\_
          refine⟨_,rfl,d,rfl,.inl ⟨kvs,.inl (s4 _ _ h1')⟩,_,rfl,_,rfl,_,_,fT.k (k:=Sum.inr y) (s4 _ _ h1'),h2 y,ha,?_⟩
          refine⟨_,rfl,?_,aa,s4.put na⟩
          rw [List.take_add_one,hn]
          simp [cU]
      · rintro zs τ H4 ⟨c1,rfl,rfl,ha,s4⟩
        have s34:=s3.trans s4
        have nacc:H2 acc=none:=s3.free na
        have nla:l ≠ acc:=fun z=>by rw [z,nacc] at h3;cases h3
        have nda:d ≠ acc:=fun z=>by rw [z,nacc] at h1;cases h1
        have ea1:(((bf e).take ((bf e).map V.str).length).map (cU ds))=(bf e).map (cU ds):=by rw [List.length_map,List.take_of_length_le (Nat.le_refl _)]
        rw [ea1] at ha
        have hel:(bf e).length<=1:=by cases e <;> simp [bf]
        refine⟨l,acc,_,_,rfl,rfl,s34 _ _ h3,ha,Nat.le_of_lt (aw (by simp;omega)),?_⟩
        rw [<-List.map_append]
        have es:dX (ds,e)=((cz ds).2++(bf e).map (cU ds)).filterMap id:=rfl
        have hal:((cz ds).2++(bf e).map (cU ds)).length<=501:=by rw [List.length_append,List.length_map];omega
        generalize ((cz ds).2++(bf e).map (cU ds))=os at es hal
        have hl5:(upd H4 l (.lst (os.map oS))) l=some (.lst (os.map oS)):=aa
        have hd5:(upd H4 l (.lst (os.map oS))) d=some (.dK kvs):=by rw [ae nld];exact s34 _ _ h1
        have s5:af H (upd H4 l (.lst (os.map oS))):=(h5.trans s34).put nl0
        generalize (upd H4 l (.lst (os.map oS)))=H5 at hl5 hd5 s5
        refine⟨_,rfl,_,rfl,l,rfl,⟨_,av.of hl5⟩,fun acc2 na2=>?_⟩
        refine eB (K:=K) (a:=l) (xs:=os.map oS) (fun i zs τ H'=>∃ c1,τ = [c1]/\zs=((os.take i).filterMap id).map V.str/\H' acc2=some (.lst zs)/\af H5 H') ?_ ?_ ?_ ?_
        · exact⟨none,rfl,rfl,aa,af.new na2⟩
        · rintro i zs τ H6 hi ⟨c1,rfl,rfl,ha,s6⟩
          refine⟨av.of (s6 _ _ hl5),ha,aw ?_⟩
          have:((os.take i).filterMap id).length<=(os.take i).length:=List.length_filterMap_le _ _
          rw [List.length_map]
          rw [List.length_take] at this
          omega
        · rintro i x zs τ H6 hx ⟨c1,rfl,rfl,ha,s6⟩
          rw [List.getElem?_map] at hx
          cases hn:os[i]? with
          | none=>rw [hn] at hx;cases hx
          | some o =>
            rw [hn] at hx
            cases hx
            cases o with
            | none =>
              refine⟨_,rfl,_,rfl,?_⟩
              refine aI (by decide) ?_
              refine⟨_,rfl,?_,ha,s6⟩
              rw [List.take_add_one,hn]
              simp
            | some y =>
              refine⟨_,rfl,_,rfl,?_⟩
              refine aZ (by simp [oS]) ?_
              refine⟨_,rfl,ha,_,rfl,?_,aa,s6.put na2⟩
              rw [List.take_add_one,hn]
              simp [oS]
        · rintro zs τ H6 ⟨c1,rfl,rfl,ha,s6⟩
          rw [List.length_map,List.take_of_length_le (Nat.le_refl _),<-es] at ha
          refine⟨ln2,fun t nt=>?_⟩
          have sf:=s6.trans (af.new (o:=.tup [.ref d,.ref acc2]) nt)
          exact q t d acc2 kvs _ aa (sf _ _ hd5) h2 (af.new nt _ _ ha) ((s5.trans s6).free nt) nd (s5.free na2) (s5.trans sf)
theorem nE {f:Addr} {fd:FuncData} (F:dg K "ways_back" "ways_back" dM f fd) (Z:Bl mg) (O_ways_on:Own P w K mg base "ways_on" 3 ["end"] kB):bI P w K mg base cQ 4 f fd ["plan"] mZ:=by
  refine F.ok (k:=3) dq (fun vs H Q E h=>?_) (fun cdv A outer s H vs Q E hr h=>?_)
  · obtain⟨plv,ps,rfl,_⟩:=h
    rfl
  · obtain⟨plv,ps,rfl,hp,hin,hpl,q⟩:=h
    refine⟨_,(ah (gG (i:=1) ["piece"] [] [] rfl dq.nd rfl rfl rfl (eO (pv 0)) rfl (by decide +kernel) (by decide +kernel) (by decide +kernel) True.intro (fun _ _ _ _=>(aC (i:=0) (show ((["piece"]:List Str)++([]:List Str)).Nodup by decide +kernel) rfl (Or.inl rfl) (hf:=Or.inr rfl))) (fun _ _ _ _=>cE) (fun _ _ _ _=>(bE ab)))
      (ah (cJ PassesOwn.never rfl (oJ rfl Z.enumerate (U (pv 0) ab)) (fg rfl (bx (aC (i:=2) dq.nd rfl (Or.inl rfl)) (bx (fg rfl (bx (aC (i:=3) dq.nd rfl (Or.inl rfl)) (bx (aC (i:=4) dq.nd rfl (Or.inl rfl)) eu))) eu)))
      (ao (cJ PassesOwn.never rfl (eO (ay O_ways_on (hr.mono (by decide)) rfl (U (pv 4) ab))) (aC (i:=5) dq.nd rfl (Or.inl rfl))
      (ao (bJ (cW PySem.F.plainAttrs_list PySem.F.slot_list_append PySem.F.type_list_append bK (aJ bt (pv 1) (pv 5) (fun _ _=>rfl)) (U (pv 2) ab)))))))
      (ao (aS (pv 1))))),?_⟩
    obtain⟨p,xs,rfl,e1,rp⟩:=aP.cm hp
    have hxl:xs.length=ps.length:=by rw [rp.len,List.length_map]
    refine⟨_,rfl,p,rfl,⟨_,ar.of e1⟩,fun acc na=>?_⟩
    refine mE (K:=K) (a:=p) (xs:=xs) (fun i zs τ H'=>∃ (c1:Option V) (rs:List Addr),τ = [c1]/\zs=rs.map V.ref/\H' acc=some (.lst zs)/\rs.length=i/\rs.Nodup/\(∀ r ∈ rs,H' r=some (.lst []))/\(∀ r ∈ rs,H r=none)/\acc ∉ rs/\af H H') ?_ ?_ ?_ ?_
    · exact⟨none,[],rfl,rfl,aa,rfl,List.nodup_nil,(by simp),(by simp),(by simp),af.new na⟩
    · rintro i zs τ H2 hi ⟨c1,rs,rfl,rfl,h1,h2,h3,h4,h5,h6,h7⟩
      exact⟨ar.of (h7 _ _ e1),h1,aw (by rw [List.length_map];omega)⟩
    · rintro i x zs τ H2 hx ⟨c1,rs,rfl,rfl,h1,h2,h3,h4,h5,h6,h7⟩
      change _<=sizeLine/\_
      refine⟨(by show 0<=sizeLine;decide),fun r nr=>?_⟩
      have s1:=af.new (o:=.lst []) nr
      have nra:acc ≠ r:=fun z=>by rw [z,nr] at h1;cases h1
      refine⟨s1 _ _ h1,_,rs ++ [r],rfl,(by simp),aa,(by simp [h2]),?_,?_,?_,?_,(h7.trans s1).put na⟩
      · rw [List.nodup_append]
        refine⟨h3,by simp,fun a ha b hb z=>?_⟩
        rw [List.mem_singleton] at hb
        subst hb;subst z
        have:=h4 _ ha
        rw [nr] at this;cases this
      · intro r' hr'
        rcases List.mem_append.mp hr' with h | h
        · rw [ae (show r' ≠ acc from fun z=>h6 (by rw [<-z];exact h))];exact s1 _ _ (h4 _ h)
        · rw [List.mem_singleton.mp h,ae nra.symm,aa]
      · intro r' hr'
        rcases List.mem_append.mp hr' with h | h
        · exact h5 _ h
        · rw [List.mem_singleton.mp h];exact h7.free nr
      · intro z
        rcases List.mem_append.mp z with h | h
        · exact h6 h
        · exact nra (List.mem_singleton.mp h)
    · rintro zs τ H2 ⟨c1,rs,rfl,rfl,h1,h2,h3,h4,h5,h6,h7⟩
      rw [hxl] at h2
      have T0:dY H2 acc rs ((List.replicate ps.length ([]:List Nat)).map oN):=by
        refine⟨h1,fun k r o g1 g2=>?_,by simp [h2],h3,h6⟩
        rw [List.getElem?_map,List.getElem?_replicate] at g2
        split at g2
        · cases g2;exact h4 _ (List.mem_of_getElem? g1)
        · cases g2
      refine⟨_,rfl,p,rfl,.inl ⟨⟨_,ar.of (h7 _ _ e1)⟩,?_⟩⟩
      refine sx (xs:=xs) (fun i σ H'=>∃ (bs:List (List Nat)) (c1 c2 c3 c4:Option V),σ = [some (.ref p),some (.ref acc),c1,c2,c3,c4]/\dY H' acc rs (bs.map oN)/\bs.length=ps.length/\(∀ (k:Nat) (b:List Nat),bs[k]? = some b->Back ps i k b)/\af H H') ?_ ?_ ?_ ?_
      · refine⟨_,none,none,none,none,rfl,T0,by simp,fun k b hb=>?_,h7⟩
        rw [List.getElem?_replicate] at hb
        split at hb
        · cases hb;exact⟨Nat.zero_le _,by simp⟩
        · cases hb
      · rintro i σ H3 hi ⟨bs,c1,c2,c3,c4,rfl,T,hb,hB,s3⟩
        exact ar.of (s3 _ _ e1)
      · rintro i x σ H3 t hx ht ⟨bs,c1,c2,c3,c4,rfl,T,hb,hB,s3⟩
        have hi:i < ps.length:=by
          have:=(List.getElem?_eq_some_iff.mp hx).1
          omega
        have hpp:ps[i]? = some ps[i]:=by simp [hi]
        generalize hpe:ps[i] = pe at hpp
        obtain⟨ds,e⟩:=pe
        obtain⟨p',xs',pc,da,ea,vs,hpv,e1',el,hx',e2,e3,r3,e4⟩:=eX hp hpp
        cases hpv
        rw [e1] at e1'
        cases e1'
        rw [hx] at hx'
        cases hx'
        have st:=af.new (o:=.tup [.int (i:Nat),.ref pc]) ht
        have s3t:=s3.trans st
        refine⟨t,_,rfl,ar.of aa,rfl,_,_,rfl,_,_,rfl,pc,_,rfl,ar.of (s3t _ _ e2),rfl,_,_,rfl,_,_,rfl,rfl,rfl,?_⟩
        refine⟨_,rfl,ea,e,rfl,s3t _ _ e4,fun wt H4 hwt s4=>?_⟩
        refine⟨wt,rfl,⟨_,ar.of hwt⟩,?_⟩
        have T4:=(T.same st).same s4
        have hwin:=iA hin hpp
        refine fC (K:=K) (a:=wt) (xs:=vN (aV e)) (fun j σ H'=>∃ (bs':List (List Nat)) (c:Option V),σ = [some (.ref p),some (.ref acc),some (.int (i:Nat)),some (.ref da),some (.ref ea),c]/\dY H' acc rs (bs'.map oN)/\bs'.length=ps.length /\
          (∀ (k:Nat) (b':List Nat),bs'[k]? = some b'->∃ b,bs[k]? = some b/\b' = b++List.replicate (((aV e).take j).count k) i)/\H' wt=some (.tup (vN (aV e)))/\af H H') ?_ ?_ ?_ ?_
        · exact⟨bs,c4,rfl,T4,hb,fun k b' h=>⟨b',h,by simp⟩,hwt,s3t.trans s4⟩
        · rintro j σ H5 hj ⟨bs',c,rfl,T5,hb5,hB5,hw5,s5⟩
          exact ar.of hw5
        · rintro j y σ H5 hy ⟨bs',c,rfl,T5,hb5,hB5,hw5,s5⟩
          rw [List.getElem?_map] at hy
          cases hwj:(aV e)[j]? with
          | none=>rw [hwj] at hy;cases hy
          | some k =>
            rw [hwj] at hy
            cases hy
            have hk:k < bs'.length:=by rw [hb5];exact hwin k (List.mem_of_getElem? hwj)
            have hbk:bs'[k]? = some bs'[k]:=by simp [hk]
            generalize bs'[k] = bk at hbk
            obtain⟨r,hr,hro,hrv⟩:=T5.get (k:=k) (o:=oN bk) (by rw [List.getElem?_map,hbk];rfl)
            obtain⟨b0,hb0,eb0⟩:=hB5 k bk hbk
            have hB0:=hB k b0 hb0
            have hlen:bk.length<=5000:=by
              have h1:=hB0.1
              have h2:((aV e).take j).count k<=(aV e).length:=Nat.le_trans List.count_le_length (by rw [List.length_take];exact Nat.min_le_right _ _)
              have h3:=fR e
              rw [eb0,List.length_append,List.length_replicate]
              omega
            refine⟨_,rfl,_,rfl,acc,_,_,_,rfl,rfl,av.of T5.lst,bh hrv,.inl ⟨rfl,_,av.of hro⟩,_,rfl,r,_,_,rfl,rfl,hro,aw (by rw [List.length_map];omega),?_⟩
            have hnw:r ≠ wt:=bS hro hw5 (by intro z;cases z)
            refine⟨bs'.set k (bk ++ [i]),_,rfl,?_,(by rw [List.length_set];exact hb5),?_,(by rw [ae hnw.symm];exact hw5),s5.put (h5 _ (List.mem_of_getElem? hr))⟩
            · have:=T5.put (o':=oN (bk ++ [i])) hr
              rw [List.map_set]
              have e:oN (bk ++ [i])=.lst (vN bk ++ [.int (i:Nat)]):=by simp [oN]
              rw [e] at this ⊢
              exact this
            · intro k' b' hb'
              rw [List.take_add_one,hwj]
              by_cases ek:k' = k
              · subst ek
                rw [List.getElem?_set_self hk] at hb'
                cases hb'
                refine⟨b0,hb0,?_⟩
                rw [eb0,List.append_assoc]
                congr 1
                simp [List.count_append,List.replicate_succ']
              · rw [List.getElem?_set_ne (Ne.symm ek)] at hb'
                obtain⟨b,g1,g2⟩:=hB5 k' b' hb'
                refine⟨b,g1,?_⟩
                rw [g2]
                simp [List.count_append,List.count_cons,Ne.symm ek]
        · rintro σ H5 ⟨bs',c,rfl,T5,hb5,hB5,hw5,s5⟩
          refine⟨bs',_,_,_,_,rfl,T5,hb5,fun k b' hb'=>?_,s5⟩
          obtain⟨b,g1,g2⟩:=hB5 k b' hb'
          rw [List.length_map,List.take_of_length_le (Nat.le_refl _)] at g2
          obtain⟨q1,q2⟩:=hB k b g1
          have hc2:(aV e).count k<=(aV e).length:=List.count_le_length
          have hw2:=fR e
          refine⟨by rw [g2,List.length_append,List.length_replicate];omega,fun a=>?_⟩
          rw [g2,List.mem_append,q2 a]
          constructor
          · rintro (⟨h1,h2⟩ | h)
            · exact⟨Nat.lt_succ_of_lt h1,h2⟩
            · have ha:=(List.mem_replicate.mp h)
              have:a=i:=ha.2
              subst this
              exact⟨Nat.lt_succ_self _,_,hpp,List.count_pos_iff.mp (Nat.pos_of_ne_zero ha.1)⟩
          · rintro⟨h1,pp,h2,h3⟩
            by_cases ea:a=i
            · subst ea
              rw [hpp] at h2
              cases h2
              exact .inr (List.mem_replicate.mpr ⟨Nat.ne_of_gt (List.count_pos_iff.mpr h3),rfl⟩)
            · exact .inl ⟨by omega,pp,h2,h3⟩
      · rintro σ H3 ⟨bs,c1,c2,c3,c4,rfl,T,hb,hB,s3⟩
        rw [hxl] at hB
        exact⟨_,rfl,q acc rs bs H3 T hb hB na h5 s3⟩
theorem uE {f:Addr} {fd:FuncData} (F:dg K "live" "live" ij f fd) (Z:Bl mg) (O_traced:Own P w K mg base "traced" 3 ["piece"] jU) (O_ways_back:Own P w K mg base "ways_back" 4 ["plan"] mZ):bI P w K mg base cQ 5 f fd ["plan"] kJ:=by
  refine F.ok (k:=4) eF (fun vs H Q E h=>?_) (fun cdv A outer s H vs Q E hr h=>?_)
  · obtain⟨plv,ps,pool,mm,rfl,_⟩:=h
    rfl
  · obtain⟨plv,ps,pool,mm,rfl,hp,ok,hmm,h64,hpl,q⟩:=h
    refine⟨_,(ah (gG (i:=1) ["piece"] [] [] rfl eF.nd rfl rfl rfl (eO (pv 0)) rfl (by decide +kernel) (by decide +kernel) (by decide +kernel) True.intro (fun _ _ _ _=>(aC (i:=0) (show ((["piece"]:List Str)++([]:List Str)).Nodup by decide +kernel) rfl (Or.inl rfl) (hf:=Or.inr rfl))) (fun _ _ _ _=>cE) (fun _ _ _ _=>(ay O_traced (hr.mono (by decide)) rfl (U (pv 0) ab))))
      (ah (aF (i:=2) eF.nd rfl (Or.inl rfl) (ay O_ways_back (hr.mono (by decide)) rfl (U (pv 0) ab)))
      (ah (gG (i:=3) ["sources", "asked"] [] [] rfl eF.nd rfl rfl rfl (dI (pv 1)) rfl (by decide +kernel) (by decide +kernel) (by decide +kernel) True.intro (fun _ _ _ _=>(kQ (K:=K) (n:=2) rfl (fg (n:=2) rfl (bx (aC (i:=0) (show ((["sources", "asked"]:List Str)++([]:List Str)).Nodup by decide +kernel) rfl (Or.inl rfl) (hf:=Or.inr rfl)) (bx (aC (i:=1) (show ((["sources", "asked"]:List Str)++([]:List Str)).Nodup by decide +kernel) rfl (Or.inl rfl) (hf:=Or.inr rfl)) eu))))) (fun _ _ _ _=>cE) (fun _ _ _ _=>(sr ["name"] [] [] rfl ((sD (K:=K) rfl) (pv 1)) rfl (by decide +kernel) (by decide +kernel) (by decide +kernel) True.intro (fun _ _ _ _=>(aC (i:=0) (show ((["name"]:List Str)++([]:List Str)).Nodup by decide +kernel) rfl (Or.inl rfl) (hf:=Or.inr rfl))) (fun _ _ _ _=>cE) (fun _ _ _ _=>(pv 0)) (fun _ _ _ _=>j2))))
      (ah (qK (i:=4) ["at", "names", "name"] [] [] rfl eF.nd rfl rfl rfl (oJ rfl Z.enumerate (U (pv 3) ab)) rfl (by decide +kernel) (by decide +kernel) (by decide +kernel) True.intro (fun _ _ _ _=>(kQ (K:=K) (n:=2) rfl (fg (n:=2) rfl (bx (aC (i:=0) (show ((["at", "names", "name"]:List Str)++([]:List Str)).Nodup by decide +kernel) rfl (Or.inl rfl) (hf:=Or.inr rfl)) (bx (aC (i:=1) (show ((["at", "names", "name"]:List Str)++([]:List Str)).Nodup by decide +kernel) rfl (Or.inl rfl) (hf:=Or.inr rfl)) eu))))) (fun _ _ _ _=>cE) (fun _ _ _ _ _=>uh rfl rfl (pv 1) (aC (i:=2) (show ((["at", "names", "name"]:List Str)++([]:List Str)).Nodup by decide +kernel) rfl (Or.inl rfl) (hf:=Or.inr rfl)) cE (bY (U (pv 0) (U (pv 2) ab)))))
      (ah (mn PassesOwn.never (rF (pv 4) (fun _=>rfl))
      (ah (gu (vg PySem.F.plainAttrs_list PySem.F.slot_list_pop PySem.F.type_list_pop vh (pv 4)) (fg rfl (bx (aC (i:=5) eF.nd rfl (Or.inl rfl)) (bx (aC (i:=6) eF.nd rfl (Or.inl rfl)) eu))))
      (ao (cJ PassesOwn.never rfl (dI (aJ bt (pv 2) (pv 5) (fun _ _=>rfl))) (aC (i:=7) eF.nd rfl (Or.inl rfl))
      (ah (aF (i:=8) eF.nd rfl (Or.inl rfl) (fQ (fW hr) (aJ bo (aJ bt (pv 1) (pv 7) (fun _ _=>rfl)) ai (fun _ _=>rfl)) (pv 6) (pv 6) ⟨rfl,rfl,rfl,rfl⟩))
      (ao (bL (PW.pt (j3 (mh (og (pv 8))) (jl (mh (qr (fW hr) (pv 8) (aJ bt (pv 3) (pv 7) (fun _ _=>rfl)))))))
      (ah (kU (fW hr) (aJ bt (pv 3) (pv 7) (fun _ _=>rfl)) (pv 8) j2 rfl)
      (ao (bJ (cW PySem.F.plainAttrs_list PySem.F.slot_list_append PySem.F.type_list_append bK (pv 4) (U (bY (U (pv 7) (U (pv 8) ab))) ab)))))
      bp)))))))
      (ao (aS (bF bw rfl Z.tuple cK (U (cL ["names"] [] [] rfl (dI (pv 3)) rfl (by decide +kernel) (by decide +kernel) (by decide +kernel) True.intro (fun _ _ _ _=>(aC (i:=0) (show ((["names"]:List Str)++([]:List Str)).Nodup by decide +kernel) rfl (Or.inl rfl) (hf:=Or.inr rfl))) (fun _ _ _ _=>cE) (fun _ _ _ _=>(bF (lh (K:=K) rfl) rfl Z.tuple cK (U (bU (mP rfl) rfl Z.sorted ja (U (pv 0) ab)) ab)))) ab))))))))),?_⟩
    obtain⟨p,xs,rfl,e1,rp⟩:=aP.cm hp
    have hxl:xs.length=ps.length:=by rw [rp.len,List.length_map]
    have hin:=ok.i9
    refine⟨_,rfl,p,rfl,⟨_,ar.of e1⟩,fun tl ntl=>?_⟩
    refine mE (K:=K) (a:=p) (xs:=xs) (fun i zs τ H'=>∃ (c1:Option V) (tts:List Addr),τ = [c1]/\zs=tts.map V.ref/\H' tl=some (.lst zs)/\tts.length=i/\(∀ (k:Nat) (tt:Addr) (pc:Piece),tts[k]? = some tt->ps[k]? = some pc->iB H' tl tt pc)/\af H H') ?_ ?_ ?_ ?_
    · exact⟨none,[],rfl,rfl,aa,rfl,(by intro k tt pc h;simp at h),af.new ntl⟩
    · rintro i zs τ H2 hi ⟨c1,tts,rfl,rfl,h1,h2,h3,h4⟩
      exact⟨ar.of (h4 _ _ e1),h1,aw (by rw [List.length_map];omega)⟩
    · rintro i x zs τ H2 hx ⟨c1,tts,rfl,rfl,h1,h2,h3,h4⟩
      have hi:i < ps.length:=by
        have:=(List.getElem?_eq_some_iff.mp hx).1
        omega
      have hpp:ps[i]? = some ps[i]:=by simp [hi]
      have hdl:=(ok.cS _ (List.mem_of_getElem? hpp)).1
      generalize ps[i] = pe at hpp hdl
      obtain⟨ds,e⟩:=pe
      have hdl:ds.length<=mm:=hdl
      obtain⟨p',xs',pc,da,ea,vs,hpv,e1',el,hx',e2,e3,r3,e4⟩:=eX hp hpp
      cases hpv
      rw [e1] at e1'
      cases e1'
      rw [hx] at hx'
      cases hx'
      change ∃ v,_/\_
      refine⟨_,rfl,pc,da,ea,vs,ds,e,rfl,h4 _ _ e2,h4 _ _ e3,r3.same h4 (aO ds),h4 _ _ e4,by omega,fun t d l kvs H3 g1 g2 g3 g4 g5 g6 g7 s3=>?_⟩
      have nl:l ≠ tl:=fun z=>by rw [z,h1] at g7;cases g7
      refine⟨s3 _ _ h1,_,tts ++ [t],rfl,(by simp),aa,(by simp [h2]),?_,(h4.trans s3).put ntl⟩
      intro k tt pc' hk hpk
      rcases Nat.lt_trichotomy k tts.length with hlt | heq | hgt
      · rw [List.getElem?_append_left hlt] at hk
        exact ((h3 k tt pc' hk hpk).same s3).acc (s3 _ _ h1) _
      · subst heq
        simp at hk
        subst hk
        rw [h2] at hpk
        rw [hpp] at hpk
        cases hpk
        exact iB.acc ⟨d,l,kvs,g1,g2,g3,g4,nl⟩ (s3 _ _ h1) _
      · rw [List.getElem?_eq_none (by simp;omega)] at hk
        cases hk
    · rintro zs τ H2 ⟨c1,tts,rfl,rfl,htl,htn,hTr,s2⟩
      rw [hxl] at htn
      refine⟨_,rfl,_,ps,rfl,hp.same s2 (cD ps),hin,by omega,fun bl brs bs H3 B hbl hB nbl nbr s3=>?_⟩
      have hTr3:∀ (k:Nat) (tt:Addr) (pc:Piece),tts[k]? = some tt->ps[k]? = some pc->iB H3 tl tt pc:=fun k tt pc a b=>(hTr k tt pc a b).same s3
      have htl3:=s3 _ _ htl
      have sH3:=s2.trans s3
      clear hTr htl
      refine⟨_,rfl,tl,rfl,⟨_,av.of htl3⟩,fun fl nfl=>?_⟩
      refine eB (K:=K) (a:=tl) (xs:=tts.map V.ref) (fun i zs τ H'=>∃ (c1 c2:Option V) (rs:List Addr),τ = [c1,c2]/\zs=rs.map V.ref/\H' fl=some (.lst zs)/\rs.length=i/\rs.Nodup/\(∀ (k:Nat) (r:Addr) (pc:Piece),rs[k]? = some r->ps[k]? = some pc->H' r=some (oK (fw (dX pc))))/\(∀ r ∈ rs,H3 r=none)/\fl ∉ rs/\af H3 H') ?_ ?_ ?_ ?_
      · exact⟨none,none,[],rfl,rfl,aa,rfl,List.nodup_nil,(by intro k r pc h;simp at h),(by simp),(by simp),af.new nfl⟩
      · rintro i zs τ H4 hi ⟨c1,c2,rs,rfl,rfl,h1,h2,h3,h4,h5,h6,h7⟩
        rw [List.length_map] at hi
        exact⟨av.of (h7 _ _ htl3),h1,aw (by rw [List.length_map];omega)⟩
      · rintro i x zs τ H4 hx ⟨c1,c2,rs,rfl,rfl,h1,h2,h3,h4,h5,h6,h7⟩
        rw [List.getElem?_map] at hx
        cases htt:tts[i]? with
        | none=>rw [htt] at hx;cases hx
        | some tt =>
          rw [htt] at hx
          cases hx
          have hi:i < ps.length:=by
            have:=(List.getElem?_eq_some_iff.mp htt).1
            omega
          have hpp:ps[i]? = some ps[i]:=by simp [hi]
          have hdl:=(ok.cS _ (List.mem_of_getElem? hpp)).1
          generalize ps[i] = pe at hpp hdl
          have hal:=m3 pe
          obtain⟨d,al,kvs,t1,t2,t3,t4,t5⟩:=(hTr3 i tt pe htt hpp).same h7
          refine⟨tt,_,rfl,ar.of t1,rfl,_,_,rfl,_,_,rfl,rfl,?_⟩
          change ∃ v,_/\_
          refine⟨_,rfl,al,rfl,⟨_,av.of t4⟩,fun r nr=>?_⟩
          have s1:=af.new (o:=.dK []) nr
          have nrf:fl ≠ r:=aK h1 nr
          refine uk (K:=K) (a:=al) (xs:=(dX pe).map V.str) (fun j ys τ' H'=>∃ c3,τ' = [c3]/\ys=kS (fw ((dX pe).take j))/\H' r=some (.dK ys)/\af H4 H') ?_ ?_ ?_ ?_
          · exact⟨none,rfl,rfl,aa,s1⟩
          · rintro j ys τ' H5 hj ⟨c3,rfl,rfl,g1,g2⟩
            refine⟨av.of (g2 _ _ t4),g1,aw ?_⟩
            have:=oO ((dX pe).take j)
            rw [List.length_take] at this
            rw [kI]
            omega
          · rintro j x ys τ' H5 hx ⟨c3,rfl,rfl,g1,g2⟩
            rw [List.getElem?_map] at hx
            cases hn:(dX pe)[j]? with
            | none=>rw [hn] at hx;cases hx
            | some y =>
              rw [hn] at hx
              cases hx
              change ∃ v,_/\_
              refine⟨_,rfl,Sum.inr y,rfl,g1,_,rfl,?_,aa,g2.put nr⟩
              rw [qM,List.take_add_one,hn]
              simp [iC]
          · rintro ys τ' H5 ⟨c3,rfl,rfl,g1,g2⟩
            rw [List.length_map,List.take_of_length_le (Nat.le_refl _)] at g1
            refine⟨g2 _ _ h1,_,_,rs ++ [r],rfl,(by simp),aa,(by simp [h2]),?_,?_,?_,?_,(h7.trans g2).put nfl⟩
            · rw [List.nodup_append]
              refine⟨h3,by simp,fun a ha b hb z=>?_⟩
              rw [List.mem_singleton] at hb
              subst hb;subst z
              obtain⟨k,hk⟩:=List.getElem?_of_mem ha
              have hkl:k < ps.length:=by have:=(List.getElem?_eq_some_iff.mp hk).1;omega
              have:=h4 k _ _ hk (show ps[k]? = some ps[k] by simp [hkl])
              rw [nr] at this;cases this
            · intro k r' pc' hk hpk
              rcases Nat.lt_trichotomy k rs.length with hlt | heq | hgt
              · rw [List.getElem?_append_left hlt] at hk
                have:=g2 _ _ (h4 k r' pc' hk hpk)
                rw [ae (bS this (g2 _ _ h1) (by intro z;cases z))]
                exact this
              · subst heq
                simp at hk
                subst hk
                rw [h2,hpp] at hpk
                cases hpk
                rw [ae nrf.symm]
                exact g1
              · rw [List.getElem?_eq_none (by simp;omega)] at hk
                cases hk
            · intro r' hr'
              rcases List.mem_append.mp hr' with h | h
              · exact h5 _ h
              · rw [List.mem_singleton.mp h];exact h7.free nr
            · intro z
              rcases List.mem_append.mp z with h | h
              · exact h6 h
              · exact nrf (List.mem_singleton.mp h)
      · rintro zs τ H4 ⟨c1',c2',rs,rfl,rfl,hfl,hrn,hrd,hrs,hr0,hfo,s4⟩
        rw [List.length_map,htn] at hrn
        have O4:dY H4 fl rs ((F0 ps).map oK):=by
          refine⟨hfl,fun k r o g1 g2=>?_,by simp [hrn,F0],hrd,hfo⟩
          unfold F0 at g2
          rw [List.getElem?_map,List.getElem?_map] at g2
          cases hk:ps[k]? with
          | none=>rw [hk] at g2;cases g2
          | some pc=>rw [hk] at g2;cases g2;exact hrs k r pc g1 hk
        clear hrs
        refine⟨_,rfl,fl,rfl,.inr ⟨⟨_,av.of hfl⟩,fun wl nwl=>?_⟩⟩
        refine uq (xs:=rs.map V.ref) (fun i zs τ H'=>∃ (c1 c2 c3:Option V) (wts:List Addr) (W:List (Nat × Str)),τ = [c1,c2,c3]/\zs=wts.map V.ref/\H' wl=some (.lst zs)/\dH H' wts W/\(∀ q:Nat × Str,q ∈ W ↔ q.1 < i/\cA (F0 ps) q.1 q.2)/\W.length<=i * 501/\af H4 H') ?_ ?_ ?_ ?_
        · exact⟨none,none,none,[],[],rfl,rfl,aa,.nil,(by simp),(by simp),af.new nwl⟩
        · rintro i zs τ H5 hi ⟨c1,c2,c3,wts,W,rfl,rfl,h1,h2,h3,h4,h5⟩
          exact av.of (h5 _ _ hfl)
        · rintro i x zs τ H5 t hx ht ⟨c1,c2,c3,wts,W,rfl,rfl,h1,h2,h3,h4,h5⟩
          rw [List.getElem?_map] at hx
          cases hr:rs[i]? with
          | none=>rw [hr] at hx;cases hx
          | some r =>
            rw [hr] at hx
            cases hx
            have hi:i < ps.length:=by
              have:=(List.getElem?_eq_some_iff.mp hr).1
              omega
            have hpp:ps[i]? = some ps[i]:=by simp [hi]
            have hdl:=(ok.cS _ (List.mem_of_getElem? hpp)).1
            generalize ps[i] = pe at hpp hdl
            have hal:=m3 pe
            have hdd:=oO (dX pe)
            have hF:=pL hpp
            have hro:H4 r=some (oK (fw (dX pe))):=O4.at_ i r _ hr (by rw [List.getElem?_map,hF];rfl)
            generalize hys:fw (dX pe)=ys at hF hro hdd
            have st:=af.new (o:=.tup [.int (i:Nat),.ref r]) ht
            have h1':=st _ _ h1
            have h5':=h5.trans st
            have h2':dH (upd H5 t (.tup [.int (i:Nat),.ref r])) wts W:=h2.keep fun c ys e=>st _ _ e
            have htt:(upd H5 t (.tup [.int (i:Nat),.ref r])) t=some (.tup [.int (i:Nat),.ref r]):=aa
            generalize (upd H5 t (.tup [.int (i:Nat),.ref r]))=H6 at h1' h5' h2' htt
            refine⟨t,_,rfl,ar.of htt,rfl,_,_,rfl,_,_,rfl,rfl,?_⟩
            have hwr:wl ≠ r:=fun z=>by rw [z,hro] at nwl;cases nwl
            change ∃ v,_/\_
            refine⟨_,rfl,r,kS ys,rfl,h5' _ _ hro,fun ob=>⟨fun j zs' τ' H'=>∃ (c3:Option V) (wts':List Addr),τ' = [some (.int (i:Nat)),some (.ref r),c3]/\zs' = wts'.map V.ref/\H' wl=some (.lst zs')/\H' r=some (.dC ob (.dK (kS ys)))/\dH H' wts' (W++(ys.take j).map fun y=>(i,y))/\(∀ c o,H4 c=some o->c ≠ r->H' c=some o),?_,?_,?_,?_⟩⟩
            · refine⟨c3,wts,rfl,rfl,(by rw [ae hwr];exact h1'),aa,?_,fun c o hc hn=>by rw [ae hn];exact h5' _ _ hc⟩
              simp only [List.take_zero,List.map_nil,List.append_nil]
              exact h2'.keep fun c ys e=>by rw [ae (bS e (h5' _ _ hro) (by intro z;cases z))];exact e
            · rintro j zs' τ' H7 hj ⟨c3,wts',rfl,rfl,g1,g2,g3,g4⟩
              refine⟨g2,g1,aw ?_⟩
              have:=g3.len
              rw [kI] at hj
              rw [List.length_map,this,List.length_append,List.length_map,List.length_take]
              have:i * 501<=400 * 501:=Nat.mul_le_mul_right _ (by omega)
              omega
            · rintro j k u zs' τ' H7 hk ⟨c3,wts',rfl,rfl,g1,g2,g3,g4⟩
              unfold kS at hk
              rw [List.getElem?_map] at hk
              cases hy:ys[j]? with
              | none=>rw [hy] at hk;cases hk
              | some y =>
                rw [hy] at hk
                cases hk
                change ∃ v,_/\_
                refine⟨_,rfl,_,rfl,ln2,fun wt nwt=>?_⟩
                have sw:=af.new (o:=.tup [.int (i:Nat),.str y]) nwt
                refine⟨sw _ _ g1,_,wts' ++ [wt],rfl,(by simp),aa,?_,?_,?_⟩
                · rw [ae hwr.symm];exact sw _ _ g2
                · rw [List.take_add_one,hy,List.map_append,<-List.append_assoc]
                  refine dH.snoc (q:=(i,y)) ?_ (g3.keep fun c zs e=>?_)
                  · show upd (upd H7 wt _) wl _ wt=_
                    rw [ae (aK g1 nwt).symm];exact aa
                  · rw [ae (bS e g1 (by intro z;cases z))];exact sw _ _ e
                · intro c o hc hn
                  rw [ae (aK hc nwl)]
                  exact sw _ _ (g4 c o hc hn)
            · rintro zs' τ' H7 ⟨c3,wts',rfl,rfl,g1,g2,g3,g4⟩
              rw [kI,List.take_of_length_le (Nat.le_refl _)] at g3
              refine⟨_,_,_,wts',_,rfl,rfl,(by rw [ae hwr];exact g1),g3.keep fun c zs e=>(by rw [ae (bS e g2 (by intro z;cases z))];exact e),fun q=>?_,?_,fun c o hc=>?_⟩
              · rw [List.mem_append,h3 q]
                constructor
                · rintro (⟨a,b⟩ | a)
                  · exact⟨Nat.lt_succ_of_lt a,b⟩
                  · obtain⟨y,hy,rfl⟩:=List.mem_map.mp a
                    exact⟨Nat.lt_succ_self _,_,hF,hy⟩
                · rintro⟨a,b⟩
                  by_cases e:q.1=i
                  · obtain⟨zs,b1,b2⟩:=b
                    rw [e,hF] at b1
                    cases b1
                    exact .inr (List.mem_map.mpr ⟨q.2,b2,by rw [<-e]⟩)
                  · exact .inl ⟨by omega,b⟩
              · rw [List.length_append,List.length_map,Nat.succ_mul]
                omega
              · by_cases e:c=r
                · rw [e] at hc
                  rw [hro] at hc
                  cases hc
                  rw [e]
                  exact aa
                · rw [ae e];exact g4 c o hc e
        · rintro zs τ H5 ⟨c1,c2,c3,wts,W,rfl,rfl,hwl,hWt,hW,hWn,s5⟩
          rw [List.length_map,hrn] at hW hWn
          have hW':∀ q:Nat × Str,q ∈ W ↔ cA (F0 ps) q.1 q.2:=fun q=>(hW q).trans ⟨fun h=>h.2,fun h=>⟨by
            obtain⟨xs,h1,_⟩:=h
            have:=(List.getElem?_eq_some_iff.mp h1).1
            simpa [F0] using this,h⟩⟩
          have I0:=vR hW'
          have O5:=O4.same s5
          have nwl3:H3 wl=none:=s4.free nwl
          have s35:=s4.trans s5
          have hrw:∀ r ∈ rs,wl ≠ r:=fun r hr z=>by
            obtain⟨k,hk⟩:=List.getElem?_of_mem hr
            have hkl:k < ps.length:=by have:=(List.getElem?_eq_some_iff.mp hk).1;omega
            have hkp:ps[k]? = some ps[k]:=by simp [hkl]
            have:=O4.at_ k r (oK (fw (dX ps[k]))) hk (by rw [List.getElem?_map,pL hkp];rfl)
            rw [<-z,nwl] at this
            cases this
          have hfw:fl ≠ wl:=aK hfl nwl
          refine⟨fun m σ H'=>∃ (F:List (List Str)) (W:List (Nat × Str)) (wts:List Addr) (u5 u6 u7 u8:Option V),σ = [some (.ref p),some (.ref tl),some (.ref bl),some (.ref fl),some (.ref wl),u5,u6,u7,u8]/\dY H' fl rs (F.map oK)/\H' wl=some (.lst (wts.map V.ref))/\dH H' wts W/\gL ps F W (fun _ _=>False)/\m=W.length+2 * (ps.length * pool.length - fu F)/\m<=300000/\af H3 H',⟨_,F0 ps,W,wts,none,none,none,none,rfl,O5,hwl,hWt,I0,rfl,?_,s35⟩,?_⟩
          · have h1:ps.length * pool.length<=400 * 64:=Nat.mul_le_mul hpl (Nat.le_of_lt h64)
            have h2:ps.length * 501<=400 * 501:=Nat.mul_le_mul_right _ hpl
            omega
          clear hWt hW hWn hW' I0 O5 hwl
          rintro m σ H6 ⟨F,W,wts,u5,u6,u7,u8,rfl,O6,hw6,hWt,I6,hm,hmb,s6⟩
          have hlenW:=hWt.len
          have hFb:∀ xs ∈ F,xs.Nodup/\xs.length<=pool.length:=fun xs hxs=>by
            obtain⟨k,hk⟩:=List.getElem?_of_mem hxs
            have:=I6.kH k xs hk
            exact⟨this.1,fH this.1 fun x hx=>dz ok (this.2 x hx)⟩
          refine⟨_,rfl,!(wts.map V.ref).isEmpty,.inl ⟨_,av.of hw6,rfl⟩,?_⟩
          rcases (show W = []\/∃ W' q,W=W' ++ [q] from (List.eq_nil_or_concat W).imp id fun ⟨a,b,h⟩=>⟨a,b,by rw [h,List.concat_eq_append]⟩) with rfl | ⟨W',⟨k,x⟩,rfl⟩
          · cases hWt
            refine aI rfl ?_
            refine⟨_,rfl,fl,rfl,⟨_,av.of O6.lst⟩,fun acc na=>?_⟩
            refine eB (K:=K) (a:=fl) (xs:=rs.map V.ref) (fun i zs τ H'=>∃ (c1:Option V) (L:List (List Str)),τ = [c1]/\aD H' zs (L.map fun xs=>PyData.tuple (xs.map PyData.str))/\zs.length=i/\L.length=i/\(∀ (k:Nat) (xs:List Str),L[k]? = some xs->sortedS xs=true/\xs.Nodup/\∀ x,x ∈ xs ↔ bG ps k x)/\H' acc=some (.lst zs)/\af H6 H') ?_ ?_ ?_ ?_
            · exact⟨none,[],rfl,.nil,rfl,rfl,(by intro k xs h;simp at h),aa,af.new na⟩
            · rintro i zs τ H7 hi ⟨c1,L,rfl,h1,h2,h3,h4,h5,h6⟩
              rw [List.length_map] at hi
              exact⟨av.of (h6 _ _ O6.lst),h5,aw (by omega)⟩
            · rintro i x zs τ H7 hx ⟨c1,L,rfl,h1,h2,h3,h4,h5,h6⟩
              rw [List.getElem?_map] at hx
              cases hr:rs[i]? with
              | none=>rw [hr] at hx;cases hx
              | some r =>
                rw [hr] at hx
                cases hx
                have hi:i < F.length:=by
                  have:=(List.getElem?_eq_some_iff.mp hr).1
                  rw [I6.len]
                  omega
                have hFi:F[i]? = some F[i]:=by simp [hi]
                generalize F[i] = ys at hFi
                have hro:H6 r=some (oK ys):=O6.at_ i r _ hr (by rw [List.getElem?_map,hFi];rfl)
                have hyb:=hFb ys (List.mem_of_getElem? hFi)
                change ∃ v,_/\_
                refine⟨_,rfl,r,kS ys,ys,rfl,h6 _ _ hro,ur ys,by omega,fun l ss hperm hsort nl=>?_⟩
                refine⟨l,_,rfl,.inl ⟨av.of aa,fun t nt=>?_⟩⟩
                have sl:=(af.new (o:=.lst (ss.map V.str)) nl).trans (af.new (o:=.tup (ss.map V.str)) nt)
                have ht2:(upd (upd H7 l (.lst (ss.map V.str))) t (.tup (ss.map V.str))) t=some (.tup (ss.map V.str)):=aa
                generalize (upd (upd H7 l (.lst (ss.map V.str))) t (.tup (ss.map V.str)))=H8 at sl ht2
                have ha8:=sl _ _ h5
                refine⟨ha8,_,L ++ [ss],rfl,?_,(by simp [h2]),(by simp [h3]),?_,aa,(h6.trans sl).put na⟩
                · rw [List.map_append]
                  have r1:aD H8 (zs ++ [.ref t]) (L.map (fun xs=>PyData.tuple (xs.map PyData.str)) ++ [.tuple (ss.map PyData.str)]):=(h1.same sl (fI L)).app (.tup ht2 (m5 _ _))
                  refine r1.put ha8 ?_
                  have:=fI (L ++ [ss])
                  rw [List.map_append] at this
                  exact this
                · intro k xs hk
                  rcases Nat.lt_trichotomy k L.length with hlt | heq | hgt
                  · rw [List.getElem?_append_left hlt] at hk
                    exact h4 k xs hk
                  · subst heq
                    simp at hk
                    subst hk
                    refine⟨hsort,hperm.nodup_iff.mpr hyb.1,fun x=>?_⟩
                    rw [hperm.mem_iff,h3]
                    refine Iff.trans ⟨fun h=>⟨_,hFi,h⟩,fun ⟨zs,a,b⟩=>?_⟩ (I6.is i x)
                    rw [hFi] at a;cases a;exact b
                  · rw [List.getElem?_eq_none (by simp;omega)] at hk
                    cases hk
            · rintro zs τ H7 ⟨c1,L,rfl,h1,h2,h3,h4,h5,h6⟩
              rw [List.length_map,hrn] at h3
              refine⟨acc,_,rfl,.inl ⟨av.of h5,fun t nt=>?_⟩⟩
              exact q _ L _ (.tup aa (h1.same (af.new nt) (fI L))) h3 h4 (((sH3.trans s6).trans h6).trans (af.new nt))
          · obtain⟨ws,wt,rfl,hWs,hwt⟩:=hWt.snoc_inv
            refine aZ (by cases ws <;> rfl) ?_
            have hwev:(ws ++ [wt]).map V.ref=ws.map V.ref ++ [.ref wt]:=by rw [List.map_append];rfl
            obtain⟨fk,hFk,hxk⟩:=I6.wt (k,x) (by simp)
            have hlk:=(I6.kH k fk hFk).2 x hxk
            have hkl:k < ps.length:=by rw [<-I6.len];exact (List.getElem?_eq_some_iff.mp hFk).1
            have hbk:bs[k]? = some bs[k]:=by simp [show k < bs.length by omega]
            generalize bs[k] = bb at hbk
            have hBb:=hB k bb hbk
            have B6:=B.same s6
            obtain⟨br,hbr,hbo,hbv⟩:=B6.get (k:=k) (o:=oN bb) (by rw [List.getElem?_map,hbk];rfl)
            have hbo3:H3 br=some (oN bb):=B.at_ k br _ hbr (by rw [List.getElem?_map,hbk];rfl)
            have hWl:(W' ++ [(k,x)]).length=W'.length+1:=by simp
            refine⟨fun σ' H'=>∃ (F:List (List Str)) (W:List (Nat × Str)) (wts:List Addr) (u5 u6 u7 u8:Option V),σ' = [some (.ref p),some (.ref tl),some (.ref bl),some (.ref fl),some (.ref wl),u5,u6,u7,u8]/\dY H' fl rs (F.map oK)/\H' wl=some (.lst (wts.map V.ref))/\dH H' wts W/\gL ps F W (fun _ _=>False)/\W.length+2 * (ps.length * pool.length - fu F) < m/\af H3 H',fun σ' H' ⟨F,W,wts,u5,u6,u7,u8,a1,a2,a3,a4,a5,a6,a7⟩=>⟨_,a6,F,W,wts,u5,u6,u7,u8,a1,a2,a3,a4,a5,rfl,by omega,a7⟩,?_⟩
            refine⟨_,rfl,.inl ⟨rfl,_,av.of hw6⟩,wl,_,.ref wt,rfl,rfl,hw6,(by rw [hwev];simp),?_⟩
            rw [hwev,List.dropLast_concat]
            have hwt7:(upd H6 wl (.lst (ws.map V.ref))) wt=some (.tup [.int (k:Nat),.str x]):=by rw [ae (bS hwt hw6 (by intro z;cases z))];exact hwt
            have O7:dY (upd H6 wl (.lst (ws.map V.ref))) fl rs (F.map oK):=⟨by rw [ae hfw];exact O6.lst,fun j r o g1 g2=>by
              rw [ae (hrw r (List.mem_of_getElem? g1)).symm];exact O6.at_ j r o g1 g2,O6.len,O6.nd,O6.out⟩
            have hw7:(upd H6 wl (.lst (ws.map V.ref))) wl=some (.lst (ws.map V.ref)):=aa
            have s7:af H3 (upd H6 wl (.lst (ws.map V.ref))):=s6.put nwl3
            have hWs7:dH (upd H6 wl (.lst (ws.map V.ref))) ws W':=hWs.keep fun c zs e=>by rw [ae (bS e hw6 (by intro z;cases z))];exact e
            generalize (upd H6 wl (.lst (ws.map V.ref)))=H7 at hwt7 O7 hw7 s7 hWs7
            refine⟨wt,_,rfl,ar.of hwt7,rfl,_,_,rfl,_,_,rfl,rfl,?_⟩
            have B7:=B.same s7
            refine⟨_,rfl,_,rfl,bl,_,_,_,rfl,rfl,av.of B7.lst,bh hbv,br,rfl,⟨_,av.of (s7 _ _ hbo3)⟩,?_⟩
            refine rC (K:=K) (a:=br) (xs:=vN bb) (fun j σ H'=>∃ (F:List (List Str)) (W:List (Nat × Str)) (wts:List Addr) (u7 u8:Option V),σ = [some (.ref p),some (.ref tl),some (.ref bl),some (.ref fl),some (.ref wl),some (.int (k:Nat)),some (.str x),u7,u8]/\dY H' fl rs (F.map oK)/\H' wl=some (.lst (wts.map V.ref))/\dH H' wts W/\gL ps F W (fun k' x'=>k' = k/\x' = x)/\(∀ a ∈ bb.take j,∀ pc:Piece,ps[a]? = some pc->∀ y,cU pc.1 x=some y->cA F a y)/\W.length+2 * (ps.length * pool.length - fu F) < m/\af H3 H') ?_ ?_ ?_ ?_
            · exact⟨F,W',ws,_,_,rfl,O7,hw7,hWs7,I6.pop,(by simp),(by omega),s7⟩
            · rintro j σ H8 hj ⟨F,W,wts,u7,u8,rfl,O8,hw8,hWt8,I8,hcl,hm8,s8⟩
              exact av.of (s8 _ _ hbo3)
            · rintro j y σ H8 hy ⟨F,W,wts,u7,u8,rfl,O8,hw8,hWt8,I8,hcl,hm8,s8⟩
              rw [List.getElem?_map] at hy
              cases haj:bb[j]? with
              | none=>rw [haj] at hy;cases hy
              | some a =>
                rw [haj] at hy
                cases hy
                obtain⟨hal,pc,hpc,hkw⟩:=(hBb.2 a).mp (List.mem_of_getElem? haj)
                have htt:tts[a]? = some tts[a]:=by simp [show a < tts.length by omega]
                generalize tts[a] = tt at htt
                obtain⟨d,al,kvs,t1,t2,t3,t4,t5⟩:=(hTr3 a tt pc htt hpc).same s8
                have hFl:a < F.length:=by rw [I8.len];exact hal
                have hFa:F[a]? = some F[a]:=by simp [hFl]
                generalize F[a] = fa at hFa
                obtain⟨r,hr,hro,hrv⟩:=O8.get (k:=a) (o:=oK fa) (by rw [List.getElem?_map,hFa];rfl)
                refine⟨_,rfl,_,rfl,tl,_,_,_,rfl,rfl,av.of (s8 _ _ htl3),bh (by rw [List.getElem?_map,htt];rfl),tt,_,0,_,rfl,rfl,ar.of t1,di,d,rfl,.inl ⟨kvs,.inl t2⟩,_,rfl,_,rfl,_,_,fT.k (k:=Sum.inr x) t2,t3 x,?_⟩
                cases hsx:cU pc.1 x with
                | none =>
                  refine⟨_,rfl,_,rfl,?_⟩
                  refine aI (by decide) ?_
                  refine dh ?_
                  refine⟨F,W,wts,_,_,rfl,O8,hw8,hWt8,I8,fun a' ha' pc' hp' y' hy'=>?_,hm8,s8⟩
                  rw [List.take_add_one,haj] at ha'
                  rcases List.mem_append.mp ha' with g | g
                  · exact hcl a' g pc' hp' y' hy'
                  · have:=List.mem_singleton.mp g
                    subst this
                    rw [hpc] at hp'
                    cases hp'
                    rw [hsx] at hy'
                    cases hy'
                | some z =>
                  refine⟨_,rfl,_,rfl,?_⟩
                  refine aZ (by simp [oS]) ?_
                  refine⟨_,rfl,_,rfl,_,rfl,fl,_,_,_,rfl,rfl,av.of O8.lst,bh hrv,r,_,rfl,fT.k (k:=Sum.inr z) hro,_,rfl,?_⟩
                  have hfab:=(I8.kH a fa hFa)
                  have hfal:fa.length<=pool.length:=fH hfab.1 fun x hx=>dz ok (hfab.2 x hx)
                  have hlz:bG ps a z:=.back hlk hpc hkw hsx
                  by_cases hz:z ∈ fa
                  · refine aI (by rw [qL,decide_eq_true hz];rfl) ?_
                    refine⟨F,W,wts,_,_,rfl,O8,hw8,hWt8,I8,fun a' ha' pc' hp' y' hy'=>?_,hm8,s8⟩
                    rw [List.take_add_one,haj] at ha'
                    rcases List.mem_append.mp ha' with g | g
                    · exact hcl a' g pc' hp' y' hy'
                    · have:=List.mem_singleton.mp g
                      subst this
                      rw [hpc] at hp'
                      cases hp'
                      rw [hsx] at hy'
                      cases hy'
                      exact⟨_,hFa,hz⟩
                  · refine aZ (by rw [qL,decide_eq_false hz];rfl) ?_
                    refine⟨_,rfl,_,rfl,fl,_,_,_,rfl,rfl,av.of O8.lst,bh hrv,_,rfl,r,_,rfl,i7.k (k:=Sum.inr z) hro (aw (by rw [kI];omega)),?_⟩
                    rw [qM]
                    have hadd:fU fa z=fa ++ [z]:=by unfold fU;rw [if_neg hz]
                    rw [hadd]
                    have hrm:=List.mem_of_getElem? hr
                    have O9:dY (upd H8 r (oK (fa ++ [z]))) fl rs ((F.set a (fa ++ [z])).map oK):=by rw [List.map_set];exact O8.put hr
                    have hw9:(upd H8 r (oK (fa ++ [z]))) wl=some (.lst (wts.map V.ref)):=by rw [ae (hrw r hrm)];exact hw8
                    have s9:af H3 (upd H8 r (oK (fa ++ [z]))):=s8.put (hr0 r hrm)
                    have hWt9:dH (upd H8 r (oK (fa ++ [z]))) wts W:=hWt8.keep fun c zs e=>by rw [ae (bS e hro (by intro z;cases z))];exact e
                    change (_:Hp->Prop) (upd H8 r (oK (fa ++ [z])))
                    generalize (upd H8 r (oK (fa ++ [z])))=H9 at O9 hw9 s9 hWt9
                    have hwn:wts.length=W.length:=hWt9.len
                    refine⟨_,rfl,.inl ⟨rfl,_,av.of hw9⟩,_,rfl,_,rfl,ln2,fun wt2 nwt2=>?_⟩
                    have sw:=af.new (o:=.tup [.int (a:Nat),.str z]) nwt2
                    have hw10:=sw _ _ hw9
                    have nw2:wl ≠ wt2:=aK hw9 nwt2
                    refine⟨wl,_,_,rfl,rfl,hw10,aw (by rw [List.length_map];omega),?_⟩
                    have ht:=sum_set (y:=z) hFa
                    have htb:fu (F.set a (fa ++ [z]))<=ps.length * pool.length:=by
                      have I9:=I8.add hFa hz hlz
                      rw [<-I9.len]
                      refine vP fun xs hxs=>?_
                      obtain⟨k',hk'⟩:=List.getElem?_of_mem hxs
                      have:=I9.kH k' xs hk'
                      exact fH this.1 fun x hx=>dz ok (this.2 x hx)
                    refine⟨F.set a (fa ++ [z]),W ++ [(a,z)],wts ++ [wt2],_,_,rfl,?_,?_,?_,I8.add hFa hz hlz,fun a' ha' pc' hp' y' hy'=>?_,?_,?_⟩
                    · exact⟨by rw [ae hfw];exact sw _ _ O9.lst,fun j r o g1 g2=>by
                        rw [ae (hrw r (List.mem_of_getElem? g1)).symm];exact sw _ _ (O9.at_ j r o g1 g2),O9.len,O9.nd,O9.out⟩
                    · rw [aa,List.map_append];rfl
                    · refine dH.snoc (q:=(a,z)) ?_ (hWt9.keep fun c zs e=>?_)
                      · rw [ae nw2.symm];exact aa
                      · rw [ae (bS e hw9 (by intro z;cases z))];exact sw _ _ e
                    · rw [List.take_add_one,haj] at ha'
                      rcases List.mem_append.mp ha' with g | g
                      · exact (ig hFa _ _).mpr (.inl (hcl a' g pc' hp' y' hy'))
                      · have:=List.mem_singleton.mp g
                        subst this
                        rw [hpc] at hp'
                        cases hp'
                        rw [hsx] at hy'
                        cases hy'
                        exact (ig hFa _ _).mpr (.inr ⟨rfl,rfl⟩)
                    · rw [List.length_append]
                      simp only [List.length_cons,List.length_nil]
                      omega
                    · exact (s9.trans sw).put nwl3
            · rintro σ H8 ⟨F,W,wts,u7,u8,rfl,O8,hw8,hWt8,I8,hcl,hm8,s8⟩
              rw [List.length_map,List.take_of_length_le (Nat.le_refl _)] at hcl
              refine⟨F,W,wts,_,_,_,_,rfl,O8,hw8,hWt8,I8.close fun a pc hp hk y hy=>?_,hm8,s8⟩
              exact hcl a ((hBb.2 a).mpr ⟨(List.getElem?_eq_some_iff.mp hp).1,pc,hp,hk⟩) pc hp y hy
theorem j0 {f:Addr} {fd:FuncData} (F:dg K "without_spare" "without_spare" cq f fd) (Z:Bl mg)  : bI P w K mg base cQ 2 f fd ["deeds", "names"] fD:=by
  refine F.ok (k:=1) cM (fun vs H Q E h=>?_) (fun cdv A outer s H vs Q E hr h=>?_)
  · obtain⟨da,l,ws,ds,ns,rfl,_⟩:=h
    rfl
  · obtain⟨da,l,ws,ds,ns,rfl,hda,hws,hdl,hl,hnl,q⟩:=h
    refine⟨_,(ah (aF (i:=2) cM.nd rfl (Or.inl rfl) (bF (qE rfl) rfl Z.set vG (U (pv 1) ab)))
      (ah (aF (i:=3) cM.nd rfl (Or.inl rfl) (bE ab))
      (ah (cJ PassesOwn.never rfl (vU rfl Z.reversed (U (pv 0) ab)) (aC (i:=4) cM.nd rfl (Or.inl rfl))
      (ah (p7 (i:=5) (j:=6) rfl cM.nd rfl rfl (by decide) rfl rfl (U (aJ bo (pv 4) ai (fun _ _=>rfl)) (U (aJ bo (pv 4) ai (fun _ _=>rfl)) ab)) rfl)
      (ah (bL (PW.pt (j3 (aL eZ (pv 5) (bY (U aM (U aM (U aM ab)))) (by with_unfolding_all rfl)) (jl (aL qF (pv 6) (pv 2) (by with_unfolding_all rfl)))))
      (ao nI)
      bp)
      (ah (bJ (cW PySem.F.plainAttrs_list PySem.F.slot_list_append PySem.F.type_list_append bK (pv 3) (U (pv 4) ab)))
      (ah (bL (aL eZ (pv 5) (bY (U aM (U aM (U aM ab)))) (by with_unfolding_all rfl))
      (ao (bJ (mV PySem.F.slot_set_discard PySem.F.type_set_discard sH (pv 2) (U (pv 6) ab))))
      bp)
      (ah (bL (aL cP (pv 5) aM (bc _))
      (ao (bJ (mV PySem.F.slot_set_add PySem.F.type_set_add oG (pv 2) (U (pv 6) ab))))
      bp)
      (ao (bL (aL cP (pv 5) aM (bc _))
      (ao (bJ (mV PySem.F.slot_set_add PySem.F.type_set_add oG (pv 2) (U (aJ bo (pv 4) ai (fun _ _=>rfl)) ab))))
      bp))))))))
      (ao (aS (bF bw rfl Z.tuple cK (U (oP (pv 3) (gg (lW j8 ai))) ab))))))),?_⟩
    have hwl:ws.length=ds.length:=by rw [hws.len,List.length_map]
    have hkv:ns.map V.str=(ns.map (Sum.inr:Str->Key)).map kV:=by rw [List.map_map];rfl
    refine⟨_,rfl,l,ns.map (Sum.inr:Str->Key),rfl,av.of (by rw [hl,hkv]),(by rw [List.length_map];unfold scanBound;omega),fun wa nwa=>?_⟩
    have W0:jf (LS.cX (ns.map (Sum.inr:Str->Key))) (fun x=>decide (x ∈ ns)):=⟨LS.se _,fun x=>by rw [LS.qB];simp⟩
    have hk0:(LS.cX (ns.map (Sum.inr:Str->Key))).length<=500:=by
      have:=nh (ns.map (Sum.inr:Str->Key)) []
      rw [List.length_map] at this
      unfold LS.cX
      simp at this
      omega
    generalize LS.cX (ns.map (Sum.inr:Str->Key))=ks0 at W0 hk0
    refine⟨(by show 0<=sizeLine;decide),fun ka nka=>?_⟩
    have nka:(upd H wa (aQ P w wa ks0)) ka=none:=nka
    change (_:Hp->Prop) (upd (upd H wa (aQ P w wa ks0)) ka (.lst []))
    have nkw:wa ≠ ka:=fun z=>by rw [<-z] at nka;rw [aa] at nka;cases nka
    have s1:=(af.new (o:=aQ P w wa ks0) nwa).trans (af.new (o:=.lst []) nka)
    have nka0:H ka=none:=(af.new nwa).free nka
    have hwa1:(upd (upd H wa (aQ P w wa ks0)) ka (.lst [])) wa=some (aQ P w wa ks0):=by rw [ae nkw,aa]
    have hka1:(upd (upd H wa (aQ P w wa ks0)) ka (.lst [])) ka=some (.lst []):=aa
    generalize (upd (upd H wa (aQ P w wa ks0)) ka (.lst []))=H1 at s1 hwa1 hka1
    refine⟨_,rfl,da,ws,rfl,ar.of (s1 _ _ hda),?_⟩
    refine uz (K:=K) (a:=da) (xs:=ws) (fun i σ H'=>∃ (ks:List Key) (us:List V) (u1 u2 u3:Option V),σ = [some (.ref da),some (.ref l),some (.ref wa),some (.ref ka),u1,u2,u3]/\H' wa=some (aQ P w wa ks)/\jf ks (fb (fun x=>decide (x ∈ ns)) (ds.reverse.take i)).2/\ks.length<=500+2 * i/\H' ka=some (.lst us)/\aD H us ((fb (fun x=>decide (x ∈ ns)) (ds.reverse.take i)).1.map aY)/\af H H') ?_ ?_ ?_ ?_
    · exact⟨ks0,[],none,none,none,rfl,hwa1,W0,by omega,hka1,.nil,s1⟩
    · rintro i σ H2 hi ⟨ks,us,u1,u2,u3,rfl,h1,h2,h3,h4,h5,h6⟩
      exact ar.of (h6 _ _ hda)
    · rintro i x σ H2 hx ⟨ks,us,u1,u2,u3,rfl,h1,h2,h3,h4,h5,h6⟩
      have hi:i < ds.reverse.length:=by
        have:=(List.getElem?_eq_some_iff.mp hx).1
        rw [List.length_reverse] at this ⊢
        omega
      have hdd:ds.reverse[i]? = some ds.reverse[i]:=List.getElem?_eq_getElem hi
      generalize ds.reverse[i] = dd at hdd
      have ht:=ng (f:=fun x=>decide (x ∈ ns)) hdd
      have hwr:aD H ws.reverse (ds.reverse.map aY):=hws.lj
      obtain⟨v,hv,rd⟩:=hwr.get (i:=i) (d:=aY dd) (by rw [List.getElem?_map,hdd];rfl)
      rw [hx] at hv
      cases hv
      obtain⟨dp,rfl,hdp0⟩:=jr rd
      have hul:us.length<=500:=by
        have h7:=h5.len
        have h8:=uC (fun x=>decide (x ∈ ns)) (ds.reverse.take i)
        rw [List.length_map] at h7
        rw [List.length_take,List.length_reverse] at h8
        omega
      have hi5:i < 500:=by rw [List.length_reverse] at hi;omega
      generalize fb (fun x=>decide (x ∈ ns)) (ds.reverse.take i)=S at h2 h5 ht
      have hdp:=h6 _ _ hdp0
      cases dd
      case put x n =>
        refine⟨_,rfl,dp,_,0,_,rfl,rfl,ar.of hdp,di,_,rfl,dp,_,1,_,rfl,rfl,ar.of hdp,dE,_,_,rfl,?_⟩
        refine⟨_,rfl,gR,fun pG1 npG1=>?_⟩
        have spG1:=af.new (o:=.tup [.str "put",.str "copy",.str "add"]) npG1
        have h1:=spG1 _ _ h1
        have h4:=spG1 _ _ h4
        have h6:=h6.trans spG1
        refine⟨pG1,_,rfl,.inr (ar.of aa),rfl,rfl,_,rfl,?_⟩
        generalize (upd H2 pG1 (.tup [.str "put",.str "copy",.str "add"]))=G1 at h1 h4 h6 ⊢
        clear spG1 npG1
        refine aZ (by decide +kernel) ?_
        refine⟨_,rfl,_,rfl,wa,_,Sum.inr x,rfl,h1,rfl,fun b hb=>⟨_,rfl,?_⟩⟩
        rw [h2.2 x] at hb
        cases hfx:S.2 x with
        | false =>
          have hb0:b=false:=by
            cases b with
            | false=>rfl
            | true=>have:=hb.mp rfl;rw [hfx] at this;cases this
          refine aZ (by rw [hb0];rfl) ?_
          have hkp:¬ cY S.2 (.put x n)=true:=by show ¬ S.2 x=true;rw [hfx];simp
          refine⟨ks,us,_,_,_,rfl,h1,?_,by omega,h4,?_,h6⟩
          · rw [ht];unfold L2.spS;rw [if_neg hkp];exact h2
          · rw [ht];unfold L2.spS;rw [if_neg hkp];exact h5
        | true =>
        have hkp:cY S.2 (.put x n)=true:=hfx
        refine aI (by rw [hb.mpr hfx];rfl) ?_
        refine⟨_,rfl,.inl ⟨rfl,_,av.of h4⟩,_,rfl,ka,_,_,rfl,rfl,h4,aw (by omega),?_⟩
        have h1:(upd G1 ka (.lst (us ++ [.ref dp]))) wa=some (aQ P w wa ks):=by rw [ae nkw];exact h1
        have h6:af H (upd G1 ka (.lst (us ++ [.ref dp]))):=h6.put nka0
        have h4:(upd G1 ka (.lst (us ++ [.ref dp]))) ka=some (.lst (us ++ [.ref dp])):=aa
        generalize (upd G1 ka (.lst (us ++ [.ref dp])))=G2 at h1 h4 h6 ⊢
        refine⟨_,rfl,gR,fun pG3 npG3=>?_⟩
        have spG3:=af.new (o:=.tup [.str "put",.str "copy",.str "read"]) npG3
        have h1:=spG3 _ _ h1
        have h4:=spG3 _ _ h4
        have h6:=h6.trans spG3
        refine⟨pG3,_,rfl,.inr (ar.of aa),rfl,rfl,_,rfl,?_⟩
        generalize (upd G2 pG3 (.tup [.str "put",.str "copy",.str "read"]))=G3 at h1 h4 h6 ⊢
        clear spG3 npG3
        refine aZ (by decide +kernel) ?_
        refine⟨_,rfl,⟨wa,_,rfl,h1⟩,_,rfl,wa,_,Sum.inr x,rfl,rfl,h1,?_⟩
        change (_:Hp->Prop) (upd G3 wa (aQ P w wa (LS.bC ks (Sum.inr x))))
        have h4:(upd G3 wa (aQ P w wa (LS.bC ks (Sum.inr x)))) ka=some (.lst (us ++ [.ref dp])):=by rw [ae nkw.symm];exact h4
        have h6:af H (upd G3 wa (aQ P w wa (LS.bC ks (Sum.inr x)))):=h6.put nwa
        have h1:(upd G3 wa (aQ P w wa (LS.bC ks (Sum.inr x)))) wa=some (aQ P w wa (LS.bC ks (Sum.inr x))):=aa
        generalize (upd G3 wa (aQ P w wa (LS.bC ks (Sum.inr x))))=G4 at h1 h4 h6 ⊢
        refine⟨_,rfl,rfl,_,rfl,?_⟩
        refine aI (show decide (V.str "put" = V.str "tell")=false by decide +kernel) ?_
        refine⟨_,rfl,rfl,_,rfl,?_⟩
        refine aI (show decide (V.str "put" = V.str "copy")=false by decide +kernel) ?_
        refine⟨(LS.bC ks (Sum.inr x)),us ++ [.ref dp],_,_,_,rfl,h1,?_,?_,h4,?_,h6⟩
        · rw [ht];unfold L2.spS;rw [if_pos hkp];exact h2.off x
        · have:=LS.iF ks (Sum.inr x:Key);omega
        · rw [ht];unfold L2.spS;rw [if_pos hkp,List.map_append];exact h5.app rd
      case copy x y =>
        refine⟨_,rfl,dp,_,0,_,rfl,rfl,ar.of hdp,di,_,rfl,dp,_,1,_,rfl,rfl,ar.of hdp,dE,_,_,rfl,?_⟩
        refine⟨_,rfl,gR,fun pG1 npG1=>?_⟩
        have spG1:=af.new (o:=.tup [.str "put",.str "copy",.str "add"]) npG1
        have h1:=spG1 _ _ h1
        have h4:=spG1 _ _ h4
        have h6:=h6.trans spG1
        refine⟨pG1,_,rfl,.inr (ar.of aa),rfl,rfl,_,rfl,?_⟩
        generalize (upd H2 pG1 (.tup [.str "put",.str "copy",.str "add"]))=G1 at h1 h4 h6 ⊢
        clear spG1 npG1
        refine aZ (by decide +kernel) ?_
        refine⟨_,rfl,_,rfl,wa,_,Sum.inr x,rfl,h1,rfl,fun b hb=>⟨_,rfl,?_⟩⟩
        rw [h2.2 x] at hb
        cases hfx:S.2 x with
        | false =>
          have hb0:b=false:=by
            cases b with
            | false=>rfl
            | true=>have:=hb.mp rfl;rw [hfx] at this;cases this
          refine aZ (by rw [hb0];rfl) ?_
          have hkp:¬ cY S.2 (.copy x y)=true:=by show ¬ S.2 x=true;rw [hfx];simp
          refine⟨ks,us,_,_,_,rfl,h1,?_,by omega,h4,?_,h6⟩
          · rw [ht];unfold L2.spS;rw [if_neg hkp];exact h2
          · rw [ht];unfold L2.spS;rw [if_neg hkp];exact h5
        | true =>
        have hkp:cY S.2 (.copy x y)=true:=hfx
        refine aI (by rw [hb.mpr hfx];rfl) ?_
        refine⟨_,rfl,.inl ⟨rfl,_,av.of h4⟩,_,rfl,ka,_,_,rfl,rfl,h4,aw (by omega),?_⟩
        have h1:(upd G1 ka (.lst (us ++ [.ref dp]))) wa=some (aQ P w wa ks):=by rw [ae nkw];exact h1
        have h6:af H (upd G1 ka (.lst (us ++ [.ref dp]))):=h6.put nka0
        have h4:(upd G1 ka (.lst (us ++ [.ref dp]))) ka=some (.lst (us ++ [.ref dp])):=aa
        generalize (upd G1 ka (.lst (us ++ [.ref dp])))=G2 at h1 h4 h6 ⊢
        refine⟨_,rfl,gR,fun pG3 npG3=>?_⟩
        have spG3:=af.new (o:=.tup [.str "put",.str "copy",.str "read"]) npG3
        have h1:=spG3 _ _ h1
        have h4:=spG3 _ _ h4
        have h6:=h6.trans spG3
        refine⟨pG3,_,rfl,.inr (ar.of aa),rfl,rfl,_,rfl,?_⟩
        generalize (upd G2 pG3 (.tup [.str "put",.str "copy",.str "read"]))=G3 at h1 h4 h6 ⊢
        clear spG3 npG3
        refine aZ (by decide +kernel) ?_
        refine⟨_,rfl,⟨wa,_,rfl,h1⟩,_,rfl,wa,_,Sum.inr x,rfl,rfl,h1,?_⟩
        change (_:Hp->Prop) (upd G3 wa (aQ P w wa (LS.bC ks (Sum.inr x))))
        have h4:(upd G3 wa (aQ P w wa (LS.bC ks (Sum.inr x)))) ka=some (.lst (us ++ [.ref dp])):=by rw [ae nkw.symm];exact h4
        have h6:af H (upd G3 wa (aQ P w wa (LS.bC ks (Sum.inr x)))):=h6.put nwa
        have h1:(upd G3 wa (aQ P w wa (LS.bC ks (Sum.inr x)))) wa=some (aQ P w wa (LS.bC ks (Sum.inr x))):=aa
        generalize (upd G3 wa (aQ P w wa (LS.bC ks (Sum.inr x))))=G4 at h1 h4 h6 ⊢
        refine⟨_,rfl,rfl,_,rfl,?_⟩
        refine aI (show decide (V.str "copy" = V.str "tell")=false by decide +kernel) ?_
        refine⟨_,rfl,rfl,_,rfl,?_⟩
        refine aZ (show decide (V.str "copy" = V.str "copy")=true by decide +kernel) ?_
        have hdp:=h6 _ _ hdp0
        refine⟨_,rfl,⟨wa,_,rfl,h1⟩,_,rfl,dp,_,2,_,rfl,rfl,ar.of hdp,at2,wa,_,Sum.inr y,rfl,rfl,h1,(by unfold scanBound;have:=LS.iF ks (Sum.inr x:Key);omega),?_⟩
        change (_:Hp->Prop) (upd G4 wa (aQ P w wa (LS.putIn (LS.bC ks (Sum.inr x)) (Sum.inr y))))
        have h4:(upd G4 wa (aQ P w wa (LS.putIn (LS.bC ks (Sum.inr x)) (Sum.inr y)))) ka=some (.lst (us ++ [.ref dp])):=by rw [ae nkw.symm];exact h4
        have h6:af H (upd G4 wa (aQ P w wa (LS.putIn (LS.bC ks (Sum.inr x)) (Sum.inr y)))):=h6.put nwa
        have h1:(upd G4 wa (aQ P w wa (LS.putIn (LS.bC ks (Sum.inr x)) (Sum.inr y)))) wa=some (aQ P w wa (LS.putIn (LS.bC ks (Sum.inr x)) (Sum.inr y))):=aa
        generalize (upd G4 wa (aQ P w wa (LS.putIn (LS.bC ks (Sum.inr x)) (Sum.inr y))))=G5 at h1 h4 h6 ⊢
        refine⟨(LS.putIn (LS.bC ks (Sum.inr x)) (Sum.inr y)),us ++ [.ref dp],_,_,_,rfl,h1,?_,?_,h4,?_,h6⟩
        · rw [ht];unfold L2.spS;rw [if_pos hkp];exact (h2.off x).on y
        · have:=LS.iF ks (Sum.inr x:Key);have:=iG (LS.bC ks (Sum.inr x:Key)) (Sum.inr y);omega
        · rw [ht];unfold L2.spS;rw [if_pos hkp,List.map_append];exact h5.app rd
      case add x n =>
        refine⟨_,rfl,dp,_,0,_,rfl,rfl,ar.of hdp,di,_,rfl,dp,_,1,_,rfl,rfl,ar.of hdp,dE,_,_,rfl,?_⟩
        refine⟨_,rfl,gR,fun pG1 npG1=>?_⟩
        have spG1:=af.new (o:=.tup [.str "put",.str "copy",.str "add"]) npG1
        have h1:=spG1 _ _ h1
        have h4:=spG1 _ _ h4
        have h6:=h6.trans spG1
        refine⟨pG1,_,rfl,.inr (ar.of aa),rfl,rfl,_,rfl,?_⟩
        generalize (upd H2 pG1 (.tup [.str "put",.str "copy",.str "add"]))=G1 at h1 h4 h6 ⊢
        clear spG1 npG1
        refine aZ (by decide +kernel) ?_
        refine⟨_,rfl,_,rfl,wa,_,Sum.inr x,rfl,h1,rfl,fun b hb=>⟨_,rfl,?_⟩⟩
        rw [h2.2 x] at hb
        cases hfx:S.2 x with
        | false =>
          have hb0:b=false:=by
            cases b with
            | false=>rfl
            | true=>have:=hb.mp rfl;rw [hfx] at this;cases this
          refine aZ (by rw [hb0];rfl) ?_
          have hkp:¬ cY S.2 (.add x n)=true:=by show ¬ S.2 x=true;rw [hfx];simp
          refine⟨ks,us,_,_,_,rfl,h1,?_,by omega,h4,?_,h6⟩
          · rw [ht];unfold L2.spS;rw [if_neg hkp];exact h2
          · rw [ht];unfold L2.spS;rw [if_neg hkp];exact h5
        | true =>
        have hkp:cY S.2 (.add x n)=true:=hfx
        refine aI (by rw [hb.mpr hfx];rfl) ?_
        refine⟨_,rfl,.inl ⟨rfl,_,av.of h4⟩,_,rfl,ka,_,_,rfl,rfl,h4,aw (by omega),?_⟩
        have h1:(upd G1 ka (.lst (us ++ [.ref dp]))) wa=some (aQ P w wa ks):=by rw [ae nkw];exact h1
        have h6:af H (upd G1 ka (.lst (us ++ [.ref dp]))):=h6.put nka0
        have h4:(upd G1 ka (.lst (us ++ [.ref dp]))) ka=some (.lst (us ++ [.ref dp])):=aa
        generalize (upd G1 ka (.lst (us ++ [.ref dp])))=G2 at h1 h4 h6 ⊢
        refine⟨_,rfl,gR,fun pG3 npG3=>?_⟩
        have spG3:=af.new (o:=.tup [.str "put",.str "copy",.str "read"]) npG3
        have h1:=spG3 _ _ h1
        have h4:=spG3 _ _ h4
        have h6:=h6.trans spG3
        refine⟨pG3,_,rfl,.inr (ar.of aa),rfl,rfl,_,rfl,?_⟩
        generalize (upd G2 pG3 (.tup [.str "put",.str "copy",.str "read"]))=G3 at h1 h4 h6 ⊢
        clear spG3 npG3
        refine aI (by decide +kernel) ?_
        refine⟨_,rfl,rfl,_,rfl,?_⟩
        refine aI (show decide (V.str "add" = V.str "tell")=false by decide +kernel) ?_
        refine⟨_,rfl,rfl,_,rfl,?_⟩
        refine aI (show decide (V.str "add" = V.str "copy")=false by decide +kernel) ?_
        refine⟨ks,us ++ [.ref dp],_,_,_,rfl,h1,?_,?_,h4,?_,h6⟩
        · rw [ht];unfold L2.spS;rw [if_pos hkp];exact h2
        · omega
        · rw [ht];unfold L2.spS;rw [if_pos hkp,List.map_append];exact h5.app rd
      case read x =>
        have hkp:cY S.2 (.read x)=true:=rfl
        refine⟨_,rfl,dp,_,0,_,rfl,rfl,ar.of hdp,di,_,rfl,dp,_,1,_,rfl,rfl,ar.of hdp,dE,_,_,rfl,?_⟩
        refine⟨_,rfl,gR,fun pG1 npG1=>?_⟩
        have spG1:=af.new (o:=.tup [.str "put",.str "copy",.str "add"]) npG1
        have h1:=spG1 _ _ h1
        have h4:=spG1 _ _ h4
        have h6:=h6.trans spG1
        refine⟨pG1,_,rfl,.inr (ar.of aa),rfl,rfl,_,rfl,?_⟩
        generalize (upd H2 pG1 (.tup [.str "put",.str "copy",.str "add"]))=G1 at h1 h4 h6 ⊢
        clear spG1 npG1
        refine aI (by decide +kernel) ?_
        refine dh ?_
        refine⟨_,rfl,.inl ⟨rfl,_,av.of h4⟩,_,rfl,ka,_,_,rfl,rfl,h4,aw (by omega),?_⟩
        have h1:(upd G1 ka (.lst (us ++ [.ref dp]))) wa=some (aQ P w wa ks):=by rw [ae nkw];exact h1
        have h6:af H (upd G1 ka (.lst (us ++ [.ref dp]))):=h6.put nka0
        have h4:(upd G1 ka (.lst (us ++ [.ref dp]))) ka=some (.lst (us ++ [.ref dp])):=aa
        generalize (upd G1 ka (.lst (us ++ [.ref dp])))=G2 at h1 h4 h6 ⊢
        refine⟨_,rfl,gR,fun pG3 npG3=>?_⟩
        have spG3:=af.new (o:=.tup [.str "put",.str "copy",.str "read"]) npG3
        have h1:=spG3 _ _ h1
        have h4:=spG3 _ _ h4
        have h6:=h6.trans spG3
        refine⟨pG3,_,rfl,.inr (ar.of aa),rfl,rfl,_,rfl,?_⟩
        generalize (upd G2 pG3 (.tup [.str "put",.str "copy",.str "read"]))=G3 at h1 h4 h6 ⊢
        clear spG3 npG3
        refine aZ (by decide +kernel) ?_
        refine⟨_,rfl,⟨wa,_,rfl,h1⟩,_,rfl,wa,_,Sum.inr x,rfl,rfl,h1,?_⟩
        change (_:Hp->Prop) (upd G3 wa (aQ P w wa (LS.bC ks (Sum.inr x))))
        have h4:(upd G3 wa (aQ P w wa (LS.bC ks (Sum.inr x)))) ka=some (.lst (us ++ [.ref dp])):=by rw [ae nkw.symm];exact h4
        have h6:af H (upd G3 wa (aQ P w wa (LS.bC ks (Sum.inr x)))):=h6.put nwa
        have h1:(upd G3 wa (aQ P w wa (LS.bC ks (Sum.inr x)))) wa=some (aQ P w wa (LS.bC ks (Sum.inr x))):=aa
        generalize (upd G3 wa (aQ P w wa (LS.bC ks (Sum.inr x))))=G4 at h1 h4 h6 ⊢
        refine⟨_,rfl,rfl,_,rfl,?_⟩
        refine aI (show decide (V.str "read" = V.str "tell")=false by decide +kernel) ?_
        refine⟨_,rfl,rfl,_,rfl,?_⟩
        refine aI (show decide (V.str "read" = V.str "copy")=false by decide +kernel) ?_
        refine⟨(LS.bC ks (Sum.inr x)),us ++ [.ref dp],_,_,_,rfl,h1,?_,?_,h4,?_,h6⟩
        · rw [ht];unfold L2.spS;rw [if_pos hkp];exact h2.off x
        · have:=LS.iF ks (Sum.inr x:Key);omega
        · rw [ht];unfold L2.spS;rw [if_pos hkp,List.map_append];exact h5.app rd
      case tell x =>
        have hkp:cY S.2 (.tell x)=true:=rfl
        refine⟨_,rfl,dp,_,0,_,rfl,rfl,ar.of hdp,di,_,rfl,dp,_,1,_,rfl,rfl,ar.of hdp,dE,_,_,rfl,?_⟩
        refine⟨_,rfl,gR,fun pG1 npG1=>?_⟩
        have spG1:=af.new (o:=.tup [.str "put",.str "copy",.str "add"]) npG1
        have h1:=spG1 _ _ h1
        have h4:=spG1 _ _ h4
        have h6:=h6.trans spG1
        refine⟨pG1,_,rfl,.inr (ar.of aa),rfl,rfl,_,rfl,?_⟩
        generalize (upd H2 pG1 (.tup [.str "put",.str "copy",.str "add"]))=G1 at h1 h4 h6 ⊢
        clear spG1 npG1
        refine aI (by decide +kernel) ?_
        refine dh ?_
        refine⟨_,rfl,.inl ⟨rfl,_,av.of h4⟩,_,rfl,ka,_,_,rfl,rfl,h4,aw (by omega),?_⟩
        have h1:(upd G1 ka (.lst (us ++ [.ref dp]))) wa=some (aQ P w wa ks):=by rw [ae nkw];exact h1
        have h6:af H (upd G1 ka (.lst (us ++ [.ref dp]))):=h6.put nka0
        have h4:(upd G1 ka (.lst (us ++ [.ref dp]))) ka=some (.lst (us ++ [.ref dp])):=aa
        generalize (upd G1 ka (.lst (us ++ [.ref dp])))=G2 at h1 h4 h6 ⊢
        refine⟨_,rfl,gR,fun pG3 npG3=>?_⟩
        have spG3:=af.new (o:=.tup [.str "put",.str "copy",.str "read"]) npG3
        have h1:=spG3 _ _ h1
        have h4:=spG3 _ _ h4
        have h6:=h6.trans spG3
        refine⟨pG3,_,rfl,.inr (ar.of aa),rfl,rfl,_,rfl,?_⟩
        generalize (upd G2 pG3 (.tup [.str "put",.str "copy",.str "read"]))=G3 at h1 h4 h6 ⊢
        clear spG3 npG3
        refine aI (by decide +kernel) ?_
        refine⟨_,rfl,rfl,_,rfl,?_⟩
        refine aZ (show decide (V.str "tell" = V.str "tell")=true by decide +kernel) ?_
        refine⟨_,rfl,⟨wa,_,rfl,h1⟩,_,rfl,wa,_,Sum.inr x,rfl,rfl,h1,(by unfold scanBound;omega),?_⟩
        change (_:Hp->Prop) (upd G3 wa (aQ P w wa (LS.putIn ks (Sum.inr x))))
        have h4:(upd G3 wa (aQ P w wa (LS.putIn ks (Sum.inr x)))) ka=some (.lst (us ++ [.ref dp])):=by rw [ae nkw.symm];exact h4
        have h6:af H (upd G3 wa (aQ P w wa (LS.putIn ks (Sum.inr x)))):=h6.put nwa
        have h1:(upd G3 wa (aQ P w wa (LS.putIn ks (Sum.inr x)))) wa=some (aQ P w wa (LS.putIn ks (Sum.inr x))):=aa
        generalize (upd G3 wa (aQ P w wa (LS.putIn ks (Sum.inr x))))=G4 at h1 h4 h6 ⊢
        refine⟨_,rfl,rfl,_,rfl,?_⟩
        refine aI (show decide (V.str "tell" = V.str "copy")=false by decide +kernel) ?_
        refine⟨(LS.putIn ks (Sum.inr x)),us ++ [.ref dp],_,_,_,rfl,h1,?_,?_,h4,?_,h6⟩
        · rw [ht];unfold L2.spS;rw [if_pos hkp];exact h2.on x
        · have:=iG ks (Sum.inr x);omega
        · rw [ht];unfold L2.spS;rw [if_pos hkp,List.map_append];exact h5.app rd
    · rintro σ H2 ⟨ks,us,u1,u2,u3,rfl,h1,h2,h3,h4,h5,h6⟩
      rw [hwl,List.take_of_length_le (by rw [List.length_reverse];exact Nat.le_refl _)] at h5
      refine⟨_,rfl,1,rfl,-1,rfl,rfl,ka,_,rfl,av.of h4,fun p np=>⟨p,_,rfl,.inl ⟨av.of aa,fun t nt=>?_⟩⟩⟩
      have sl:=(af.new (o:=.lst us.reverse) np).trans (af.new (o:=.tup us.reverse) nt)
      refine q t us.reverse _ aa ?_ (h6.trans sl)
      unfold aU
      exact (aD.lj h5).same (h6.trans sl) (aO _)
theorem sP {f:Addr} {fd:FuncData} (F:dg K "spare" "spare" gm f fd) (Z:Bl mg) (O_live:Own P w K mg base "live" 5 ["plan"] kJ) (O_asked_by:Own P w K mg base "asked_by" 1 ["end"] gU) (O_ways_on:Own P w K mg base "ways_on" 3 ["end"] kB) (O_without_spare:Own P w K mg base "without_spare" 2 ["deeds", "names"] fD):bI P w K mg base cQ 7 f fd ["plan"] ll:=by
  refine F.ok (k:=6) eY (fun vs H Q E h=>?_) (fun cdv A outer s H vs Q E hr h=>?_)
  · obtain⟨plv,ps,pool,mm,rfl,_⟩:=h
    rfl
  · obtain⟨plv,ps,pool,mm,rfl,hp,ok,hmm,h64,hpl,q⟩:=h
    refine⟨_,(ah (aF (i:=1) eY.nd rfl (Or.inl rfl) (ay O_live (hr.mono (by decide)) rfl (U (pv 0) ab)))
      (ah (aF (i:=2) eY.nd rfl (Or.inl rfl) (bE ab))
      (ah (cJ PassesOwn.never rfl (eO (pv 0)) (fg rfl (bx (aC (i:=3) eY.nd rfl (Or.inl rfl)) (bx (aC (i:=4) eY.nd rfl (Or.inl rfl)) eu)))
      (ah (aF (i:=5) eY.nd rfl (Or.inl rfl) (ay O_asked_by (hr.mono (by decide)) rfl (U (pv 4) ab)))
      (ah (cJ PassesOwn.never rfl (eO (ay O_ways_on (hr.mono (by decide)) rfl (U (pv 4) ab))) (aC (i:=6) eY.nd rfl (Or.inl rfl))
      (ao (bJ (cW PySem.F.plainAttrs_list PySem.F.slot_list_extend PySem.F.type_list_extend pE (pv 5) (U (aJ bo (pv 1) (pv 6) (fun _ _=>rfl)) ab)))))
      (ao (bJ (cW PySem.F.plainAttrs_list PySem.F.slot_list_append PySem.F.type_list_append bK (pv 2) (U (bY (U (ay O_without_spare (hr.mono (by decide)) rfl (U (pv 3) (U (pv 5) ab))) (U (pv 4) ab))) ab)))))))
      (ao (aS (bF bw rfl Z.tuple cK (U (pv 2) ab))))))),?_⟩
    have hin:=ok.i9
    refine⟨_,rfl,_,ps,pool,mm,rfl,hp,ok,hmm,h64,hpl,fun lv L H1 hL hLl hLs s1=>?_⟩
    obtain⟨lt,lxs,rfl,hlt,rL⟩:=aP.cm hL
    refine⟨(by show 0<=sizeLine;decide),fun ka nka=>?_⟩
    obtain⟨p,xs,rfl,e1,rp⟩:=aP.cm hp
    have hxl:xs.length=ps.length:=by rw [rp.len,List.length_map]
    have s2:=s1.trans (af.new (o:=.lst []) nka)
    have nka0:H ka=none:=s1.free nka
    have sL:=af.new (o:=.lst []) nka
    refine⟨_,rfl,p,rfl,⟨_,ar.of (s2 _ _ e1)⟩,?_⟩
    refine fC (K:=K) (a:=p) (xs:=xs) (fun i σ H'=>∃ (us:List V) (qs:List Piece) (u1 u2 u3 u4:Option V),σ = [some (.ref p),some (.ref lt),some (.ref ka),u1,u2,u3,u4]/\H' ka=some (.lst us)/\us.length=i/\aD H' us (qs.map bP)/\qs.length=i/\(∀ (k:Nat) (p:Piece),k < i->ps[k]? = some p->∃ f:Str->Bool,qs[k]? = some (aU f p.1,p.2)/\∀ x,f x=true ↔ eC ps p.2 x)/\af H H'/\(∀ c o,H1 c=some o->c ≠ ka->H' c=some o)) ?_ ?_ ?_ ?_
    · exact⟨[],[],none,none,none,none,rfl,aa,rfl,.nil,rfl,(fun k p h=>absurd h (Nat.not_lt_zero _)),s2,fun c o h _=>sL _ _ h⟩
    · rintro i σ H2 hi ⟨us,qs,u1,u2,u3,u4,rfl,h1,h2,h3,h4,h5,h6,h7⟩
      exact ar.of (h6 _ _ e1)
    · rintro i x σ H2 hx ⟨us,qs,u1,u2,u3,u4,rfl,h1,h2,h3,h4,h5,h6,h7⟩
      have hi:i < ps.length:=by
        have:=(List.getElem?_eq_some_iff.mp hx).1
        omega
      have hpp:ps[i]? = some ps[i]:=by simp [hi]
      have hdl:=(ok.cS _ (List.mem_of_getElem? hpp)).1
      generalize ps[i] = pe at hpp hdl
      obtain⟨ds,e⟩:=pe
      have hdl:ds.length<=mm:=hdl
      obtain⟨p',xs',pc,da,ea,vs,hpv,e1',el,hx',e2,e3,r3,e4⟩:=eX hp hpp
      cases hpv
      rw [e1] at e1'
      cases e1'
      rw [hx] at hx'
      cases hx'
      refine⟨pc,_,rfl,ar.of (h6 _ _ e2),rfl,_,_,rfl,_,_,rfl,rfl,?_⟩
      refine⟨_,rfl,ea,e,rfl,h6 _ _ e4,fun na H3 hna nna s3=>?_⟩
      refine⟨_,rfl,ea,e,rfl,s3 _ _ (h6 _ _ e4),fun wt H4 hwt s4=>?_⟩
      refine⟨wt,rfl,⟨_,ar.of hwt⟩,?_⟩
      have s24:=s3.trans s4
      refine fC (K:=K) (a:=wt) (xs:=vN (aV e)) (fun j σ H'=>∃ (ns:List Str) (u4:Option V),σ = [some (.ref p),some (.ref lt),some (.ref ka),some (.ref da),some (.ref ea),some (.ref na),u4]/\H' na=some (.lst (ns.map V.str))/\ns.length<=1+64 * j/\(∀ x,x ∈ ns ↔ x ∈ bf e\/∃ k ∈ (aV e).take j,bG ps k x)/\H' wt=some (.tup (vN (aV e)))/\af H2 H') ?_ ?_ ?_ ?_
      · refine⟨bf e,_,rfl,s4 _ _ hna,?_,(by simp),hwt,s24⟩
        cases e <;> simp [bf]
      · rintro j σ H5 hj ⟨ns,u4,rfl,g1,g2,g3,g4,g5⟩
        exact ar.of g4
      · rintro j y σ H5 hy ⟨ns,u4,rfl,g1,g2,g3,g4,g5⟩
        rw [List.getElem?_map] at hy
        cases hwj:(aV e)[j]? with
        | none=>rw [hwj] at hy;cases hy
        | some k =>
          rw [hwj] at hy
          cases hy
          have hk:k < L.length:=by rw [hLl];exact iA hin hpp k (List.mem_of_getElem? hwj)
          have hLk:L[k]? = some L[k]:=by simp [hk]
          generalize L[k] = ys at hLk
          obtain⟨q1,q2,q3⟩:=hLs k ys hLk
          have hyl:ys.length<=pool.length:=fH q2 fun x hx=>dz ok ((q3 x).mp hx)
          obtain⟨v,hv,rv⟩:=rL.get (i:=k) (d:=.tuple (ys.map PyData.str)) (by rw [List.getElem?_map,hLk];rfl)
          obtain⟨tk,tys,rfl,htk,rts⟩:=aP.cm rv
          rw [jg rts] at htk
          have hlt5:=g5 _ _ (h7 lt _ hlt (aK hlt nka))
          have htk5:=g5 _ _ (h7 tk _ htk (aK htk nka))
          have hnw:na ≠ wt:=bS g1 g4 (by intro z;cases z)
          have hj2:j < 2:=by
            have h9:=(List.getElem?_eq_some_iff.mp hwj).1
            have h8:=fR e
            omega
          refine⟨_,rfl,.inl ⟨rfl,_,av.of g1⟩,_,rfl,_,rfl,lt,_,_,_,rfl,rfl,ar.of hlt5,bh hv,na,tk,_,_,rfl,rfl,g1,ar.of htk5,Nat.le_of_lt (aw (by rw [List.length_map,List.length_map];omega)),?_⟩
          refine⟨ns++ys,_,rfl,(by rw [aa,List.map_append]),(by rw [List.length_append];omega),fun x=>?_,(by rw [ae hnw.symm];exact g4),g5.put nna⟩
          rw [List.mem_append,g3 x,q3 x,List.take_add_one,hwj]
          constructor
          · rintro ((h | ⟨k',h,h'⟩) | h)
            · exact .inl h
            · exact .inr ⟨k',List.mem_append_left _ h,h'⟩
            · exact .inr ⟨k,List.mem_append_right _ (List.mem_singleton.mpr rfl),h⟩
          · rintro (h | ⟨k',h,h'⟩)
            · exact .inl (.inl h)
            · rcases List.mem_append.mp h with h | h
              · exact .inl (.inr ⟨k',h,h'⟩)
              · have:=List.mem_singleton.mp h
                subst this
                exact .inr h'
      · rintro σ H5 ⟨ns,u4,rfl,g1,g2,g3,g4,g5⟩
        rw [List.length_map,List.take_of_length_le (Nat.le_refl _)] at g3
        have hwl2:=fR e
        rw [List.length_map] at g2
        have s05:=h6.trans g5
        have hka5:=g5 _ _ h1
        refine⟨_,rfl,.inl ⟨rfl,_,av.of hka5⟩,_,rfl,_,rfl,da,na,vs,ds,ns,rfl,s05 _ _ e3,r3.same s05 (aO ds),by omega,g1,by omega,fun t us2 H6 ht rt s6=>?_⟩
        refine⟨_,rfl,ln2,fun pt npt=>?_⟩
        have s7:=af.new (o:=.tup [.ref t,.ref ea]) npt
        have s67:=s6.trans s7
        have hka7:=s67 _ _ hka5
        have hpt:(upd H6 pt (.tup [.ref t,.ref ea])) pt=some (.tup [.ref t,.ref ea]):=aa
        have hd7:aP (upd H6 pt (.tup [.ref t,.ref ea])) (.ref pt) (bP (aU (fun x=>decide (x ∈ ns)) ds,e)) :=
          .tup hpt (.cons (.tup (s7 _ _ ht) (rt.same s7 (aO _))) (.cons (qH (s67 _ _ (s05 _ _ e4))) .nil))
        have r7:=((h3.same g5 (aB qs)).same s67 (aB qs)).app hd7
        generalize (upd H6 pt (.tup [.ref t,.ref ea]))=H7 at s7 s67 hka7 hpt hd7 r7
        refine⟨ka,_,_,rfl,rfl,hka7,aw (by omega),?_⟩
        refine⟨us ++ [.ref pt],qs ++ [(aU (fun x=>decide (x ∈ ns)) ds,e)],_,_,_,_,rfl,aa,(by simp [h2]),?_,(by simp [h4]),fun k pk hk hpk=>?_,(s05.trans s67).put nka0,fun c o hc hne=>?_⟩
        · rw [List.map_append]
          refine r7.put hka7 ?_
          have:=aB (qs ++ [(aU (fun x=>decide (x ∈ ns)) ds,e)])
          rw [List.map_append] at this
          exact this
        · by_cases hki:k=i
          · subst hki
            rw [hpp] at hpk
            cases hpk
            refine⟨fun x=>decide (x ∈ ns),?_,fun x=>?_⟩
            · rw [List.getElem?_append_right (by omega),h4];simp
            · rw [decide_eq_true_eq,g3 x];rfl
          · obtain⟨f,f1,f2⟩:=h5 k pk (by omega) hpk
            exact⟨f,by rw [List.getElem?_append_left (by omega)];exact f1,f2⟩
        · rw [ae hne]
          exact s67 _ _ (g5 _ _ (h7 c o hc hne))
    · rintro σ H2 ⟨us,qs,u1,u2,u3,u4,rfl,h1,h2,h3,h4,h5,h6,h7⟩
      rw [hxl] at h4 h5
      refine⟨_,rfl,ka,_,rfl,.inl ⟨av.of h1,fun t nt=>?_⟩⟩
      refine q _ qs _ (.tup aa (h3.same (af.new nt) ?_)) h4 (fun k p hk=>h5 k p (List.getElem?_eq_some_iff.mp hk).1 hk) (h6.trans (af.new nt))
      exact aB qs
theorem pU {f:Addr} {fd:FuncData} (F:dg K "_law_bag" "_law_bag" fe f fd) (Z:Bl mg)  : bI P w K mg base cQ 1 f fd ["script", "k"] (pC K):=by
 refine F.ok (k:=0) iN (fun vs H Q E h=>?_) (fun cdv A outer s H vs Q E hr h=>?_)
 ·obtain⟨a,ns,k,rfl,_⟩:=h
  rfl
 ·obtain⟨a,ns,k,rfl,hS,hk,q⟩:=h
  refine⟨_,(ah (aF (i:=2) iN.nd rfl (Or.inl rfl) ai)
   (ah (bL (aL o4 (pv 1) (bU bO rfl Z.len fm (U (pv 0) ab)) (bc _))
   (ao (aF (i:=2) iN.nd rfl (Or.inl rfl) (aN fi (aJ bt (pv 0) (pv 1) (fun _ _=>rfl)) (aN tQ (aN j7 ai ai) (aN j7 ai ai)))))
   bp)
   (ah (bL (aL o4 (pv 2) (aN j7 ai ai) (bc _))
   (ao (aS (bE (U ai (U (aN df ai (aN fi (aN df (aN gy (pv 2) ai) (aN gy ai (pv 1))) ai)) ab)))))
   bp)
   (ao (aS (bE (U (pv 2) (U (aN df ai (aN fi (aN df (pv 2) (pv 1)) ai)) ab)))))))),?_⟩
  refine⟨_,rfl,_,rfl,_,_,rfl,.inl hS,_,_,rfl,rfl,_,rfl,?_⟩
  refine fj (fun hc=>?_) (fun hc=>?_)
  ·have hl:k < ((ns.map V.int).length:Nat):=of_decide_eq_true hc
   obtain⟨v,hv,hm⟩:=pB hk hl
   obtain⟨z,_,rfl⟩:=List.mem_map.mp hm
   refine⟨_,rfl,_,rfl,_,_,_,_,rfl,rfl,hS,hv,10,60,rfl,rfl,⟨by decide,by decide,by decide⟩,10,60,rfl,rfl,⟨by decide,by decide,by decide⟩,_,_,rfl,rfl,(by unfold IntMulOk;decide +kernel),_,_,rfl,rfl,(show (0:Int) < 10 ^ (60:Int).toNat * 10 ^ (60:Int).toNat by decide +kernel),?_⟩
   refine⟨_,rfl,10,18,rfl,rfl,⟨by decide,by decide,by decide⟩,_,_,rfl,rfl,_,rfl,?_⟩
   refine fj (fun hd=>?_) (fun hd=>?_)
   ·refine⟨_,rfl,_,_,rfl,rfl,.inr ⟨by decide,by decide⟩,_,rfl,_,_,rfl,rfl,.inl ⟨by decide,by decide⟩,_,_,rfl,rfl,_,_,rfl,rfl,(show (0:Int) < 2147483646 by decide),_,_,rfl,rfl,ln2,fun p hp=>?_⟩
    exact q p _ hp ⟨_,_,aa,by omega,by omega⟩ (af.new hp)
   ·refine⟨_,rfl,_,rfl,_,rfl,_,_,rfl,rfl,_,_,rfl,rfl,(show (0:Int) < 2147483646 by decide),_,_,rfl,rfl,ln2,fun p hp=>?_⟩
    exact q p _ hp ⟨_,_,aa,by omega,by omega⟩ (af.new hp)
  ·refine⟨_,rfl,10,18,rfl,rfl,⟨by decide,by decide,by decide⟩,_,_,rfl,rfl,_,rfl,?_⟩
   refine fj (fun hd=>?_) (fun hd=>?_)
   ·refine⟨_,rfl,_,_,rfl,rfl,.inr ⟨by decide,by decide⟩,_,rfl,_,_,rfl,rfl,.inl ⟨by decide,by decide⟩,_,_,rfl,rfl,_,_,rfl,rfl,(show (0:Int) < 2147483646 by decide),_,_,rfl,rfl,ln2,fun p hp=>?_⟩
    exact q p _ hp ⟨_,_,aa,by omega,by omega⟩ (af.new hp)
   ·refine⟨_,rfl,_,rfl,_,rfl,_,_,rfl,rfl,_,_,rfl,rfl,(show (0:Int) < 2147483646 by decide),_,_,rfl,rfl,ln2,fun p hp=>?_⟩
    exact q p _ hp ⟨_,_,aa,by omega,by omega⟩ (af.new hp)
theorem nT {f:Addr} {fd:FuncData} (F:dg K "_law_take" "_law_take" eG f fd) (Z:Bl mg)  : bI P w K mg base cQ 1 f fd ["bag", "many"] eQ:=by
 refine F.ok (k:=0) jN (fun vs H Q E h=>?_) (fun cdv A outer s H vs Q E hr h=>?_)
 ·obtain⟨b,m,rfl,_⟩:=h
  rfl
 ·obtain⟨b,m,rfl,⟨x,y,hb,h0,h1⟩,hm,q⟩:=h
  refine⟨_,(ah (bL (aL we (aJ bt (pv 0) ai (fun _ _=>rfl)) ai (bc _))
   (ah (aF (i:=2) jN.nd rfl (Or.inl rfl) (aN fi (aJ bt (pv 0) ai (fun _ _=>rfl)) (pv 1)))
   (ah (gu (aN rK (aJ bt (pv 0) ai (fun _ _=>rfl)) (pv 1)) (j5 (pv 0) ai set_list))
   (ao (aS (pv 2)))))
   bp)
   (ah (gu (aN fi (aN gy (aJ bt (pv 0) ai (fun _ _=>rfl)) ai) ai) (j5 (pv 0) ai set_list))
   (ao (aS (aN fi (aN kN (aN fi (aN gy (aJ bt (pv 0) ai (fun _ _=>rfl)) (aJ bt (pv 0) ai (fun _ _=>rfl))) ai) ai) (pv 1)))))),?_⟩
  refine⟨_,rfl,b,_,0,_,rfl,rfl,av.of hb,di,_,_,rfl,rfl,_,rfl,?_⟩
  refine fj (fun hc=>?_) (fun hc=>?_)
  ·refine⟨_,rfl,b,_,0,_,rfl,rfl,av.of hb,di,_,rfl,_,_,rfl,rfl,hm.1,?_⟩
   refine⟨_,rfl,b,_,0,_,rfl,rfl,av.of hb,di,_,rfl,_,_,rfl,rfl,hm,_,rfl,b,_,0,0,rfl,rfl,hb,rfl,?_⟩
   refine⟨_,rfl,?_⟩
   exact q _ _ (Int.emod_nonneg _ (by have:=hm.1;omega)) (Int.emod_lt_of_pos _ hm.1) ⟨_,_,aa,h0,h1⟩ Fix.sY
  ·refine⟨_,rfl,b,_,1,_,rfl,rfl,av.of hb,dE,_,_,rfl,rfl,.inr ⟨by decide,by decide⟩,_,_,rfl,rfl,(show (0:Int) < 2147483647 by decide),_,rfl,b,_,1,1,rfl,rfl,hb,rfl,?_⟩
   refine⟨_,rfl,b,_,1,_,rfl,rfl,av.of aa,dE,_,rfl,b,_,1,_,rfl,rfl,av.of aa,dE,_,_,rfl,rfl,.inl ⟨by omega,by omega⟩,_,_,rfl,rfl,(show (0:Int) < 2147483629 by decide),_,_,rfl,rfl,⟨by decide,by decide⟩,_,rfl,_,_,rfl,rfl,hm.1,?_⟩
   exact q _ _ (Int.emod_nonneg _ (by have:=hm.1;omega)) (Int.emod_lt_of_pos _ hm.1) ⟨_,_,aa,by omega,by omega⟩ Fix.sY
theorem nF {f:Addr} {fd:FuncData} (F:dg K "_law_names" "_law_names" dN f fd) (Z:Bl mg) (O_law_take:Own P w K mg base "_law_take" 1 ["bag", "many"] eQ):bI P w K mg base cQ 2 f fd ["bag"] kR:=by
  refine F.ok (k:=1) cg (fun vs H Q E h=>?_) (fun cdv A outer s H vs Q E hr h=>?_)
  · obtain⟨b,rfl,_⟩:=h
    rfl
  · obtain⟨b,rfl,hB,q⟩:=h
    refine⟨_,(ah (aF (i:=1) cg.nd rfl (Or.inr rfl) aM)
      (ah (aF (i:=2) cg.nd rfl (Or.inl rfl) (aN df ai (ay O_law_take (hr.mono (by decide)) rfl (U (pv 0) (U ai ab)))))
      (ah (gG (i:=3) ["k"] ["letters", "bag"] [1,0] rfl cg.nd rfl rfl rfl (cO rfl Z.range (U (aN df ai (ay O_law_take (hr.mono (by decide)) rfl (U (pv 0) (U ai ab)))) ab)) rfl (by decide +kernel) (by decide +kernel) (by decide +kernel) ⟨⟨rfl,.inl rfl,rfl⟩,⟨⟨rfl,.inl rfl,rfl⟩,True.intro⟩⟩ (fun _ _ _ _=>(aC (i:=0) (show ((["k"]:List Str)++(["letters", "bag"]:List Str)).Nodup by decide +kernel) rfl (Or.inl rfl) (hf:=Or.inr rfl))) (fun _ _ _ _=>cE) (fun _ _ _ _=>(aJ kb (pv 1) (ay O_law_take (hr.mono (by decide)) rfl (U (pv 2) (U ai ab))) (fun _ _=>rfl))))
      (ah (aF (i:=4) cg.nd rfl (Or.inl rfl) (ay O_law_take (hr.mono (by decide)) rfl (U (pv 0) (U (bU bO rfl Z.len fm (U (pv 3) ab)) ab))))
      (ah (aF (i:=5) cg.nd rfl (Or.inl rfl) (bE ab))
      (ah (cJ PassesOwn.never rfl (cO rfl Z.range (U (pv 2) ab)) (aC (i:=6) cg.nd rfl (Or.inl rfl))
      (ah (aF (i:=7) cg.nd rfl (Or.inl rfl) (bF my rfl Z.list tR (U (pv 3) ab)))
      (ah (gu (aJ kb (pv 1) (ay O_law_take (hr.mono (by decide)) rfl (U (pv 0) (U ai ab))) (fun _ _=>rfl)) (j5 (pv 7) (pv 4) set_list))
      (ao (bL (aL gD (cW PySem.F.plainAttrs_str PySem.F.slot_str_join PySem.F.type_str_join oB aM (U (pv 7) ab)) (pv 5) (by with_unfolding_all rfl))
      (ao (bJ (cW PySem.F.plainAttrs_list PySem.F.slot_list_append PySem.F.type_list_append bK (pv 5) (U (cW PySem.F.plainAttrs_str PySem.F.slot_str_join PySem.F.type_str_join oB aM (U (pv 7) ab)) ab))))
      bp)))))
      (ao (aS (pv 5))))))))),?_⟩
    refine⟨_,rfl,b,4,rfl,hB,⟨by decide,by decide +kernel⟩,fun m H1 m0 m1 B1 X1=>⟨_,_,rfl,rfl,?_⟩⟩
    refine⟨_,rfl,b,8,rfl,B1,⟨by decide,by decide +kernel⟩,fun k H2 k0 k1 B2 X2=>⟨_,_,rfl,rfl,_,rfl,(by omega),(by omega),fun acc na=>?_⟩⟩
    refine iu (lo:=0) (fun i ys τ H'=>∃ (v:Option V) (cs:List Nat),τ = [v,some (.str ia),some (.ref b)]/\ys=(cs.map one).map V.str/\cs.length=i/\(∀ c ∈ cs,97<=c/\c<=122)/\H' acc=some (.lst ys)/\bM H' b/\Fix b H2 H') ?_ ?_ ?_ ?_
    · exact⟨none,[],rfl,rfl,rfl,(fun _ h=>nomatch h),aa,B2.new na,Fix.new na⟩
    · rintro i ys τ H' hi ⟨v,cs,rfl,rfl,hl,_,ha,_⟩
      refine⟨ha,?_⟩
      rw [List.length_map,List.length_map]
      exact bZ (by omega)
    · rintro i ys τ H' hi ⟨v,cs,rfl,rfl,hl,hc,ha,B',X'⟩
      refine cc ?_
      refine pD ?_
      refine eW ?_
      refine⟨_,rfl,_,rfl,b,26,rfl,B',⟨by decide,by decide +kernel⟩,fun r H3 r0 r1 B3 X3=>?_⟩
      obtain⟨c,hat,c0,c1⟩:=kj r0 r1
      have hab:acc ≠ b:=B2.dG na
      have ha3:=X3 acc _ ha hab
      refine⟨ia,r,c,rfl,rfl,jn,hat,ha3,_,cs ++ [c],rfl,?_,?_,?_,aa,?_,?_⟩
      · rw [List.map_append,List.map_append];rfl
      · rw [List.length_append,hl];rfl
      · intro d hd
        rcases List.mem_append.mp hd with hd | hd
        · exact hc d hd
        · rw [List.mem_singleton.mp hd];exact⟨c0,c1⟩
      · obtain⟨x,y,e,z⟩:=B3
        exact⟨x,y,by rw [ae hab.symm];exact e,z⟩
      · intro d o hd nd
        rw [ae (aK hd na)]
        exact (X'.trans X3) d o hd nd
    · rintro ys τ H3 ⟨v,cs,rfl,rfl,hl,hc,ha,B3,X3⟩
      have hab:acc ≠ b:=B2.dG na
      have hl1:1<=cs.length:=by omega
      have hl8:cs.length<=8:=by omega
      have F3:Fix b H H3:=(X1.trans X2).trans X3
      have el:(((cs.map one).map V.str).length:Int)=cs.length:=by simp
      refine⟨_,rfl,_,rfl,acc,_,rfl,.inl (av.of ha),b,_,rfl,B3,⟨by omega,fP (by omega) (by omega)⟩,fun at_ H4 t0 t1 B4 X4=>?_⟩
      refine⟨(by show 0<=sizeLine;decide),fun nl nn=>?_⟩
      have hnb:nl ≠ b:=B4.dG nn
      have ha4:H4 acc=some (.lst ((cs.map one).map V.str)):=X4 acc _ ha hab
      have hna:nl ≠ acc:=fun z=>by rw [z,ha4] at nn;cases nn
      have F4:Fix b H H4:=F3.trans X4
      refine⟨_,rfl,_,rfl,(by omega),(by omega),fN (lo:=0) (fun i σ H'=>∃ (u1 u2:Option V) (xs:List Str),σ = [some (.ref b),some (.str ia),some (.int (1+m)),some (.ref acc),some (.int at_),some (.ref nl),u1,u2] /\
        H' nl=some (.lst (xs.map V.str))/\xs.length<=i/\(0 < i->xs ≠ [])/\(∀ x ∈ xs,bT x)/\H' acc=some (.lst ((cs.map one).map V.str))/\bM H' b/\Fix b H H') ?_ ?_ ?_⟩
      · exact⟨_,_,[],rfl,aa,Nat.le_refl _,(fun h=>absurd h (Nat.lt_irrefl _)),(fun _ h=>nomatch h),(by rw [ae hna.symm];exact ha4),B4.new nn,F4.trans (Fix.new nn)⟩
      · rintro i σ H' hi ⟨u1,u2,xs,rfl,hn,hx,hx0,aA,ha',B',X'⟩
        refine⟨_,rfl,acc,_,rfl,.inl (av.of ha'),fun nm mm=>?_⟩
        have nmb:nm ≠ b:=B'.dG mm
        have nma:nm ≠ acc:=fun z=>by rw [z,ha'] at mm;cases mm
        have nmn:nm ≠ nl:=fun z=>by rw [z,hn] at mm;cases mm
        refine⟨_,rfl,_,rfl,b,26,rfl,B'.new mm,⟨by decide,by decide +kernel⟩,fun r H5 r0 r1 B5 X5=>?_⟩
        obtain⟨c,hat,c0,c1⟩:=kj r0 r1
        have h5:H5 nm=some (.lst ((cs.map one).map V.str)):=X5 nm _ aa nmb
        have hn5:H5 nl=some (.lst (xs.map V.str)):=X5 nl _ (by rw [ae nmn.symm];exact hn) hnb
        have ha5:H5 acc=some (.lst ((cs.map one).map V.str)):=X5 acc _ (by rw [ae nma.symm];exact ha') hab
        obtain⟨j,rfl⟩:∃ j:Nat,at_=j:=⟨at_.toNat,by omega⟩
        have hj:j < cs.length:=by omega
        have hix:i4 ((cs.map one).map V.str).length (j:Int)=some j:=by
          unfold i4
          rw [if_pos (by omega),if_pos (by rw [el];omega)]
          simp
        refine⟨ia,r,c,rfl,rfl,jn,hat,_,rfl,_,rfl,nm,_,(j:Int),j,rfl,rfl,h5,hix,?_⟩
        have eset:((cs.map one).map V.str).set j (.str ⟨#[c]⟩)=((cs.set j c).map one).map V.str:=by
          rw [List.map_set,List.map_set];rfl
        rw [eset]
        have hc':∀ d ∈ cs.set j c,97<=d/\d<=122:=fun d hd=>by
          rcases List.mem_or_eq_of_mem_set hd with hd | hd
          · exact hc d hd
          · rw [hd];exact⟨c0,c1⟩
        have hjl:(((cs.set j c).map one).map (·.length)).sum+((cs.set j c).map one).length * (Str.ofString "").length<=16777216:=by
          have e1:(Str.ofString "").length=0:=by decide +kernel
          have e2:∀ l:List Nat,((l.map one).map (·.length)).sum=l.length:=by
            intro l
            induction l with
            | nil=>rfl
            | cons a l ih=>simp only [List.map_cons,List.sum_cons,ih,List.length_cons];show 1+l.length=_;omega
          rw [e1,e2,List.length_set]
          omega
        have nk:bT (Txt.join (Str.ofString "") ((cs.set j c).map one)):=by
          rw [rM]
          have ej:=L2.join_ones (cs.set j c)
          have eL:(Txt.join Str.empty ((cs.set j c).map one)).length=(cs.set j c).length:=by
            have:=congrArg List.length ej
            rw [Array.length_toList] at this
            exact this
          refine⟨?_,?_,?_⟩
          · rw [eL,List.length_set];exact hl1
          · rw [eL,List.length_set];exact hl8
          · rw [ej];exact hc'
        have n6:upd H5 nm (.lst (((cs.set j c).map one).map V.str)) nl=some (.lst (xs.map V.str)):=by rw [ae nmn.symm];exact hn5
        have a6:upd H5 nm (.lst (((cs.set j c).map one).map V.str)) acc=some (.lst ((cs.map one).map V.str)):=by rw [ae nma.symm];exact ha5
        have B6:bM (upd H5 nm (.lst (((cs.set j c).map one).map V.str))) b:=by
          obtain⟨x,y,e,z⟩:=B5
          exact⟨x,y,by rw [ae nmb.symm];exact e,z⟩
        have F6:Fix b H (upd H5 nm (.lst (((cs.set j c).map one).map V.str))):=fun d o hd nd=>by
          have h1:=X' d o hd nd
          have nd':d ≠ nm:=fun z=>by rw [z,mm] at h1;cases h1
          rw [ae nd']
          exact X5 d o (by rw [ae nd'];exact h1) nd
        have flat:(xs.map V.str).all fG=true:=by
          rw [List.all_eq_true]
          intro v hv
          obtain⟨x,_,rfl⟩:=List.mem_map.mp hv
          rfl
        refine⟨rfl,_,rfl,_,nm,_,rfl,rfl,av.of aa,hjl,_,rfl,nl,_,rfl,.inl (av.of n6),rfl,flat,_,rfl,?_⟩
        refine fj (fun hin=>?_) (fun hin=>?_)
        · refine⟨_,rfl,.inl ⟨rfl,_,av.of n6⟩,rfl,_,rfl,_,nm,_,rfl,rfl,av.of aa,hjl,nl,_,_,rfl,rfl,n6,?_,?_⟩
          · rw [List.length_map]
            have:i < 4:=by omega
            exact bZ (by omega)
          · refine⟨_,_,xs ++ [_],rfl,(by rw [aa,List.map_append];rfl),(by rw [List.length_append];exact Nat.succ_le_succ hx),(fun _=>by simp),?_,(by rw [ae hna.symm];exact a6),?_,?_⟩
            · intro x hxm
              rcases List.mem_append.mp hxm with hxm | hxm
              · exact aA x hxm
              · rw [List.mem_singleton.mp hxm];exact nk
            · obtain⟨x,y,e,z⟩:=B6
              exact⟨x,y,by rw [ae hnb.symm];exact e,z⟩
            · intro d o hd nd
              have h1:=F6 d o hd nd
              have nd':d ≠ nl:=fun z=>by
                have h2:=F4 d o hd nd
                rw [z,nn] at h2
                cases h2
              rw [ae nd']
              exact h1
        · have hx':xs ≠ []:=by
            intro e
            subst e
            exact hin rfl
          exact⟨_,_,xs,rfl,n6,Nat.le_succ_of_le hx,fun _=>hx',aA,a6,B6,F6⟩
      · rintro σ H' ⟨u1,u2,xs,rfl,hn,hx,hx0,aA,ha',B',X'⟩
        refine⟨_,rfl,?_⟩
        have hm:(1+m).toNat<=4:=by omega
        have hm0:0 < (1+m).toNat:=by omega
        exact q nl xs H' ⟨hn,hnb,hx0 hm0,by omega,aA⟩ (Nat.le_trans hx hm) B' X'
theorem lV {f:Addr} {fd:FuncData} (F:dg K "_law_number" "_law_number" dr f fd) (Z:Bl mg) (O_law_take:Own P w K mg base "_law_take" 1 ["bag", "many"] eQ):bI P w K mg base cQ 2 f fd ["bag"] ix:=by
  refine F.ok (k:=1) lU (fun vs H Q E h=>?_) (fun cdv A outer s H vs Q E hr h=>?_)
  · obtain⟨b,rfl,_⟩:=h
    rfl
  · obtain⟨b,rfl,hB,q⟩:=h
    refine⟨_,(ah (bL (aL cP (ay O_law_take (hr.mono (by decide)) rfl (U (pv 0) (U ai ab))) ai (bc _))
      (ao (aS (aN gy (aN iY (aN iY (aN j7 ai ai) ai) (ay O_law_take (hr.mono (by decide)) rfl (U (pv 0) (U ai ab)))) (aN iY ai (aN gy ai (ay O_law_take (hr.mono (by decide)) rfl (U (pv 0) (U ai ab))))))))
      bp)
      (ao (aS (aN iY (ay O_law_take (hr.mono (by decide)) rfl (U (pv 0) (U ai ab))) ai)))),?_⟩
    refine⟨_,rfl,b,8,rfl,hB,⟨by decide,by decide +kernel⟩,fun r H1 r0 r1 B1 X1=>⟨rfl,_,rfl,?_⟩⟩
    refine fj (fun hc=>?_) (fun hc=>?_)
    · refine⟨10,40,rfl,rfl,⟨by decide,by decide,by decide⟩,_,_,rfl,rfl,?_⟩
      refine⟨_,rfl,b,3,rfl,B1,⟨by decide,by decide +kernel⟩,fun r2 H2 r20 r21 B2 X2=>⟨_,_,rfl,rfl,?_⟩⟩
      refine⟨_,rfl,b,2,rfl,B2,⟨by decide,by decide +kernel⟩,fun r3 H3 r30 r31 B3 X3=>?_⟩
      refine⟨_,_,rfl,rfl,.inl ⟨by decide,by decide⟩,_,_,rfl,rfl,_,_,rfl,rfl,.inr ⟨by omega,by omega⟩,?_⟩
      refine q _ H3 ?_ B3 ((X1.trans X2).trans X3)
      have e:(10:Int) ^ (40:Int).toNat=10 ^ 40:=by decide +kernel
      rw [e]
      obtain rfl | rfl:r3=0\/r3=1:=by omega
      · rw [show (1:Int) - 2 * 0=1 by decide,Int.mul_one];unfold iw;omega
      · rw [show (1:Int) - 2 * 1 = -1 by decide,Int.mul_neg,Int.mul_one];unfold iw;omega
    · refine⟨_,rfl,b,8,rfl,B1,⟨by decide,by decide +kernel⟩,fun r2 H2 r20 r21 B2 X2=>⟨_,_,rfl,rfl,?_⟩⟩
      exact q _ H2 (by unfold iw;omega) B2 (X1.trans X2)
theorem nU {f:Addr} {fd:FuncData} (F:dg K "_law_deed" "_law_deed" eI f fd) (Z:Bl mg) (O_law_take:Own P w K mg base "_law_take" 1 ["bag", "many"] eQ) (O_law_number:Own P w K mg base "_law_number" 2 ["bag"] ix):bI P w K mg base cQ 3 f fd ["bag", "names"] kh:=by
  refine F.ok (k:=2) g9 (fun vs H Q E h=>?_) (fun cdv A outer s H vs Q E hr h=>?_)
  · obtain⟨b,l,xs,rfl,_⟩:=h
    rfl
  · obtain⟨b,l,xs,rfl,hB,hN,q⟩:=h
    refine⟨_,(ah (aF (i:=2) g9.nd rfl (Or.inl rfl) (aJ bt (bE (U aM (U aM (U aM (U aM (U aM (U aM (U aM ab)))))))) (ay O_law_take (hr.mono (by decide)) rfl (U (pv 0) (U ai ab))) (fun _ _=>rfl)))
      (ah (aF (i:=3) g9.nd rfl (Or.inl rfl) (aJ bt (pv 1) (ay O_law_take (hr.mono (by decide)) rfl (U (pv 0) (U (bU bO rfl Z.len fm (U (pv 1) ab)) ab))) (fun _ _=>rfl)))
      (ah (bL (aL cP (pv 2) aM (bc _))
      (ao (aS (bY (U (pv 2) (U (pv 3) (U (aJ bt (pv 1) (ay O_law_take (hr.mono (by decide)) rfl (U (pv 0) (U (bU bO rfl Z.len fm (U (pv 1) ab)) ab))) (fun _ _=>rfl)) ab))))))
      bp)
      (ah (bL (PW.pt (oY (aL cP (pv 2) aM (bc _)) (mi (aL cP (pv 2) aM (bc _)))))
      (ao (aS (bY (U (pv 2) (U (pv 3) (U (ay O_law_number (hr.mono (by decide)) rfl (U (pv 0) ab)) ab))))))
      bp)
      (ao (aS (bY (U (pv 2) (U (pv 3) ab))))))))),?_⟩
    refine⟨xS,fun l0 m0=>?_⟩
    refine⟨_,rfl,b,7,rfl,hB.new m0,⟨by decide,by decide +kernel⟩,fun r H1 r0 r1 B1 X1=>?_⟩
    have h0:H1 l0=some (.lst [.str "put",.str "copy",.str "add",.str "read",.str "tell",.str "tell",.str "add"]):=X1 l0 _ aa (hB.dG m0)
    have F1:Fix b H H1:=(Fix.new m0).trans X1
    have N1:=hN.fix F1
    have hw:∃ w:Str,(w = "put" \/ w = "copy" \/ w = "add" \/ w = "read" \/ w = "tell")/\d0 [V.str "put",.str "copy",.str "add",.str "read",.str "tell",.str "tell",.str "add"] r=some (V.str w):=by
      obtain rfl | rfl | rfl | rfl | rfl | rfl | rfl:r=0\/r=1\/r=2\/r=3\/r=4\/r=5\/r=6:=by omega
      · exact⟨_,.inl rfl,bh (j:=0) rfl⟩
      · exact⟨_,.inr (.inl rfl),bh (j:=1) rfl⟩
      · exact⟨_,.inr (.inr (.inl rfl)),bh (j:=2) rfl⟩
      · exact⟨_,.inr (.inr (.inr (.inl rfl))),bh (j:=3) rfl⟩
      · exact⟨_,.inr (.inr (.inr (.inr rfl))),bh (j:=4) rfl⟩
      · exact⟨_,.inr (.inr (.inr (.inr rfl))),bh (j:=5) rfl⟩
      · exact⟨_,.inr (.inr (.inl rfl)),bh (j:=6) rfl⟩
    obtain⟨w,hw,hat⟩:=hw
    refine⟨l0,_,r,_,rfl,rfl,av.of h0,hat,?_⟩
    obtain⟨p0,p1⟩:=N1.pos
    refine⟨_,rfl,_,rfl,_,rfl,l,_,rfl,.inl (av.of N1.at_),b,_,rfl,B1,⟨p0,fP p0 p1⟩,fun r2 H2 r20 r21 B2 X2=>?_⟩
    have N2:=N1.fix X2
    obtain⟨x,hx,hxm⟩:=jQ r20 r21
    refine⟨l,_,r2,_,rfl,rfl,av.of N2.at_,hx,?_⟩
    refine⟨_,rfl,rfl,_,rfl,?_⟩
    rcases hw with rfl | rfl | rfl | rfl | rfl
    ·
      rw [show decide (V.str "put" = V.str "copy")=false by decide +kernel]
      refine dh ⟨_,rfl,rfl,_,rfl,?_⟩
      rw [show decide (V.str "put" = V.str "put")=true by decide +kernel]
      refine eW (eW ⟨_,rfl,_,rfl,_,rfl,b,rfl,B2,fun n H3 nk B3 X3=>⟨gR,fun t mt=>?_⟩⟩)
      exact q _ (.put x n) _ (.tup aa (.cons (.str _) (.cons (.str _) (.cons (.int _) .nil)))) ⟨hxm,nk⟩ (B3.new mt) (((F1.trans X2).trans X3).trans (Fix.new mt))
    ·
      rw [show decide (V.str "copy" = V.str "copy")=true by decide +kernel]
      obtain⟨p0,p1⟩:=N2.pos
      refine eW ⟨_,rfl,_,rfl,_,rfl,_,rfl,_,rfl,l,_,rfl,.inl (av.of N2.at_),b,_,rfl,B2,⟨p0,fP p0 p1⟩,fun r3 H3 r30 r31 B3 X3=>?_⟩
      have N3:=N2.fix X3
      obtain⟨y,hy,hym⟩:=jQ r30 r31
      refine⟨l,_,r3,_,rfl,rfl,av.of N3.at_,hy,gR,fun t mt=>?_⟩
      exact q _ (.copy x y) _ (.tup aa (.cons (.str _) (.cons (.str _) (.cons (.str _) .nil)))) ⟨hxm,hym⟩ (B3.new mt) (((F1.trans X2).trans X3).trans (Fix.new mt))
    ·
      rw [show decide (V.str "add" = V.str "copy")=false by decide +kernel]
      refine dh ⟨_,rfl,rfl,_,rfl,?_⟩
      rw [show decide (V.str "add" = V.str "put")=false by decide +kernel]
      refine dh ⟨_,rfl,rfl,_,rfl,?_⟩
      rw [show decide (V.str "add" = V.str "add")=true by decide +kernel]
      refine eW ⟨_,rfl,_,rfl,_,rfl,b,rfl,B2,fun n H3 nk B3 X3=>⟨gR,fun t mt=>?_⟩⟩
      exact q _ (.add x n) _ (.tup aa (.cons (.str _) (.cons (.str _) (.cons (.int _) .nil)))) ⟨hxm,nk⟩ (B3.new mt) (((F1.trans X2).trans X3).trans (Fix.new mt))
    ·
      rw [show decide (V.str "read" = V.str "copy")=false by decide +kernel]
      refine dh ⟨_,rfl,rfl,_,rfl,?_⟩
      rw [show decide (V.str "read" = V.str "put")=false by decide +kernel]
      refine dh ⟨_,rfl,rfl,_,rfl,?_⟩
      rw [show decide (V.str "read" = V.str "add")=false by decide +kernel]
      refine dh ⟨_,rfl,_,rfl,ln2,fun t mt=>?_⟩
      exact q _ (.read x) _ (.tup aa (.cons (.str _) (.cons (.str _) .nil))) hxm (B2.new mt) ((F1.trans X2).trans (Fix.new mt))
    ·
      rw [show decide (V.str "tell" = V.str "copy")=false by decide +kernel]
      refine dh ⟨_,rfl,rfl,_,rfl,?_⟩
      rw [show decide (V.str "tell" = V.str "put")=false by decide +kernel]
      refine dh ⟨_,rfl,rfl,_,rfl,?_⟩
      rw [show decide (V.str "tell" = V.str "add")=false by decide +kernel]
      refine dh ⟨_,rfl,_,rfl,ln2,fun t mt=>?_⟩
      exact q _ (.tell x) _ (.tup aa (.cons (.str _) (.cons (.str _) .nil))) hxm (B2.new mt) ((F1.trans X2).trans (Fix.new mt))
theorem pV {f:Addr} {fd:FuncData} (F:dg K "_law_end" "_law_end" ff f fd) (Z:Bl mg) (O_law_take:Own P w K mg base "_law_take" 1 ["bag", "many"] eQ) (O_law_number:Own P w K mg base "_law_number" 2 ["bag"] ix):bI P w K mg base cQ 3 f fd ["bag", "names", "count"] ki:=by
  refine F.ok (k:=2) gd (fun vs H Q E h=>?_) (fun cdv A outer s H vs Q E hr h=>?_)
  · obtain⟨b,l,xs,c,rfl,_⟩:=h
    rfl
  · obtain⟨b,l,xs,c,rfl,hB,hN,c0,c1,q⟩:=h
    refine⟨_,(ah (aF (i:=3) gd.nd rfl (Or.inl rfl) (ay O_law_take (hr.mono (by decide)) rfl (U (pv 0) (U ai ab))))
      (ah (bL (aL cP (pv 3) ai (bc _))
      (ao (aS (bY (U aM ab))))
      bp)
      (ah (bL (aL o4 (pv 3) ai (bc _))
      (ao (aS (bY (U aM (U (ay O_law_take (hr.mono (by decide)) rfl (U (pv 0) (U (pv 2) ab))) ab)))))
      bp)
      (ah (aF (i:=4) gd.nd rfl (Or.inl rfl) (aJ bt (bE (U aM (U aM ab))) (aN kN (ay O_law_take (hr.mono (by decide)) rfl (U (pv 0) (U ai ab))) ai) (fun _ _=>rfl)))
      (ah (aF (i:=5) gd.nd rfl (Or.inl rfl) (aJ bt (pv 1) (ay O_law_take (hr.mono (by decide)) rfl (U (pv 0) (U (bU bO rfl Z.len fm (U (pv 1) ab)) ab))) (fun _ _=>rfl)))
      (ao (aS (bY (U (pv 4) (U (pv 5) (U (ay O_law_number (hr.mono (by decide)) rfl (U (pv 0) ab)) (U (ay O_law_take (hr.mono (by decide)) rfl (U (pv 0) (U (pv 2) ab))) (U (ay O_law_take (hr.mono (by decide)) rfl (U (pv 0) (U (pv 2) ab))) ab))))))))))))),?_⟩
    have ck:(0:Int) < (c:Int)/\(c:Int).natAbs.log2 < 9000:=⟨by omega,fP (by omega) (by omega)⟩
    refine⟨_,rfl,b,9,rfl,hB,⟨by decide,by decide +kernel⟩,fun r H1 r0 r1 B1 X1=>?_⟩
    refine⟨_,rfl,rfl,_,rfl,?_⟩
    refine fj (fun hc=>?_) (fun hc=>?_)
    · refine⟨sZ,fun t mt=>?_⟩
      exact q _ .stop _ (.tup aa (.cons (.str _) .nil)) True.intro (B1.new mt) (X1.trans (Fix.new mt))
    refine⟨_,rfl,_,_,rfl,rfl,_,rfl,?_⟩
    refine fj (fun hd=>?_) (fun hd=>?_)
    · refine⟨_,rfl,_,rfl,b,_,rfl,B1,ck,fun p H2 p0 p1 B2 X2=>⟨ln2,fun t mt=>?_⟩⟩
      obtain⟨k,rfl⟩:∃ k:Nat,p=k:=⟨p.toNat,by omega⟩
      exact q _ (.go k) _ (.tup aa (.cons (.str _) (.cons (.int _) .nil))) (show k < c by omega) (B2.new mt) ((X1.trans X2).trans (Fix.new mt))
    · refine⟨ln2,fun l0 m0=>?_⟩
      refine⟨_,rfl,b,3,rfl,B1.new m0,⟨by decide,by decide +kernel⟩,fun z H2 z0 z1 B2 X2=>⟨_,_,rfl,rfl,⟨by decide,by decide⟩,?_⟩⟩
      have h0:H2 l0=some (.lst [.str "less",.str "is"]):=X2 l0 _ aa (B1.dG m0)
      have hw:∃ w:Bool,d0 [V.str "less",V.str "is"] (z / 2)=some (V.str (wT w)):=by
        obtain h | h:z / 2=0\/z / 2=1:=by omega
        · rw [h];exact⟨true,di⟩
        · rw [h];exact⟨false,dE⟩
      obtain⟨w,hat⟩:=hw
      refine⟨l0,_,_,_,rfl,rfl,av.of h0,hat,?_⟩
      have F2:Fix b H H2:=(X1.trans (Fix.new m0)).trans X2
      have N2:=hN.fix F2
      obtain⟨p0,p1⟩:=N2.pos
      refine⟨_,rfl,_,rfl,_,rfl,l,_,rfl,.inl (av.of N2.at_),b,_,rfl,B2,⟨p0,fP p0 p1⟩,fun r3 H3 r30 r31 B3 X3=>?_⟩
      have N3:=N2.fix X3
      obtain⟨x,hx,hxm⟩:=jQ r30 r31
      refine⟨l,_,r3,_,rfl,rfl,av.of N3.at_,hx,?_⟩
      refine⟨_,rfl,_,rfl,_,rfl,b,rfl,B3,fun n H4 nk B4 X4=>?_⟩
      refine⟨_,rfl,_,rfl,b,_,rfl,B4,ck,fun p H5 p0 p1 B5 X5=>?_⟩
      refine⟨_,rfl,_,rfl,b,_,rfl,B5,ck,fun p' H6 p0' p1' B6 X6=>⟨xR,fun t mt=>?_⟩⟩
      obtain⟨k,rfl⟩:∃ k:Nat,p=k:=⟨p.toNat,by omega⟩
      obtain⟨k',rfl⟩:∃ k:Nat,p' = k:=⟨p'.toNat,by omega⟩
      exact q _ (.eS w x n k k') _ (.tup aa (.cons (.str _) (.cons (.str _) (.cons (.int _) (.cons (.int _) (.cons (.int _) .nil)))))) ⟨hxm,nk,by omega,by omega⟩ (B6.new mt) ((((F2.trans X3).trans X4).trans (X5.trans X6)).trans (Fix.new mt))
theorem nV {f:Addr} {fd:FuncData} (F:dg K "_law_plan" "_law_plan" eJ f fd) (Z:Bl mg) (O_law_take:Own P w K mg base "_law_take" 1 ["bag", "many"] eQ) (O_law_names:Own P w K mg base "_law_names" 2 ["bag"] kR) (O_law_deed:Own P w K mg base "_law_deed" 3 ["bag", "names"] kh) (O_law_end:Own P w K mg base "_law_end" 3 ["bag", "names", "count"] ki):bI P w K mg base cQ 4 f fd ["bag", "count", "most"] mI:=by
  refine F.ok (k:=3) dP (fun vs H Q E h=>?_) (fun cdv A outer s H vs Q E hr h=>?_)
  · obtain⟨b,c,m,rfl,_⟩:=h
    rfl
  · obtain⟨b,c,m,rfl,hB,c0,c1,hm,q⟩:=h
    refine⟨_,(ah (aF (i:=3) dP.nd rfl (Or.inr rfl) (ay O_law_names (hr.mono (by decide)) rfl (U (pv 0) ab)))
      (ah (aF (i:=4) dP.nd rfl (Or.inl rfl) (bE ab))
      (ah (cJ PassesOwn.never rfl (cO rfl Z.range (U (pv 1) ab)) (aC (i:=5) dP.nd rfl (Or.inl rfl))
      (ah (aF (i:=6) dP.nd rfl (Or.inl rfl) (ay O_law_take (hr.mono (by decide)) rfl (U (pv 0) (U (aN df (pv 2) ai) ab))))
      (ah (aF (i:=7) dP.nd rfl (Or.inl rfl) (ay O_law_end (hr.mono (by decide)) rfl (U (pv 0) (U (pv 3) (U (pv 1) ab)))))
      (ao (bJ (cW PySem.F.plainAttrs_list PySem.F.slot_list_append PySem.F.type_list_append bK (pv 4) (U (bY (U (bF bw rfl Z.tuple cK (U (cL ["j"] ["bag", "names"] [0,3] rfl (cO rfl Z.range (U (pv 6) ab)) rfl (by decide +kernel) (by decide +kernel) (by decide +kernel) ⟨⟨rfl,.inl rfl,rfl⟩,⟨⟨rfl,.inl rfl,rfl⟩,True.intro⟩⟩ (fun _ _ _ _=>(aC (i:=0) (show ((["j"]:List Str)++(["bag", "names"]:List Str)).Nodup by decide +kernel) rfl (Or.inl rfl) (hf:=Or.inr rfl))) (fun _ _ _ _=>cE) (fun _ _ _ _=>(ay O_law_deed (hr.mono (by decide)) rfl (U (pv 1) (U (pv 2) ab))))) ab)) (U (pv 7) ab))) ab)))))))
      (ao (aS (bF bw rfl Z.tuple cK (U (pv 4) ab))))))),?_⟩
    refine⟨_,rfl,b,rfl,hB,fun l xs H1 N1 x4 B1 X1=>?_⟩
    refine⟨(by show 0<=sizeLine;decide),fun pl pn=>?_⟩
    have hpb:pl ≠ b:=B1.dG pn
    refine⟨_,rfl,_,rfl,(by omega),(by omega),fN (lo:=0) (fun i σ H'=>∃ (u1 u2 u3:Option V) (ps:List Piece) (vs:List V),σ = [some (.ref b),some (.int c),some (.int m),some (.ref l),some (.ref pl),u1,u2,u3] /\
      H' pl=some (.lst vs)/\aD H' vs (ps.map bP)/\ps.length=i/\(∀ p ∈ ps,(p.1.length<=m/\∀ d ∈ p.1,d8 xs d)/\kg xs c p.2)/\dm H' b l xs/\bM H' b/\Fix b H H'/\(∀ d o,H1 d=some o->d ≠ b->H' d=some o)) ?_ ?_ ?_⟩
    · exact⟨_,_,_,[],[],rfl,aa,.nil,rfl,(fun _ h=>nomatch h),N1.fix (Fix.new pn),B1.new pn,X1.trans (Fix.new pn),Fix.new pn⟩
    · rintro i σ H' hi ⟨u1,u2,u3,ps,vs,rfl,hp,hr,hl,aA,N',B',X',Y'⟩
      refine⟨_,rfl,_,rfl,_,_,rfl,rfl,b,_,rfl,B',⟨by omega,fP (by omega) (by omega)⟩,fun k H2 k0 k1 B2 X2=>?_⟩
      have N2:=N'.fix X2
      refine⟨_,rfl,_,rfl,_,rfl,b,l,xs,c,rfl,B2,N2,c0,(by omega),fun ev e H3 re ek B3 X3=>?_⟩
      have N3:=N2.fix X3
      have hp3:H3 pl=some (.lst vs):=(X2.trans X3) pl _ hp hpb
      have hr3:aD H3 vs (ps.map bP):=hr.fix B' (X2.trans X3) (aB ps)
      refine⟨_,rfl,.inl ⟨rfl,_,av.of hp3⟩,_,rfl,_,rfl,(by omega),(by omega),fun acc na=>?_⟩
      have hab:acc ≠ b:=B3.dG na
      refine iu (lo:=0) (fun i ys τ H'=>∃ (v:Option V) (ds:List aG),τ = [v,some (.ref b),some (.ref l)]/\aD H' ys (ds.map aY)/\ds.length=i/\(∀ d ∈ ds,d8 xs d)/\H' acc=some (.lst ys)/\bM H' b/\Fix b H3 H') ?_ ?_ ?_ ?_
      · exact⟨none,[],rfl,.nil,rfl,(fun _ h=>nomatch h),aa,B3.new na,Fix.new na⟩
      · rintro i' ys τ H4 hi' ⟨v,ds,rfl,rds,hl',_,ha,_⟩
        refine⟨ha,?_⟩
        rw [rds.len,List.length_map]
        exact bZ (by omega)
      · rintro i' ys τ H4 hi' ⟨v,ds,rfl,rds,hl',hdk,ha,B4,X4⟩
        refine cc ?_
        refine pD ?_
        refine eW ?_
        refine⟨_,rfl,_,rfl,b,l,xs,rfl,B4,N3.fix X4,fun dv d H5 rd dk B5 X5=>?_⟩
        have ha5:=X5 acc _ ha hab
        refine⟨ha5,_,ds ++ [d],rfl,?_,(by rw [List.length_append,hl'];rfl),?_,aa,?_,?_⟩
        · rw [List.map_append]
          refine aD.app ((rds.fix B4 X5 (aO ds)).put ha5 (aO ds)) ?_
          exact rd.cv (fun p zs e=>by rw [ae (bS e ha5 (by intro z;cases z))];exact e) (gY d)
        · intro d' hd
          rcases List.mem_append.mp hd with hd | hd
          · exact hdk d' hd
          · rw [List.mem_singleton.mp hd];exact dk
        · obtain⟨x,y,e,z⟩:=B5
          exact⟨x,y,by rw [ae hab.symm];exact e,z⟩
        · intro d' o hd nd
          rw [ae (aK hd na)]
          exact (X4.trans X5) d' o hd nd
      · rintro ys τ H4 ⟨v,ds,rfl,rds,hl',hdk,ha,B4,X4⟩
        refine⟨acc,ys,rfl,.inl ⟨av.of ha,fun tp tn=>?_⟩⟩
        refine⟨_,rfl,ln2,fun pc pcn=>?_⟩
        have S6:af H4 (upd (upd H4 tp (.tup ys)) pc (.tup [.ref tp,ev])):=(af.new tn).trans (af.new pcn)
        have hp6:(upd (upd H4 tp (.tup ys)) pc (.tup [.ref tp,ev])) pl=some (.lst vs):=S6 _ _ (X4 pl _ hp3 hpb)
        refine⟨pl,_,_,rfl,rfl,hp6,?_,?_⟩
        · rw [hr.len,List.length_map,hl]
          exact bZ (by omega)
        have hpiece:aP (upd (upd H4 tp (.tup ys)) pc (.tup [.ref tp,ev])) (.ref pc) (bP (ds,e)):=by
          refine .tup aa (.cons (.tup (af.new pcn _ _ aa) (rds.same S6 (aO ds))) (.cons ?_ .nil))
          exact (re.fix B3 X4 (fY e)).same S6 (fY e)
        have F6:Fix b H (upd (upd H4 tp (.tup ys)) pc (.tup [.ref tp,ev])):=((X'.trans (X2.trans X3)).trans X4).trans (Fix.of_same S6)
        have plH:∀ d o,H1 d=some o->d ≠ b->d ≠ pl:=fun d o hd nd z=>by rw [z,pn] at hd;cases hd
        refine⟨_,_,_,ps ++ [(ds,e)],vs ++ [.ref pc],rfl,aa,?_,(by rw [List.length_append,hl];rfl),?_,?_,?_,?_,?_⟩
        · rw [List.map_append]
          refine aD.app (((hr3.fix B3 X4 (aB ps)).same S6 (aB ps)).put hp6 (aB ps)) ?_
          exact hpiece.cv (fun p zs e=>by rw [ae (bS e hp6 (by intro z;cases z))];exact e) (gI (ds,e))
        · intro p hpm
          rcases List.mem_append.mp hpm with hpm | hpm
          · exact aA p hpm
          · rw [List.mem_singleton.mp hpm]
            exact⟨⟨by show ds.length<=m;omega,hdk⟩,ek⟩
        · have hll:l ≠ pl:=fun z=>by
            have:=N1.at_
            rw [z,pn] at this
            cases this
          have N6:=(N3.fix X4).fix (Fix.of_same (b:=b) S6)
          exact⟨by rw [ae hll];exact N6.at_,N6.ne,N6.lY,N6.du,N6.ok⟩
        · obtain⟨x,y,e',z⟩:=B4.same S6
          exact⟨x,y,by rw [ae hpb.symm];exact e',z⟩
        · intro d o hd nd
          have h1:=X1 d o hd nd
          rw [ae (plH d o h1 nd)]
          exact F6 d o hd nd
        · intro d o hd nd
          rw [ae (plH d o hd nd)]
          exact S6 d o (X4 d o ((X2.trans X3) d o (Y' d o hd nd) nd) nd)
    · rintro σ H' ⟨u1,u2,u3,ps,vs,rfl,hp,hr,hl,aA,N',B',X',Y'⟩
      have hl':ps.length=c:=by rw [hl];omega
      refine⟨_,rfl,pl,_,rfl,.inl ⟨av.of hp,fun tp tn=>?_⟩⟩
      refine q (.ref tp) xs ps _ (.tup aa (hr.same (af.new tn) (aB ps))) hl' ⟨fun p hpm=>(aA p hpm).1,fun p hpm=>?_⟩ ⟨N'.ok,x4⟩ (B'.new tn) (X'.trans (Fix.new tn))
      rw [hl']
      exact (aA p hpm).2
theorem nG {f:Addr} {fd:FuncData} (F:dg K "_law_count" "_law_count" dQ f fd) (Z:Bl mg) (O_law_take:Own P w K mg base "_law_take" 1 ["bag", "many"] eQ):bI P w K mg base cQ 2 f fd ["bag", "most"] kT:=by
 refine F.ok (k:=1) nB (fun vs H Q E h=>?_) (fun cdv A outer s H vs Q E hr h=>?_)
 ·obtain⟨b,m,rfl,_⟩:=h
  rfl
 ·obtain⟨b,m,rfl,hB,m0,m1,q⟩:=h
  refine⟨_,(ao (aS (aJ bt (bE (U (aN df ai (ay O_law_take (hr.mono (by decide)) rfl (U (pv 0) (U (pv 1) ab)))) (U (aN df ai (ay O_law_take (hr.mono (by decide)) rfl (U (pv 0) (U (bU (qd rfl) rfl Z.min vi (U ai (U (pv 1) ab))) ab)))) (U (pv 1) ab)))) (ay O_law_take (hr.mono (by decide)) rfl (U (pv 0) (U ai ab))) (fun _ _=>rfl)))),?_⟩
  refine⟨_,rfl,_,rfl,b,_,rfl,hB,⟨by omega,fP (by omega) (by omega)⟩,fun r H1 r0 r1 B1 X1=>⟨_,_,rfl,rfl,?_⟩⟩
  refine⟨_,rfl,_,rfl,_,_,rfl,b,_,rfl,B1,⟨(by split <;> omega),fP (by split <;> omega) (by split <;> omega)⟩,fun r2 H2 r20 r21 B2 X2=>⟨_,_,rfl,rfl,?_⟩⟩
  refine⟨_,rfl,gR,fun l0 n0=>?_⟩
  refine⟨_,rfl,b,3,rfl,B2.new n0,⟨by decide,by decide +kernel⟩,fun z H3 z0 z1 B3 X3=>?_⟩
  have h0:H3 l0=some (.lst [.int (1+r),.int (1+r2),.int m]):=X3 l0 _ aa (B2.dG n0)
  have hr2:r2 < 4:=by
   have:=r21
   split at this <;> omega
  have F3:Fix b H H3:=((X1.trans X2).trans (Fix.new n0)).trans X3
  obtain rfl | rfl | rfl:z=0\/z=1\/z=2:=by omega
  ·refine⟨l0,_,0,_,rfl,rfl,av.of h0,di,?_⟩
   have e:(1+r)=(((1+r).toNat:Nat):Int):=by omega
   rw [e]
   exact q _ H3 (by omega) (by omega) B3 F3
  ·refine⟨l0,_,1,_,rfl,rfl,av.of h0,dE,?_⟩
   have e:(1+r2)=(((1+r2).toNat:Nat):Int):=by omega
   rw [e]
   exact q _ H3 (by omega) (by omega) B3 F3
  ·refine⟨l0,_,2,_,rfl,rfl,av.of h0,at2,?_⟩
   exact q _ H3 m0 (by omega) B3 F3
theorem nH {f:Addr} {fd:FuncData} (F:dg K "_law_ahead" "_law_ahead" dU f fd) (Z:Bl mg)  : bI P w K mg base cQ 1 f fd ["deed", "names"] jw:=by
  refine F.ok (k:=0) fA (fun vs H Q E h=>?_) (fun cdv A outer s H vs Q E hr h=>?_)
  · obtain⟨dp,l,d,ns,rfl,_⟩:=h
    rfl
  · obtain⟨dp,l,d,ns,rfl,hdp,hl,hnd,hnl,q⟩:=h
    refine⟨_,(ah (gu (bY (U (aJ bo (pv 0) ai (fun _ _=>rfl)) (U (aJ bo (pv 0) ai (fun _ _=>rfl)) ab))) (fg rfl (bx (aC (i:=2) fA.nd rfl (Or.inl rfl)) (bx (aC (i:=3) fA.nd rfl (Or.inr rfl)) eu))))
      (ah (bL (PW.pt (j3 (aL cP (pv 2) aM (bc _)) (jl (aL gD (pv 3) (pv 1) (by with_unfolding_all rfl)))))
      (ao (aS (aN ql (pv 1) (bE (U (pv 3) ab)))))
      bp)
      (ah (bL (PW.pt (oY (aL cP (pv 2) aM (bc _)) (mi (aL cP (pv 2) aM (bc _)))))
      (ao (aS (cL ["one"] ["name"] [3] rfl (dI (pv 1)) rfl (by decide +kernel) (by decide +kernel) (by decide +kernel) ⟨⟨rfl,.inl rfl,rfl⟩,True.intro⟩ (fun _ _ _ _=>(aC (i:=0) (show ((["one"]:List Str)++(["name"]:List Str)).Nodup by decide +kernel) rfl (Or.inl rfl) (hf:=Or.inr rfl))) (fun _ _ _ _=>(gh (aL o3 (pv 0) (pv 1) (bc _)))) (fun _ _ _ _=>(pv 0)))))
      bp)
      (ah (bL (PW.pt (j3 (aL cP (pv 2) aM (bc _)) (jl (aL eZ (pv 3) (pv 1) (by with_unfolding_all rfl)))))
      (ah (aF (i:=4) fA.nd rfl (Or.inr rfl) (cL ["one"] ["name"] [3] rfl (dI (pv 1)) rfl (by decide +kernel) (by decide +kernel) (by decide +kernel) ⟨⟨rfl,.inl rfl,rfl⟩,True.intro⟩ (fun _ _ _ _=>(aC (i:=0) (show ((["one"]:List Str)++(["name"]:List Str)).Nodup by decide +kernel) rfl (Or.inl rfl) (hf:=Or.inr rfl))) (fun _ _ _ _=>(gh (aL o3 (pv 0) (pv 1) (bc _)))) (fun _ _ _ _=>(pv 0))))
      (ao (aS (aN ql (pv 4) (cL ["one"] ["left"] [4] rfl (dI (bE (U (aJ bo (pv 0) ai (fun _ _=>rfl)) ab))) rfl (by decide +kernel) (by decide +kernel) (by decide +kernel) ⟨⟨rfl,.inl rfl,rfl⟩,True.intro⟩ (fun _ _ _ _=>(aC (i:=0) (show ((["one"]:List Str)++(["left"]:List Str)).Nodup by decide +kernel) rfl (Or.inl rfl) (hf:=Or.inr rfl))) (fun _ _ _ _=>(gh (aL (lO (K:=K) rfl) (pv 0) (pv 1) (by with_unfolding_all rfl)))) (fun _ _ _ _=>(pv 0)))))))
      bp)
      (ao (aS (pv 1))))))),?_⟩
    have e0:d0 (kr d) 0=some (V.str (wD d)):=by cases d <;> exact di
    refine⟨_,rfl,dp,_,0,_,rfl,rfl,ar.of hdp,e0,_,rfl,dp,_,1,_,rfl,rfl,ar.of hdp,rR d,ln2,fun t0 nt0=>⟨t0,_,rfl,ar.of aa,rfl,_,_,rfl,_,_,rfl,rfl,?_⟩⟩
    have st0:=af.new (o:=.tup [.str (wD d),.str (jt d)]) nt0
    have hdp:=st0 _ _ hdp
    have hl:=st0 _ _ hl
    have q:∀ (l':Addr) (ns':List Str) H',H' l' = some (.lst (ns'.map V.str))->ns'.Nodup->(∀ x,x ∈ ns' ↔ cN (· ∈ ns) d x)->(l' = l\/(upd H t0 (.tup [.str (wD d),.str (jt d)])) l' = none)->af (upd H t0 (.tup [.str (wD d),.str (jt d)])) H'->Q (.ref l') H':=fun l' ns' H' a b c f s=>q l' ns' H' a b c (f.imp id fun z=>st0.free z) (st0.trans s)
    change (_:Hp->Prop) (upd H t0 (.tup [.str (wD d),.str (jt d)]))
    generalize (upd H t0 (.tup [.str (wD d),.str (jt d)]))=H at hdp hl q
    clear st0 nt0
    cases d with
    | tell y =>
      refine⟨_,rfl,rfl,_,rfl,?_⟩
      refine aZ (show decide (V.str "tell" = V.str "tell")=true by decide +kernel) ?_
      refine⟨_,rfl,_,rfl,l,_,rfl,.inl (av.of hl),rfl,dA ns,_,rfl,?_⟩
      refine fj (fun hc=>?_) (fun hc=>?_)
      · have hy:y ∉ ns:=by
          have hc:(!dD (V.str y) (ns.map V.str))=true:=hc
          rw [cG] at hc
          simpa using hc
        refine⟨_,rfl,_,rfl,sZ,fun p np=>⟨l,p,_,_,rfl,rfl,af.new np _ _ hl,aa,(by rw [List.length_map];exact Nat.le_of_lt (bZ (by show _+1<=1000;omega))),fun p2 np2=>?_⟩⟩
        refine q p2 (ns ++ [y]) _ (by rw [List.map_append];exact aa) ?_ (fun x=>?_) (.inr ((af.new np).free np2)) ((af.new np).trans (af.new np2))
        · rw [List.nodup_append]
          exact⟨hnd,by simp,fun a ha b hb z=>by rw [List.mem_singleton] at hb;subst hb;subst z;exact hy ha⟩
        · rw [List.mem_append,List.mem_singleton]
          exact or_comm
      · have hy:y ∈ ns:=by
          have hc:¬ (!dD (V.str y) (ns.map V.str))=true:=hc
          rw [cG] at hc
          simpa using hc
        refine⟨_,rfl,rfl,_,rfl,?_⟩
        refine aI (show decide (V.str "tell" = V.str "put")=false by decide +kernel) ?_
        refine⟨_,rfl,rfl,_,rfl,?_⟩
        refine aI (show decide (V.str "tell" = V.str "read")=false by decide +kernel) ?_
        refine⟨_,rfl,rfl,_,rfl,?_⟩
        refine aI (show decide (V.str "tell" = V.str "copy")=false by decide +kernel) (dh ?_)
        refine⟨_,rfl,q l ns H hl hnd (fun x=>⟨.inr,fun h=>?_⟩) (.inl rfl) (af.refl H)⟩
        rcases h with h | h
        · rw [h];exact hy
        · exact h
    | put y n =>
      refine⟨_,rfl,rfl,_,rfl,?_⟩
      refine aI (show decide (V.str "put" = V.str "tell")=false by decide +kernel) (dh ?_)
      refine⟨_,rfl,rfl,_,rfl,?_⟩
      refine aZ (show decide (V.str "put" = V.str "put")=true by decide +kernel) (eW ?_)
      refine⟨_,rfl,l,rfl,⟨_,av.of hl⟩,fun acc na=>?_⟩
      refine eB (K:=K) (a:=l) (xs:=ns.map V.str) (fun i ys τ H'=>∃ c1:Option V,τ = [c1,some (.str y)]/\ys=(ns.take i |>.filter fun z=>!decide (z=y)).map V.str/\H' acc=some (.lst ys)/\af H H') ?_ ?_ ?_ ?_
      · exact⟨none,rfl,rfl,aa,af.new na⟩
      · rintro i ys τ H2 hi ⟨c1,rfl,rfl,h1,h2⟩
        refine⟨av.of (h2 _ _ hl),h1,aw ?_⟩
        rw [List.length_map]
        have g1:=List.length_filter_le (fun z=>!decide (z=y)) (ns.take i)
        rw [List.length_take] at g1
        omega
      · rintro i x ys τ H2 hx ⟨c1,rfl,rfl,h1,h2⟩
        rw [List.getElem?_map] at hx
        cases hz:ns[i]? with
        | none=>rw [hz] at hx;cases hx
        | some z =>
          rw [hz] at hx
          cases hx
          refine cc ?_
          refine⟨_,rfl,_,rfl,rfl,_,rfl,?_⟩
          have ht:(ns.take (i+1)).filter (fun z=>!decide (z=y))=(ns.take i).filter (fun z=>!decide (z=y))++(if z=y then [] else [z]):=by
            rw [List.take_add_one,hz,List.filter_append]
            by_cases e:z=y
            · simp [e]
            · simp [e]
          by_cases e:z=y
          · refine aI (by subst e;simp) ?_
            exact⟨_,rfl,(by rw [ht,if_pos e,List.append_nil]),h1,h2⟩
          · refine aZ (by simp [e]) ?_
            refine⟨_,rfl,h1,_,rfl,(by rw [ht,if_neg e,List.map_append];rfl),(by rw [aa]),h2.put na⟩
      · rintro ys τ H2 ⟨c1,rfl,rfl,h1,h2⟩
        rw [List.length_map,List.take_of_length_le (Nat.le_refl _)] at h1
        refine q acc _ H2 h1 (hnd.filter _) (fun x=>?_) (.inr na) h2
        rw [List.mem_filter]
        show _ ↔ x ≠ y/\x ∈ ns
        simp [and_comm]
    | read y =>
      refine⟨_,rfl,rfl,_,rfl,?_⟩
      refine aI (show decide (V.str "read" = V.str "tell")=false by decide +kernel) (dh ?_)
      refine⟨_,rfl,rfl,_,rfl,?_⟩
      refine aI (show decide (V.str "read" = V.str "put")=false by decide +kernel) ?_
      refine⟨_,rfl,rfl,_,rfl,?_⟩
      refine aZ (show decide (V.str "read" = V.str "read")=true by decide +kernel) ?_
      refine⟨_,rfl,l,rfl,⟨_,av.of hl⟩,fun acc na=>?_⟩
      refine eB (K:=K) (a:=l) (xs:=ns.map V.str) (fun i ys τ H'=>∃ c1:Option V,τ = [c1,some (.str y)]/\ys=(ns.take i |>.filter fun z=>!decide (z=y)).map V.str/\H' acc=some (.lst ys)/\af H H') ?_ ?_ ?_ ?_
      · exact⟨none,rfl,rfl,aa,af.new na⟩
      · rintro i ys τ H2 hi ⟨c1,rfl,rfl,h1,h2⟩
        refine⟨av.of (h2 _ _ hl),h1,aw ?_⟩
        rw [List.length_map]
        have g1:=List.length_filter_le (fun z=>!decide (z=y)) (ns.take i)
        rw [List.length_take] at g1
        omega
      · rintro i x ys τ H2 hx ⟨c1,rfl,rfl,h1,h2⟩
        rw [List.getElem?_map] at hx
        cases hz:ns[i]? with
        | none=>rw [hz] at hx;cases hx
        | some z =>
          rw [hz] at hx
          cases hx
          refine cc ?_
          refine⟨_,rfl,_,rfl,rfl,_,rfl,?_⟩
          have ht:(ns.take (i+1)).filter (fun z=>!decide (z=y))=(ns.take i).filter (fun z=>!decide (z=y))++(if z=y then [] else [z]):=by
            rw [List.take_add_one,hz,List.filter_append]
            by_cases e:z=y
            · simp [e]
            · simp [e]
          by_cases e:z=y
          · refine aI (by subst e;simp) ?_
            exact⟨_,rfl,(by rw [ht,if_pos e,List.append_nil]),h1,h2⟩
          · refine aZ (by simp [e]) ?_
            refine⟨_,rfl,h1,_,rfl,(by rw [ht,if_neg e,List.map_append];rfl),(by rw [aa]),h2.put na⟩
      · rintro ys τ H2 ⟨c1,rfl,rfl,h1,h2⟩
        rw [List.length_map,List.take_of_length_le (Nat.le_refl _)] at h1
        refine q acc _ H2 h1 (hnd.filter _) (fun x=>?_) (.inr na) h2
        rw [List.mem_filter]
        show _ ↔ x ≠ y/\x ∈ ns
        simp [and_comm]
    | add y n =>
      refine⟨_,rfl,rfl,_,rfl,?_⟩
      refine aI (show decide (V.str "add" = V.str "tell")=false by decide +kernel) (dh ?_)
      refine⟨_,rfl,rfl,_,rfl,?_⟩
      refine aI (show decide (V.str "add" = V.str "put")=false by decide +kernel) ?_
      refine⟨_,rfl,rfl,_,rfl,?_⟩
      refine aI (show decide (V.str "add" = V.str "read")=false by decide +kernel) ?_
      refine⟨_,rfl,rfl,_,rfl,?_⟩
      refine aI (show decide (V.str "add" = V.str "copy")=false by decide +kernel) (dh ?_)
      exact⟨_,rfl,q l ns H hl hnd (fun x=>Iff.rfl) (.inl rfl) (af.refl H)⟩
    | copy y z =>
      refine⟨_,rfl,rfl,_,rfl,?_⟩
      refine aI (show decide (V.str "copy" = V.str "tell")=false by decide +kernel) (dh ?_)
      refine⟨_,rfl,rfl,_,rfl,?_⟩
      refine aI (show decide (V.str "copy" = V.str "put")=false by decide +kernel) ?_
      refine⟨_,rfl,rfl,_,rfl,?_⟩
      refine aI (show decide (V.str "copy" = V.str "read")=false by decide +kernel) ?_
      refine⟨_,rfl,rfl,_,rfl,?_⟩
      refine aZ (show decide (V.str "copy" = V.str "copy")=true by decide +kernel) ?_
      refine⟨_,rfl,_,rfl,l,_,rfl,.inl (av.of hl),rfl,dA ns,_,rfl,?_⟩
      refine fj (fun hc=>?_) (fun hc=>?_)
      · have hy:y ∈ ns:=by
          have hc:dD (V.str y) (ns.map V.str)=true:=hc
          rw [cG] at hc
          simpa using hc
        refine⟨_,rfl,l,rfl,⟨_,av.of hl⟩,fun acc na=>?_⟩
        refine eB (K:=K) (a:=l) (xs:=ns.map V.str) (fun i ys τ H'=>∃ c1:Option V,τ = [c1,some (.str y)]/\ys=(ns.take i |>.filter fun z=>!decide (z=y)).map V.str/\H' acc=some (.lst ys)/\af H H') ?_ ?_ ?_ ?_
        · exact⟨none,rfl,rfl,aa,af.new na⟩
        · rintro i ys τ H2 hi ⟨c1,rfl,rfl,h1,h2⟩
          refine⟨av.of (h2 _ _ hl),h1,aw ?_⟩
          rw [List.length_map]
          have g1:=List.length_filter_le (fun z=>!decide (z=y)) (ns.take i)
          rw [List.length_take] at g1
          omega
        · rintro i x ys τ H2 hx ⟨c1,rfl,rfl,h1,h2⟩
          rw [List.getElem?_map] at hx
          cases hz:ns[i]? with
          | none=>rw [hz] at hx;cases hx
          | some z =>
            rw [hz] at hx
            cases hx
            refine cc ?_
            refine⟨_,rfl,_,rfl,rfl,_,rfl,?_⟩
            have ht:(ns.take (i+1)).filter (fun z=>!decide (z=y))=(ns.take i).filter (fun z=>!decide (z=y))++(if z=y then [] else [z]):=by
              rw [List.take_add_one,hz,List.filter_append]
              by_cases e:z=y
              · simp [e]
              · simp [e]
            by_cases e:z=y
            · refine aI (by subst e;simp) ?_
              exact⟨_,rfl,(by rw [ht,if_pos e,List.append_nil]),h1,h2⟩
            · refine aZ (by simp [e]) ?_
              refine⟨_,rfl,h1,_,rfl,(by rw [ht,if_neg e,List.map_append];rfl),(by rw [aa]),h2.put na⟩
        · rintro ys τ H2 ⟨c1,rfl,rfl,h1,h2⟩
          rw [List.length_map,List.take_of_length_le (Nat.le_refl _)] at h1
          refine cc ?_
          have hnf:(ns.filter fun z=>!decide (z=y)).Nodup:=hnd.filter _
          have hmf:∀ x,x ∈ (ns.filter fun z=>!decide (z=y)) ↔ x ≠ y/\x ∈ ns:=fun x=>by rw [List.mem_filter];simp [and_comm]
          have hlf:(ns.filter fun z=>!decide (z=y)).length<=100:=Nat.le_trans (List.length_filter_le _ _) hnl
          generalize (ns.filter fun z=>!decide (z=y))=lf at h1 hnf hmf hlf
          refine⟨_,rfl,_,rfl,dp,_,2,_,rfl,rfl,ar.of (h2 _ _ hdp),at2,sZ,fun p np=>⟨p,rfl,⟨_,av.of aa⟩,fun acc2 na2=>?_⟩⟩
          have sp:=af.new (o:=.lst [.str z]) np
          have h1':=sp _ _ h1
          have hp':(upd H2 p (.lst [.str z])) p=some (.lst [.str z]):=aa
          generalize (upd H2 p (.lst [.str z]))=H3 at sp h1' hp' na2
          refine eB (K:=K) (a:=p) (xs:=[V.str z]) (fun i ys τ H'=>∃ c1:Option V,τ = [c1,some (.ref acc)]/\ys=(if i=0 then [] else (if z ∈ lf then [] else [V.str z]))/\H' acc2=some (.lst ys)/\af H3 H') ?_ ?_ ?_ ?_
          · exact⟨none,rfl,rfl,aa,af.new na2⟩
          · rintro i ys τ H4 hi ⟨c1,rfl,rfl,g1,g2⟩
            refine⟨av.of (g2 _ _ hp'),g1,aw ?_⟩
            split
            · exact Nat.zero_le _
            · split
              · exact Nat.zero_le _
              · show 1<=_;decide
          · rintro i x ys τ H4 hx ⟨c1,rfl,rfl,g1,g2⟩
            have hi0:i=0:=by
              have:=(List.getElem?_eq_some_iff.mp hx).1
              simp at this
              exact this
            subst hi0
            cases hx
            refine cc ?_
            refine⟨_,rfl,_,rfl,acc,_,rfl,.inl (av.of (g2 _ _ h1')),rfl,dA lf,_,rfl,?_⟩
            have hin:(!dD (V.str z) (lf.map V.str)) = !decide (z ∈ lf):=by rw [cG]
            by_cases e:z ∈ lf
            · refine aI (by show (!dD (V.str z) (lf.map V.str))=false;rw [hin];simp [e]) ?_
              exact⟨_,rfl,(by simp [e]),g1,g2⟩
            · refine aZ (by show (!dD (V.str z) (lf.map V.str))=true;rw [hin];simp [e]) ?_
              exact⟨_,rfl,g1,_,rfl,(by simp [e]),aa,g2.put na2⟩
          · rintro ys τ H4 ⟨c1,rfl,rfl,g1,g2⟩
            rw [if_neg (show ¬ [V.str z].length=0 by simp)] at g1
            have tail:∀ (zs:List Str) H',H' acc2=some (.lst (zs.map V.str))->zs.length<=1->af H3 H'->(lf++zs).Nodup->(∀ x,x ∈ lf++zs ↔ cN (· ∈ ns) (.copy y z) x)->∃ l b xs zs,V.ref acc=.ref l/\V.ref acc2=.ref b/\H' l=some (.lst xs)/\H' b=some (.lst zs)/\xs.length+zs.length<=sizeLine/\∀ p,H' p=none->Q (.ref p) (upd H' p (.lst (xs++zs))):=fun zs H' a1 a2 a3 a4 a5=>by
              refine⟨acc,acc2,_,_,rfl,rfl,a3 _ _ h1',a1,(by rw [List.length_map,List.length_map];exact Nat.le_of_lt (bZ (by omega))),fun p4 np4=>?_⟩
              exact q p4 (lf++zs) _ (by rw [List.map_append];exact aa) a4 a5 (.inr (h2.free (sp.free (a3.free np4)))) ((h2.trans sp).trans (a3.trans (af.new np4)))
            by_cases e:z ∈ lf
            · rw [if_pos e] at g1
              refine tail [] H4 g1 (by decide) g2 (by simpa using hnf) fun x=>?_
              rw [List.append_nil,hmf x]
              refine⟨.inl,fun h=>h.elim id fun h=>?_⟩
              rw [h.1]
              exact (hmf z).mp e
            · rw [if_neg e] at g1
              refine tail [z] H4 g1 (Nat.le_refl 1) g2 ?_ fun x=>?_
              · rw [List.nodup_append]
                exact⟨hnf,by simp,fun a ha b hb zz=>by rw [List.mem_singleton] at hb;subst hb;subst zz;exact e ha⟩
              · rw [List.mem_append,hmf x,List.mem_singleton]
                exact⟨fun h=>h.elim .inl fun h=>.inr ⟨h,hy⟩,fun h=>h.elim .inl fun h=>.inr h.1⟩
      · have hy:y ∉ ns:=by
          have hc:¬ dD (V.str y) (ns.map V.str)=true:=hc
          rw [cG] at hc
          simpa using hc
        refine⟨_,rfl,q l ns H hl hnd (fun x=>⟨fun h=>.inl ⟨fun e=>hy (e ▸ h),h⟩,fun h=>?_⟩) (.inl rfl) (af.refl H)⟩
        rcases h with h | h
        · exact h.2
        · exact absurd h.2 hy
theorem jB {f:Addr} {fd:FuncData} (F:dg K "_law_behind_all" "_law_behind_all" bV f fd) (Z:Bl mg)  : bI P w K mg base cQ 1 f fd ["plan", "piece", "rows"] fJ:=by
  refine F.ok (k:=0) dc (fun vs H Q E h=>?_) (fun cdv A outer s H vs Q E hr h=>?_)
  · obtain⟨plv,rl,ps,F,k,ds,e,rfl,_⟩:=h
    rfl
  · obtain⟨plv,rl,ps,F,k,ds,e,rfl,hp,hin,hpk,hF,hpl,hR,hrow,q⟩:=h
    refine⟨_,(ah (aF (i:=3) dc.nd rfl (Or.inl rfl) (aJ bo (aJ bo (pv 0) (pv 1) (fun _ _=>rfl)) ai (fun _ _=>rfl)))
      (ah (aF (i:=4) dc.nd rfl (Or.inr rfl) (bE ab))
      (ah (mF (bL (aL cP (bU bO rfl Z.len fm (U (pv 3) ab)) ai (bc _))
      (ao (bJ (cW PySem.F.plainAttrs_list PySem.F.slot_list_append PySem.F.type_list_append bK (pv 4) (U (aJ bo (pv 3) ai (fun _ _=>rfl)) ab))))
      bp))
      (ah (cJ PassesOwn.never rfl (eO (mx qf (pv 3) (gg (aN iY (bU bO rfl Z.len fm (U (pv 3) ab)) (fQ (fW hr) (tW (mN aM ai (mN aM ai tV)) rfl rfl (List.cons_ne_nil _ _) (by show 2<=15;decide)) (aJ bo (pv 3) ai (fun _ _=>rfl)) ai ⟨rfl,rfl,rfl,rfl⟩))) ox)) (aC (i:=5) dc.nd rfl (Or.inl rfl))
      (ao (bJ (cW PySem.F.plainAttrs_list PySem.F.slot_list_extend PySem.F.type_list_extend lH (pv 4) (U (cL ["name"] ["names"] [4] rfl (dI (aJ bt (pv 2) (pv 5) (fun _ _=>rfl))) rfl (by decide +kernel) (by decide +kernel) (by decide +kernel) ⟨⟨rfl,.inl rfl,rfl⟩,True.intro⟩ (fun _ _ _ _=>(aC (i:=0) (show ((["name"]:List Str)++(["names"]:List Str)).Nodup by decide +kernel) rfl (Or.inl rfl) (hf:=Or.inr rfl))) (fun _ _ _ _=>(gh (aL (lO (K:=K) rfl) (pv 0) (pv 1) (by with_unfolding_all rfl)))) (fun _ _ _ _=>(pv 0))) ab)))))
      (ao (aS (pv 4))))))),?_⟩
    obtain⟨p',xs',pc,da,ea,ws,ep,e1,el,hx,e2,e3,r3,e4⟩:=eX hp hpk
    subst ep
    refine⟨_,rfl,_,rfl,p',_,_,_,rfl,rfl,ar.of e1,bh hx,pc,_,1,_,rfl,rfl,ar.of e2,dE,?_⟩
    refine⟨(by show 0<=sizeLine;decide),fun na nna=>?_⟩
    have s0:=af.new (o:=.lst []) nna
    have hna0:(upd H na (.lst [])) na=some (.lst []):=aa
    generalize (upd H na (.lst []))=H0 at s0 hna0
    refine⟨fun σ' H'=>σ' = [some (.ref p'),some (.int (k:Nat)),some (.ref rl),some (.ref ea),some (.ref na),none]/\H' na=some (.lst ((bf e).map V.str))/\af H H',?_,?_⟩
    · refine⟨_,rfl,ea,_,rfl,.inr (ar.of (s0 _ _ e4)),rfl,_,rfl,?_⟩
      cases e with
      | stop =>
        refine aI (show decide (V.int ((1:Nat):Int)=V.int 5)=false by decide +kernel) ?_
        exact⟨rfl,hna0,s0⟩
      | go q1 =>
        refine aI (show decide (V.int ((2:Nat):Int)=V.int 5)=false by decide +kernel) ?_
        exact⟨rfl,hna0,s0⟩
      | eS b x n q1 q2 =>
        refine aZ (show decide (V.int ((5:Nat):Int)=V.int 5)=true by decide +kernel) ?_
        refine⟨_,rfl,.inl ⟨rfl,_,av.of hna0⟩,_,rfl,ea,_,1,_,rfl,rfl,ar.of (s0 _ _ e4),dE,na,_,_,rfl,rfl,hna0,(by show 0 < sizeLine;decide),?_⟩
        exact⟨rfl,aa,s0.put nna⟩
    rintro σ' H1 ⟨rfl,hna,s1⟩
    have e0:d0 (gJ e) 0=some (V.str (wE e)):=by cases e <;> exact di
    refine⟨_,rfl,_,rfl,ea,_,rfl,.inr (ar.of (s1 _ _ e4)),?_⟩
    refine fun nd nnd=>⟨aa,[(Sum.inr "stop",.int 0),(Sum.inr "go",.int 1)],rfl,(by decide),?_⟩
    have hnd:(upd (upd H1 nd (.dK [])) nd (.dK (ef [] [((Sum.inr ("stop" : Str):Key),V.int 0),(Sum.inr ("go" : Str),V.int 1)]))) nd=some (.dK (ef [] [((Sum.inr ("stop" : Str):Key),V.int 0),(Sum.inr ("go" : Str),V.int 1)])):=aa
    have s2:af H1 (upd (upd H1 nd (.dK [])) nd (.dK (ef [] [((Sum.inr ("stop" : Str):Key),V.int 0),(Sum.inr ("go" : Str),V.int 1)]))):=(af.new nnd).put nnd
    have hcut:(cw (ef [] [((Sum.inr ("stop" : Str):Key),V.int 0),(Sum.inr ("go" : Str),V.int 1)]) (Sum.inr (wE e):Key)).getD (.int 2)=.int ((aV e).length:Nat):=by
      cases e with
      | stop=>rfl
      | go _=>rfl
      | eS b _ _ _ _=>cases b <;> rfl
    refine⟨nd,rfl,.inl ⟨_,.inl hnd⟩,?_⟩
    generalize (upd (upd H1 nd (.dK [])) nd (.dK (ef [] [((Sum.inr ("stop" : Str):Key),V.int 0),(Sum.inr ("go" : Str),V.int 1)])))=H2 at hnd s2
    generalize (ef [] [((Sum.inr ("stop" : Str):Key),V.int 0),(Sum.inr ("go" : Str),V.int 1)])=kd at hcut hnd
    refine⟨_,rfl,ea,_,0,_,rfl,rfl,ar.of (s2 _ _ (s1 _ _ e4)),e0,_,_,fT.k (k:=Sum.inr (wE e)) hnd,hcut,_,_,rfl,rfl,_,rfl,?_⟩
    refine⟨ea,_,rfl,ar.of (s2 _ _ (s1 _ _ e4)),(by cases e <;> simp [gJ,aV,HT.bg]),fun wp nwp=>?_⟩
    have hcv:i3 (gJ e) (some (((gJ e).length:Int) - ((aV e).length:Nat))) none=vN (aV e):=by
      cases e <;> rfl
    rw [hcv]
    have s3:=af.new (o:=.tup (vN (aV e))) nwp
    have hwp:(upd H2 wp (.tup (vN (aV e)))) wp=some (.tup (vN (aV e))):=aa
    have hna3:=s3 _ _ (s2 _ _ hna)
    have s13:=(s1.trans s2).trans s3
    generalize (upd H2 wp (.tup (vN (aV e))))=H3 at s3 hwp hna3 s13
    refine⟨wp,rfl,⟨_,ar.of hwp⟩,?_⟩
    have hnw:na ≠ wp:=bS hna3 hwp (by intro z;cases z)
    have hends:=fR e
    refine fC (K:=K) (a:=wp) (xs:=vN (aV e)) (fun j σ H'=>∃ (ns:List Str) (u4:Option V),σ = [some (.ref p'),some (.int (k:Nat)),some (.ref rl),some (.ref ea),some (.ref na),u4]/\H' na=some (.lst (ns.map V.str))/\ns.length<=1+100 * j/\ns.Nodup/\(∀ x,x ∈ ns ↔ x ∈ bf e\/∃ k ∈ (aV e).take j,cA F k x)/\H' wp=some (.tup (vN (aV e)))/\af H H') ?_ ?_ ?_ ?_
    · refine⟨bf e,_,rfl,hna3,?_,?_,(by simp),hwp,s13⟩
      · cases e <;> simp [bf]
      · cases e <;> simp [bf]
    · rintro j σ H5 hj ⟨ns,u4,rfl,g1,g2,g3,g4,g5,g6⟩
      exact ar.of g5
    · rintro j y σ H5 hy ⟨ns,u4,rfl,g1,g2,g3,g4,g5,g6⟩
      rw [List.getElem?_map] at hy
      cases hwj:(aV e)[j]? with
      | none=>rw [hwj] at hy;cases hy
      | some w =>
        rw [hwj] at hy
        cases hy
        have hj2:j < 2:=by
          have h9:=(List.getElem?_eq_some_iff.mp hwj).1
          omega
        have hw:w < F.length:=by rw [hF];exact iA hin hpk w (List.mem_of_getElem? hwj)
        have hFw:F[w]? = some F[w]:=by simp [hw]
        generalize F[w] = fs at hFw
        obtain⟨fn,fl⟩:=hrow w fs hFw
        obtain⟨rvs,hrl,hRV⟩:=hR.same g6
        obtain⟨fa,hfa1,hfa2,hfa3⟩:=hRV.2 w fs hFw
        refine cc ?_
        refine⟨_,rfl,.inl ⟨rfl,_,av.of g1⟩,_,rfl,_,rfl,rl,_,_,_,rfl,rfl,av.of hrl,bh hfa1,fa,rfl,⟨_,av.of hfa3⟩,fun acc nacc=>?_⟩
        refine eB (K:=K) (a:=fa) (xs:=fs.map V.str) (fun i ys τ H'=>∃ c1:Option V,τ = [c1,some (.ref na)]/\ys=(fs.take i |>.filter fun z=>!decide (z ∈ ns)).map V.str/\H' acc=some (.lst ys)/\af H5 H') ?_ ?_ ?_ ?_
        · exact⟨none,rfl,rfl,aa,af.new nacc⟩
        · rintro i ys τ H6 hi ⟨c1,rfl,rfl,h1,h2⟩
          refine⟨av.of (h2 _ _ hfa3),h1,aw ?_⟩
          rw [List.length_map]
          have g1:=List.length_filter_le (fun z=>!decide (z ∈ ns)) (fs.take i)
          rw [List.length_take] at g1
          omega
        · rintro i x ys τ H6 hx ⟨c1,rfl,rfl,h1,h2⟩
          rw [List.getElem?_map] at hx
          cases hz:fs[i]? with
          | none=>rw [hz] at hx;cases hx
          | some z =>
            rw [hz] at hx
            cases hx
            refine cc ?_
            refine⟨_,rfl,_,rfl,na,_,rfl,.inl (av.of (h2 _ _ g1)),rfl,dA ns,_,rfl,?_⟩
            have ht:(fs.take (i+1)).filter (fun z=>!decide (z ∈ ns))=(fs.take i).filter (fun z=>!decide (z ∈ ns))++(if z ∈ ns then [] else [z]):=by
              rw [List.take_add_one,hz,List.filter_append]
              by_cases e:z ∈ ns
              · simp [e]
              · simp [e]
            have hinv:(!dD (V.str z) (ns.map V.str)) = !decide (z ∈ ns):=by rw [cG]
            by_cases e:z ∈ ns
            · refine aI (by show (!dD (V.str z) (ns.map V.str))=false;rw [hinv];simp [e]) ?_
              exact⟨_,rfl,(by rw [ht,if_pos e,List.append_nil]),h1,h2⟩
            · refine aZ (by show (!dD (V.str z) (ns.map V.str))=true;rw [hinv];simp [e]) ?_
              exact⟨_,rfl,h1,_,rfl,(by rw [ht,if_neg e,List.map_append];rfl),(by rw [aa]),h2.put nacc⟩
        · rintro ys τ H6 ⟨c1,rfl,rfl,h1,h2⟩
          rw [List.length_map,List.take_of_length_le (Nat.le_refl _)] at h1
          have hfl:=List.length_filter_le (fun z=>!decide (z ∈ ns)) fs
          have hfm:∀ x,x ∈ fs.filter (fun z=>!decide (z ∈ ns)) ↔ x ∈ fs/\x ∉ ns:=fun x=>by rw [List.mem_filter];simp
          have hfn:(fs.filter (fun z=>!decide (z ∈ ns))).Nodup:=fn.filter _
          generalize (fs.filter (fun z=>!decide (z ∈ ns)))=gs at h1 hfl hfm hfn
          refine⟨na,acc,_,_,rfl,rfl,h2 _ _ g1,h1,?_,?_⟩
          · rw [List.length_map,List.length_map]
            exact Nat.le_of_lt (aw (by omega))
          refine⟨ns++gs,_,rfl,(by rw [aa,List.map_append]),(by rw [List.length_append];omega),?_,fun x=>?_,(by rw [ae hnw.symm];exact h2 _ _ g5),(g6.trans h2).put nna⟩
          · rw [List.nodup_append]
            exact⟨g3,hfn,fun a ha b hb z=>by subst z;exact ((hfm a).mp hb).2 ha⟩
          · rw [List.mem_append,g4 x,hfm x,List.take_add_one,hwj]
            constructor
            · rintro ((h | ⟨k',h,h'⟩) | h)
              · exact .inl h
              · exact .inr ⟨k',List.mem_append_left _ h,h'⟩
              · exact .inr ⟨w,List.mem_append_right _ (List.mem_singleton.mpr rfl),fs,hFw,h.1⟩
            · intro h
              by_cases hx:x ∈ ns
              · exact .inl ((g4 x).mp hx)
              · rcases h with h | ⟨k',h,h'⟩
                · exact .inl (.inl h)
                · rcases List.mem_append.mp h with h | h
                  · exact .inl (.inr ⟨k',h,h'⟩)
                  · have:=List.mem_singleton.mp h
                    subst this
                    obtain⟨fs',a1,a2⟩:=h'
                    rw [hFw] at a1
                    cases a1
                    exact .inr ⟨a2,hx⟩
    · rintro σ H5 ⟨ns,u4,rfl,g1,g2,g3,g4,g5,g6⟩
      rw [List.length_map,List.take_of_length_le (Nat.le_refl _)] at g4
      exact⟨_,rfl,q na ns H5 g1 g3 g4 nna g6⟩
theorem nW {f:Addr} {fd:FuncData} (F:dg K "_law_live" "_law_live" eM f fd) (Z:Bl mg) (O_law_behind_all:Own P w K mg base "_law_behind_all" 1 ["plan", "piece", "rows"] fJ) (O_law_ahead:Own P w K mg base "_law_ahead" 1 ["deed", "names"] jw):bI P w K mg base cQ 5 f fd ["plan"] iK:=by
  refine F.ok (k:=4) bX (fun vs H Q E h=>?_) (fun cdv A outer s H vs Q E hr h=>?_)
  · obtain⟨plv,ps,pool,mm,rfl,_⟩:=h
    rfl
  · obtain⟨plv,ps,pool,mm,rfl,hp,ok,nok,hmm,h64,hpl,q⟩:=h
    refine⟨_,(ah (gG (i:=1) ["piece"] [] [] rfl bX.nd rfl rfl rfl (eO (pv 0)) rfl (by decide +kernel) (by decide +kernel) (by decide +kernel) True.intro (fun _ _ _ _=>(aC (i:=0) (show ((["piece"]:List Str)++([]:List Str)).Nodup by decide +kernel) rfl (Or.inl rfl) (hf:=Or.inr rfl))) (fun _ _ _ _=>cE) (fun _ _ _ _=>(bE ab)))
      (ah (aF (i:=2) bX.nd rfl (Or.inl rfl) j2)
      (ah (mn PassesOwn.never (uO (pv 2))
      (ah (aF (i:=2) bX.nd rfl (Or.inl rfl) j2)
      (ao (cJ PassesOwn.never rfl (cO rfl Z.range (U (bU bO rfl Z.len fm (U (pv 0) ab)) ab)) (aC (i:=3) bX.nd rfl (Or.inl rfl))
      (ah (aF (i:=4) bX.nd rfl (Or.inl rfl) (ay O_law_behind_all (hr.mono (by decide)) rfl (U (pv 0) (U (pv 3) (U (pv 1) ab)))))
      (ah (cJ PassesOwn.never rfl (eO (oT (aJ bo (aJ bo (pv 0) (pv 3) (fun _ _=>rfl)) ai (fun _ _=>rfl)) (gg (lW j8 ai)))) (aC (i:=5) bX.nd rfl (Or.inl rfl))
      (ao (aF (i:=4) bX.nd rfl (Or.inl rfl) (ay O_law_ahead (hr.mono (by decide)) rfl (U (pv 5) (U (pv 4) ab))))))
      (ao (bL (aL (vn hr.units) (bU iQ rfl Z.sorted ja (U (pv 4) ab)) (aJ bt (pv 1) (pv 3) (fun _ _=>rfl)) (bc _))
      (ah (gu (bU iQ rfl Z.sorted ja (U (pv 4) ab)) (j5 (pv 1) (pv 3) set_list))
      (ao (aF (i:=2) bX.nd rfl (Or.inl rfl) j2)))
      bp))))))))
      (ao (aS (pv 1)))))),?_⟩
    have hin:=ok.i9
    obtain⟨p,xs,rfl,e1,rp⟩:=aP.cm hp
    have hxl:xs.length=ps.length:=by rw [rp.len,List.length_map]
    refine⟨_,rfl,p,rfl,⟨_,ar.of e1⟩,fun acc na=>?_⟩
    refine mE (K:=K) (a:=p) (xs:=xs) (fun i zs τ H'=>∃ (c1:Option V),τ = [c1]/\H' acc=some (.lst zs)/\gW H' acc zs (List.replicate i [])/\af H H') ?_ ?_ ?_ ?_
    · exact⟨none,rfl,aa,⟨rfl,fun i xs h=>by simp at h⟩,af.new na⟩
    · rintro i zs τ H2 hi ⟨c1,rfl,h1,h2,h3⟩
      refine⟨ar.of (h3 _ _ e1),h1,aw ?_⟩
      have:=h2.1
      rw [List.length_replicate] at this
      omega
    · rintro i x zs τ H2 hx ⟨c1,rfl,h1,h2,h3⟩
      change _<=sizeLine/\_
      refine⟨(by show 0<=sizeLine;decide),fun r nr=>?_⟩
      have s1:=af.new (o:=.lst []) nr
      have nra:acc ≠ r:=fun z=>by rw [z,nr] at h1;cases h1
      refine⟨s1 _ _ h1,_,rfl,aa,?_,(h3.trans s1).put na⟩
      rw [List.replicate_succ']
      exact h2.snoc (fun c o hc hn=>by rw [ae hn];exact s1 _ _ hc) (ys:=[]) (by rw [ae nra.symm,aa];rfl) nra.symm
    · rintro zs τ H2 ⟨c1,rfl,h1,h2,h3⟩
      rw [hxl] at h2
      refine cc ?_
      refine⟨fun m σ H'=>∃ (F:List (List Str)) (g:Bool) (u1 u2 u3:Option V),σ = [some (.ref p),some (.ref acc),some (.bl g),u1,u2,u3]/\eT H' acc F/\fE ps F/\(g=false->∀ k x,qX ps F k x->cA F k x)/\m=2 * (400 * 64 - total F)+(if g=true then 1 else 0)/\af H H',⟨_,List.replicate ps.length [],true,none,none,none,rfl,⟨zs,h1,h2⟩,fE.start,(fun h=>nomatch h),rfl,h3⟩,?_⟩
      rintro m σ H3 ⟨F,g,u1,u2,u3,rfl,hR,I,hc,rfl,s3⟩
      refine⟨_,rfl,_,rfl,?_⟩
      have poolF:∀ {F:List (List Str)},fE ps F->∀ (k:Nat) (xs:List Str),F[k]? = some xs->xs.Nodup/\xs.length < 64/\∀ x ∈ xs,x ∈ pool:=fun {F} I k xs h=>by
        have hn:=(I.row k xs h).2
        have hm:∀ x ∈ xs,x ∈ pool:=fun x hx=>dz ok (I.sound k x ⟨xs,h,hx⟩)
        have:=fH hn hm
        exact⟨hn,by omega,hm⟩
      have fu:∀ {F:List (List Str)},fE ps F->total F<=400 * 64:=fun {F} I=>by
        have h5:=nq F 64 fun xs hx=>by
          obtain⟨k,hk,e⟩:=List.getElem_of_mem hx
          have:=(poolF I k xs (by rw [List.getElem?_eq_getElem hk,e])).2.1
          omega
        have:=I.len
        have h6:F.length * 64<=400 * 64:=Nat.mul_le_mul_right _ (by omega)
        omega
      cases g with
      | false =>
        refine dh ?_
        refine⟨_,rfl,q acc F H3 hR I.len (fun k xs h=>⟨(I.row k xs h).1,(I.row k xs h).2,fun x=>⟨fun hx=>I.sound k x ⟨xs,h,hx⟩,fun hx=>?_⟩⟩) s3⟩
        obtain⟨ys,a,b⟩:=fE.done (hc rfl) hx
        rw [h] at a
        cases a
        exact b
      | true =>
        refine eW ?_
        refine⟨fun σ' H'=>∃ (F':List (List Str)) (g:Bool) (u1 u2 u3:Option V),σ' = [some (.ref p),some (.ref acc),some (.bl g),u1,u2,u3]/\eT H' acc F'/\fE ps F'/\(g=false->F' = F/\∀ k x,qX ps F' k x->cA F' k x)/\(g=true->total F < total F')/\af H H',fun σ' H' h=>?_,?_⟩
        · obtain⟨F',g,v1,v2,v3,rfl,a1,a2,a3,a4,a5⟩:=h
          refine⟨_,?_,F',g,v1,v2,v3,rfl,a1,a2,fun hg=>(a3 hg).2,rfl,a5⟩
          have t1:=fu a2
          have t2:=fu I
          cases g with
          | false=>rw [(a3 rfl).1];simp
          | true =>
            have:=a4 rfl
            simp only [if_true]
            omega
        refine⟨_,rfl,p,_,rfl,.inr (ar.of (s3 _ _ e1)),_,rfl,(by omega),(by omega),?_⟩
        refine fN (lo:=0) (fun i σ H'=>∃ (F':List (List Str)) (g:Bool) (u1 u2 u3:Option V),σ = [some (.ref p),some (.ref acc),some (.bl g),u1,u2,u3]/\eT H' acc F'/\fE ps F'/\(g=false->F' = F/\∀ k x,k < i->qX ps F' k x->cA F' k x)/\(g=true->total F < total F')/\total F<=total F'/\af H H') ?_ ?_ ?_
        · exact⟨F,false,_,_,_,rfl,hR,I,(fun _=>⟨rfl,fun k x h=>absurd h (Nat.not_lt_zero _)⟩),(fun h=>nomatch h),Nat.le_refl _,s3⟩
        · rintro i σ H4 hi ⟨F',g,v1,v2,v3,rfl,a1,a2,a3,a4,a5,a6⟩
          have hil:i < ps.length:=by omega
          have hpi:ps[i]? = some ps[i]:=by simp [hil]
          generalize ps[i] = pce at hpi
          obtain⟨ds,e⟩:=pce
          have hFi:F'[i]? = some (F'[i]'(by rw [a2.len];exact hil)):=List.getElem?_eq_getElem _
          generalize (F'[i]'(by rw [a2.len];exact hil))=old at hFi
          have rp4:aP H4 (.ref p) (bQ ps):=.tup (a6 _ _ e1) (rp.same a6 (aB _))
          obtain⟨p',xs',pc,da,ea,ws,ep,e1',el',hx',e2,e3,r3,e4⟩:=eX rp4 hpi
          cases ep
          rw [a6 _ _ e1] at e1'
          cases e1'
          have hx2:d0 xs (0+(i:Int))=some (V.ref pc):=by rw [Int.zero_add];exact bh hx'
          refine cc ?_
          refine⟨_,rfl,_,rfl,_,rfl,.ref p,acc,ps,F',i,ds,e,congrArg (fun z=>[V.ref p,V.int z,V.ref acc]) (Int.zero_add _),rp4,hin,hpi,a2.len,hpl,a1,(fun k xs h=>⟨(poolF a2 k xs h).1,by have:=(poolF a2 k xs h).2.1;omega⟩),fun nl ns0 H5 hnl hnn hnm nnl s5=>?_⟩
          have okd:=(ok.cS _ (List.mem_of_getElem? hpi)).2
          have hdl:ds.length<=mm:=(ok.cS _ (List.mem_of_getElem? hpi)).1
          have hask:∀ x,gO F' e x->x ∈ pool:=fun x hx=>lQ ok a2.sound (p:=(ds,e)) hpi hx
          have hwl:ws.length=ds.length:=by rw [r3.len,List.length_map]
          refine⟨_,rfl,_,rfl,p,_,_,_,rfl,rfl,ar.of (s5 _ _ (a6 _ _ e1)),hx2,pc,_,0,_,rfl,rfl,ar.of (s5 _ _ e2),di,1,rfl,-1,rfl,rfl,da,_,rfl,ar.of (s5 _ _ e3),fun rv nrv=>⟨rv,rfl,⟨_,ar.of aa⟩,?_⟩⟩
          have s6:=af.new (o:=.tup ws.reverse) nrv
          have hrv:(upd H5 rv (.tup ws.reverse)) rv=some (.tup ws.reverse):=aa
          have hnl6:=s6 _ _ hnl
          generalize (upd H5 rv (.tup ws.reverse))=H6 at s6 hrv hnl6
          refine fC (K:=K) (a:=rv) (xs:=ws.reverse) (fun j σ H'=>∃ (l:Addr) (ns:List Str) (u5:Option V),σ = [some (.ref p),some (.ref acc),some (.bl g),some (.int (0+(i:Int))),some (.ref l),u5]/\H' l=some (.lst (ns.map V.str))/\ns.Nodup/\(∀ x,x ∈ ns ↔ bD (ds.reverse.take j).reverse (gO F' e) x)/\af H6 H') ?_ ?_ ?_ ?_
          · exact⟨nl,ns0,_,rfl,hnl6,hnn,(by simpa [bD] using hnm),af.refl _⟩
          · rintro j σ H7 hj ⟨l,ns,u5,rfl,b1,b2,b3,b4⟩
            exact ar.of (b4 _ _ hrv)
          · rintro j y σ H7 hy ⟨l,ns,u5,rfl,b1,b2,b3,b4⟩
            have hj:j < ds.reverse.length:=by
              have:=(List.getElem?_eq_some_iff.mp hy).1
              rw [List.length_reverse] at this ⊢
              omega
            have hdd:ds.reverse[j]? = some ds.reverse[j]:=List.getElem?_eq_getElem hj
            generalize ds.reverse[j] = dd at hdd
            have hwr:aD H4 ws.reverse (ds.reverse.map aY):=r3.lj
            obtain⟨v,hv,rd⟩:=hwr.get (i:=j) (d:=aY dd) (by rw [List.getElem?_map,hdd];rfl)
            rw [hy] at hv
            cases hv
            obtain⟨dp,rfl,hdp0⟩:=jr rd
            have hnp:∀ x ∈ ns,x ∈ pool:=fun x hx=>gc hask (fun d' h'=>okd d' (List.mem_reverse.mp (List.mem_of_mem_take (List.mem_reverse.mp h')))) ((b3 x).mp hx)
            have hnl:=fH b2 hnp
            refine cc ?_
            refine⟨_,rfl,_,rfl,dp,l,dd,ns,rfl,b4 _ _ (s6 _ _ (s5 _ _ hdp0)),b1,b2,(by omega),fun l' ns' H8 c1 c2 c3 _ c4=>?_⟩
            refine⟨l',ns',_,rfl,c1,c2,fun x=>?_,b4.trans c4⟩
            rw [nv hdd,c3 x]
            exact⟨eD (fun z hz=>(b3 z).mp hz) dd x,eD (fun z hz=>(b3 z).mpr hz) dd x⟩
          · rintro σ H7 ⟨l,ns,u5,rfl,b1,b2,b3,b4⟩
            rw [List.length_reverse,hwl,List.take_of_length_le (by rw [List.length_reverse];exact Nat.le_refl _),List.reverse_reverse] at b3
            have hnp:∀ x ∈ ns,x ∈ pool:=fun x hx=>gc hask okd ((b3 x).mp hx)
            have hnl:=fH b2 hnp
            have s47:=(s5.trans s6).trans b4
            refine⟨_,rfl,l,ns,rfl,av.of b1,(by omega),fun l2 ys hperm hsort nl2=>?_⟩
            have s8:=af.new (o:=.lst (ys.map V.str)) nl2
            have hl2:(upd H7 l2 (.lst (ys.map V.str))) l2=some (.lst (ys.map V.str)):=aa
            generalize (upd H7 l2 (.lst (ys.map V.str)))=H8 at s8 hl2
            have s48:=s47.trans s8
            obtain⟨rvs,hrl,hRV⟩:=a1.same s48
            obtain⟨oa,ho1,ho2,ho3⟩:=hRV.2 i old hFi
            have yn:ys.Nodup:=hperm.nodup_iff.mpr b2
            have ym:∀ x,x ∈ ys ↔ bD ds (gO F' e) x:=fun x=>hperm.mem_iff.trans (b3 x)
            have yp:∀ x ∈ ys,bT x:=fun x hx=>nok x (hnp x (hperm.mem_iff.mp hx))
            have op:∀ x ∈ old,bT x:=fun x hx=>nok x ((poolF a2 i old hFi).2.2 x hx)
            refine⟨_,rfl,_,rfl,acc,_,_,_,rfl,rfl,av.of hrl,(by rw [Int.zero_add];exact bh ho1),?_⟩
            refine⟨.list (ys.map PyData.str),.list (old.map PyData.str),.lst hl2 (jW ys),.lst ho3 (jW old),ji yp,ji op,(by have:=jh ys;have:=jh old;omega),_,rfl,?_⟩
            have heq:PyData.eqv (.list (ys.map PyData.str)) (.list (old.map PyData.str))=decide (ys=old):=nu ys old
            by_cases ey:ys=old
            · refine aI (by rw [heq];simp [ey]) ?_
              refine⟨F',g,_,_,_,rfl,a1.same s48,a2,fun hg=>⟨(a3 hg).1,fun k x hk h=>?_⟩,a4,a5,a6.trans s48⟩
              by_cases e':k=i
              · subst e'
                obtain⟨pe,g1,g2⟩:=h
                rw [hpi] at g1
                cases g1
                exact⟨old,hFi,ey ▸ (ym x).mpr g2⟩
              · exact (a3 hg).2 k x (by omega) h
            · refine aZ (by rw [heq];simp [ey]) ?_
              refine⟨_,rfl,l,ns,rfl,av.of (s8 _ _ b1),(by omega),fun l3 zs hperm3 hsort3 nl3=>?_⟩
              have ez:zs=ys:=jJ.unique ⟨e7 hsort3,hperm3.nodup_iff.mpr b2⟩ ⟨e7 hsort,yn⟩ fun x=>hperm3.mem_iff.trans hperm.mem_iff.symm
              subst ez
              have s9:=af.new (o:=.lst (zs.map V.str)) nl3
              have hl3:(upd H8 l3 (.lst (zs.map V.str))) l3=some (.lst (zs.map V.str)):=aa
              generalize (upd H8 l3 (.lst (zs.map V.str)))=H9 at s9 hl3
              have hac:l3 ≠ acc:=fun z=>by rw [z,hrl] at nl3;cases nl3
              have hrl9:=s9 _ _ hrl
              have hRV9:gW H9 acc rvs F':=⟨hRV.1,fun i xs hx=>by obtain⟨a,c1,c2,c3⟩:=hRV.2 i xs hx;exact⟨a,c1,c2,s9 _ _ c3⟩⟩
              have hiF:i < F'.length:=by rw [a2.len];exact hil
              obtain⟨I',tI⟩:=a2.set hFi hpi hsort3 yn ym
              have tI:=tI ey
              refine⟨_,rfl,_,rfl,acc,_,_,i,rfl,rfl,hrl9,(by rw [Int.zero_add];exact vX (by rw [hRV.1];exact hiF)),?_⟩
              refine⟨F'.set i zs,true,_,_,_,rfl,hRV9.put hiF hl3 hac,I',(fun h=>nomatch h),(fun _=>by omega),(by omega),((a6.trans s48).trans s9).put na⟩
        · rintro σ H4 ⟨F',g,v1,v2,v3,rfl,a1,a2,a3,a4,a5,a6⟩
          refine⟨F',g,v1,v2,v3,rfl,a1,a2,fun hg=>⟨(a3 hg).1,fun k x h=>(a3 hg).2 k x ?_ h⟩,a4,a6⟩
          obtain⟨pe,h,_⟩:=h
          have:=(List.getElem?_eq_some_iff.mp h).1
          omega
theorem j1 {f:Addr} {fd:FuncData} (F:dg K "_law_wide_plan" "_law_wide_plan" cu f fd) (Z:Bl mg) (O_law_take:Own P w K mg base "_law_take" 1 ["bag", "many"] eQ) (O_law_deed:Own P w K mg base "_law_deed" 3 ["bag", "names"] kh) (O_law_end:Own P w K mg base "_law_end" 3 ["bag", "names", "count"] ki):bI P w K mg base cQ 4 f fd ["bag", "count"] jX:=by
  refine F.ok (k:=3) bu (fun vs H Q E h=>?_) (fun cdv A outer s H vs Q E hr h=>?_)
  · obtain⟨b,c,rfl,_⟩:=h
    rfl
  · obtain⟨b,c,rfl,hB,c0,c1,q⟩:=h
    refine⟨_,(ah (aF (i:=2) bu.nd rfl (Or.inl rfl) aM)
      (ah (aF (i:=3) bu.nd rfl (Or.inl rfl) (ay O_law_take (hr.mono (by decide)) rfl (U (pv 0) (U ai ab))))
      (ah (aF (i:=4) bu.nd rfl (Or.inr rfl) (bE ab))
      (ah (cJ PassesOwn.never rfl (cO rfl Z.range (U (aN df ai (ay O_law_take (hr.mono (by decide)) rfl (U (pv 0) (U ai ab)))) ab)) (aC (i:=5) bu.nd rfl (Or.inl rfl))
      (ah (aF (i:=6) bu.nd rfl (Or.inl rfl) (aJ kb (pv 2) (aN fi (aN df (aN gy ai (pv 5)) (pv 3)) ai) (fun _ _=>rfl)))
      (ao (bJ (cW PySem.F.plainAttrs_list PySem.F.slot_list_append PySem.F.type_list_append bK (pv 4) (U (aN o6 (pv 6) (aN uD (aJ kb (pv 2) (aN kN (pv 5) ai) (fun _ _=>rfl)) (aN df ai (aN fi (pv 5) ai)))) ab))))))
      (ah (aF (i:=7) bu.nd rfl (Or.inl rfl) (bE ab))
      (ah (cJ PassesOwn.never rfl (cO rfl Z.range (U (pv 1) ab)) (aC (i:=5) bu.nd rfl (Or.inl rfl))
      (ah (aF (i:=8) bu.nd rfl (Or.inl rfl) (bF bw rfl Z.tuple cK (U (cL ["j"] ["bag", "names"] [0,4] rfl (cO rfl Z.range (U (ay O_law_take (hr.mono (by decide)) rfl (U (pv 0) (U ai ab))) ab)) rfl (by decide +kernel) (by decide +kernel) (by decide +kernel) ⟨⟨rfl,.inl rfl,rfl⟩,⟨⟨rfl,.inl rfl,rfl⟩,True.intro⟩⟩ (fun _ _ _ _=>(aC (i:=0) (show ((["j"]:List Str)++(["bag", "names"]:List Str)).Nodup by decide +kernel) rfl (Or.inl rfl) (hf:=Or.inr rfl))) (fun _ _ _ _=>cE) (fun _ _ _ _=>(ay O_law_deed (hr.mono (by decide)) rfl (U (pv 1) (U (pv 2) ab))))) ab)))
      (ao (bJ (cW PySem.F.plainAttrs_list PySem.F.slot_list_append PySem.F.type_list_append bK (pv 7) (U (bY (U (pv 8) (U (ay O_law_end (hr.mono (by decide)) rfl (U (pv 0) (U (pv 4) (U (pv 1) ab)))) ab))) ab))))))
      (ao (aS (bF bw rfl Z.tuple cK (U (pv 7) ab)))))))))),?_⟩
    refine⟨_,rfl,b,26,rfl,hB,⟨by decide,by decide +kernel⟩,fun sh H1 sh0 sh1 B1 X1=>?_⟩
    refine⟨(by show 0<=sizeLine;decide),fun l nn=>?_⟩
    have hlb:l ≠ b:=B1.dG nn
    refine⟨_,rfl,b,41,rfl,B1.new nn,⟨by decide,by decide +kernel⟩,fun mm H2 mm0 mm1 B2 X2=>⟨_,_,rfl,rfl,?_⟩⟩
    have hl2:H2 l=some (.lst []):=X2 l _ aa hlb
    have F2:Fix b H H2:=(X1.trans (Fix.new nn)).trans X2
    have nnl:∀ d o,H d=some o->d ≠ b->d ≠ l:=fun d o hd nd z=>by
      have:=X1 d o hd nd
      rw [z,nn] at this;cases this
    refine⟨_,rfl,(by omega),(by omega),fN (lo:=0) (fun i σ H'=>∃ (u1 u2 u3 u4:Option V) (xs:List Str),σ = [some (.ref b),some (.int c),some (.str ia),some (.int sh),some (.ref l),u1,u2,u3,u4]/\H' l=some (.lst (xs.map V.str))/\xs.length=i/\(∀ x ∈ xs,bT x)/\bM H' b/\Fix b H H') ?_ ?_ ?_⟩
    · exact⟨_,_,_,_,[],rfl,hl2,rfl,(fun _ h=>nomatch h),B2,F2⟩
    · rintro i σ H3 hi ⟨u1,u2,u3,u4,xs,rfl,h1,h2,h3,B3,X3⟩
      refine cc ?_
      obtain⟨ca,hat,ca0,ca1⟩:=kj (r:=(7 * (0+(i:Int))+sh) % 26) (Int.emod_nonneg _ (by decide)) (Int.emod_lt_of_pos _ (by decide))
      obtain⟨cb,hbt,cb0,cb1⟩:=kj (r:=(0+(i:Int)) / 26) (by omega) (by omega)
      obtain⟨mk,ml,nk⟩:=sM (c0:=ca) (c:=cb) (n:=1+(0+(i:Int)) % 4) ⟨ca0,ca1⟩ ⟨cb0,cb1⟩ (by omega) (by omega)
      refine⟨_,rfl,_,rfl,_,_,rfl,rfl,.inl ⟨by decide,by decide⟩,_,rfl,_,_,rfl,rfl,_,_,rfl,rfl,(show (0:Int) < 26 by decide),ia,_,ca,rfl,rfl,jn,hat,?_⟩
      refine⟨_,rfl,.inl ⟨rfl,_,av.of h1⟩,_,rfl,_,rfl,_,rfl,_,_,rfl,rfl,⟨by decide,by decide⟩,ia,_,cb,rfl,rfl,jn,hbt,_,rfl,_,_,rfl,rfl,(show (0:Int) < 4 by decide),_,_,rfl,rfl,_,_,rfl,rfl,mk,_,_,rfl,rfl,?_,l,_,_,rfl,rfl,h1,?_,?_⟩
      · have:(⟨#[ca]⟩:Str).length=1:=rfl
        rw [this]
        exact Nat.le_of_lt (bZ (by omega))
      · rw [List.length_map]
        exact bZ (by omega)
      refine⟨_,_,_,_,xs ++ [_],rfl,(by rw [aa,List.map_append];rfl),(by rw [List.length_append,h2];rfl),?_,B3.put hlb.symm,?_⟩
      · intro x hxm
        rcases List.mem_append.mp hxm with hxm | hxm
        · exact h3 x hxm
        · rw [List.mem_singleton.mp hxm];exact nk
      · intro d o hd nd
        rw [ae (nnl d o hd nd)]
        exact X3 d o hd nd
    · rintro σ H3 ⟨u1,u2,u3,u4,xs,rfl,h1,h2,h3,B3,X3⟩
      have N3:dm H3 b l xs:=⟨h1,hlb,(by intro z;rw [z] at h2;simp at h2;omega),(by omega),h3⟩
      have x4:xs.length<=60:=by omega
      refine⟨(by show 0<=sizeLine;decide),fun pl pn=>?_⟩
      have hpb:pl ≠ b:=B3.dG pn
      refine⟨_,rfl,_,rfl,(by omega),(by omega),fN (lo:=0) (fun i σ H'=>∃ (u1 u2 u3:Option V) (ps:List Piece) (vs:List V),σ = [some (.ref b),some (.int c),some (.str ia),some (.int sh),some (.ref l),u1,u2,some (.ref pl),u3] /\
        H' pl=some (.lst vs)/\aD H' vs (ps.map bP)/\ps.length=i/\(∀ p ∈ ps,(p.1.length<=4/\∀ d ∈ p.1,d8 xs d)/\kg xs c p.2)/\dm H' b l xs/\bM H' b/\Fix b H H'/\(∀ d o,H3 d=some o->d ≠ b->H' d=some o)) ?_ ?_ ?_⟩
      · exact⟨_,_,_,[],[],rfl,aa,.nil,rfl,(fun _ h=>nomatch h),N3.fix (Fix.new pn),B3.new pn,X3.trans (Fix.new pn),Fix.new pn⟩
      · rintro i σ H' hi ⟨v1,v2,v3,ps,vs,rfl,hp,hr,hl,aA,N',B',X',Y'⟩
        refine cc ?_
        refine⟨_,rfl,b,5,rfl,B',⟨by decide,by decide +kernel⟩,fun k H4 k0 k1 B4 X4=>?_⟩
        have N4:=N'.fix X4
        have hp4:H4 pl=some (.lst vs):=X4 pl _ hp hpb
        have hr4:aD H4 vs (ps.map bP):=hr.fix B' X4 (aB ps)
        refine⟨_,rfl,(by omega),(by omega),fun acc na=>?_⟩
        have hab:acc ≠ b:=B4.dG na
        refine iu (lo:=0) (fun i ys τ H'=>∃ (v:Option V) (ds:List aG),τ = [v,some (.ref b),some (.ref l)]/\aD H' ys (ds.map aY)/\ds.length=i/\(∀ d ∈ ds,d8 xs d)/\H' acc=some (.lst ys)/\bM H' b/\Fix b H4 H') ?_ ?_ ?_ ?_
        · exact⟨none,[],rfl,.nil,rfl,(fun _ h=>nomatch h),aa,B4.new na,Fix.new na⟩
        · rintro i' ys τ H5 hi' ⟨v,ds,rfl,rds,hl',_,ha,_⟩
          refine⟨ha,?_⟩
          rw [rds.len,List.length_map]
          exact bZ (by omega)
        · rintro i' ys τ H5 hi' ⟨v,ds,rfl,rds,hl',hdk,ha,B5,X5⟩
          refine cc ?_
          refine pD ?_
          refine eW ?_
          refine⟨_,rfl,_,rfl,b,l,xs,rfl,B5,N4.fix X5,fun dv d H6 rd dk B6 X6=>?_⟩
          have ha6:=X6 acc _ ha hab
          refine⟨ha6,_,ds ++ [d],rfl,?_,(by rw [List.length_append,hl'];rfl),?_,aa,?_,?_⟩
          · rw [List.map_append]
            refine aD.app ((rds.fix B5 X6 (aO ds)).put ha6 (aO ds)) ?_
            exact rd.cv (fun p zs e=>by rw [ae (bS e ha6 (by intro z;cases z))];exact e) (gY d)
          · intro d' hd
            rcases List.mem_append.mp hd with hd | hd
            · exact hdk d' hd
            · rw [List.mem_singleton.mp hd];exact dk
          · obtain⟨x,y,e,z⟩:=B6
            exact⟨x,y,by rw [ae hab.symm];exact e,z⟩
          · intro d' o hd nd
            rw [ae (aK hd na)]
            exact (X5.trans X6) d' o hd nd
        · rintro ys τ H5 ⟨v,ds,rfl,rds,hl',hdk,ha,B5,X5⟩
          refine⟨acc,ys,rfl,.inl ⟨av.of ha,fun tp tn=>?_⟩⟩
          have S5:=af.new (o:=.tup ys) tn
          have htp:(upd H5 tp (.tup ys)) tp=some (.tup ys):=aa
          have rds5:=rds.same S5 (aO ds)
          have B5':=B5.same S5
          have X45:Fix b H4 (upd H5 tp (.tup ys)):=X5.trans (Fix.of_same S5)
          generalize (upd H5 tp (.tup ys))=H6 at S5 htp rds5 B5' X45
          have hp6:=X45 pl _ hp4 hpb
          refine⟨_,rfl,.inl ⟨rfl,_,av.of hp6⟩,_,rfl,_,rfl,_,rfl,_,rfl,b,l,xs,c,rfl,B5',N4.fix X45,c0,(by omega),fun ev e H7 re ek B7 X7=>⟨ln2,fun pc pcn=>?_⟩⟩
          have S7:=af.new (o:=.tup [.ref tp,ev]) pcn
          have hp7:(upd H7 pc (.tup [.ref tp,ev])) pl=some (.lst vs):=S7 _ _ (X7 pl _ hp6 hpb)
          have htpb:tp ≠ b:=B5'.mC htp
          refine⟨pl,_,_,rfl,rfl,hp7,?_,?_⟩
          · rw [hr.len,List.length_map,hl]
            exact bZ (by omega)
          have hpiece:aP (upd H7 pc (.tup [.ref tp,ev])) (.ref pc) (bP (ds,e)) :=
            .tup aa (.cons (.tup (S7 _ _ (X7 _ _ htp htpb)) ((rds5.fix B5' X7 (aO ds)).same S7 (aO ds))) (.cons (re.same S7 (fY e)) .nil))
          have X47:Fix b H4 (upd H7 pc (.tup [.ref tp,ev])):=(X45.trans X7).trans (Fix.of_same S7)
          have F7:Fix b H (upd H7 pc (.tup [.ref tp,ev])):=(X'.trans X4).trans X47
          have plH:∀ d o,H3 d=some o->d ≠ b->d ≠ pl:=fun d o hd nd z=>by rw [z,pn] at hd;cases hd
          have N7:=N4.fix X47
          refine⟨_,_,_,ps ++ [(ds,e)],vs ++ [.ref pc],rfl,aa,?_,(by rw [List.length_append,hl];rfl),?_,?_,?_,?_,?_⟩
          · rw [List.map_append]
            refine aD.app ((hr4.fix B4 X47 (aB ps)).put hp7 (aB ps)) ?_
            exact hpiece.cv (fun p zs e=>by rw [ae (bS e hp7 (by intro z;cases z))];exact e) (gI (ds,e))
          · intro p hpm
            rcases List.mem_append.mp hpm with hpm | hpm
            · exact aA p hpm
            · rw [List.mem_singleton.mp hpm]
              exact⟨⟨by show ds.length<=4;omega,hdk⟩,ek⟩
          · have hll:l ≠ pl:=fun z=>by
              have:=N3.at_
              rw [z,pn] at this
              cases this
            exact⟨by rw [ae hll];exact N7.at_,N7.ne,N7.lY,N7.du,N7.ok⟩
          · obtain⟨x,y,e',z⟩:=B7.same S7
            exact⟨x,y,by rw [ae hpb.symm];exact e',z⟩
          · intro d o hd nd
            rw [ae (plH d o (X3 d o hd nd) nd)]
            exact F7 d o hd nd
          · intro d o hd nd
            rw [ae (plH d o hd nd)]
            exact X47 d o (X4 d o (Y' d o hd nd) nd) nd
      · rintro σ H' ⟨v1,v2,v3,ps,vs,rfl,hp,hr,hl,aA,N',B',X',Y'⟩
        have hl':ps.length=c:=by rw [hl];omega
        refine⟨_,rfl,pl,_,rfl,.inl ⟨av.of hp,fun tp tn=>?_⟩⟩
        refine q (.ref tp) xs ps _ (.tup aa (hr.same (af.new tn) (aB ps))) hl' ⟨fun p hpm=>(aA p hpm).1,fun p hpm=>?_⟩ ⟨N'.ok,x4⟩ (B'.new tn) (X'.trans (Fix.new tn))
        rw [hl']
        exact (aA p hpm).2
theorem nX {f:Addr} {fd:FuncData} (F:dg K "_law_kept" "_law_kept" eN f fd) (Z:Bl mg) (O_law_behind_all:Own P w K mg base "_law_behind_all" 1 ["plan", "piece", "rows"] fJ) (O_law_ahead:Own P w K mg base "_law_ahead" 1 ["deed", "names"] jw):bI P w K mg base cQ 3 f fd ["plan", "piece", "rows"] nA:=by
  refine F.ok (k:=2) eU (fun vs H Q E h=>?_) (fun cdv A outer s H vs Q E hr h=>?_)
  · obtain⟨plv,rl,ps,F,k,ds,e,pool,mm,rfl,_⟩:=h
    rfl
  · obtain⟨plv,rl,ps,F,k,ds,e,pool,mm,rfl,hp,ok,hmm,h64,hpl,hpk,hR,hF,q⟩:=h
    refine⟨_,(ah (aF (i:=3) eU.nd rfl (Or.inl rfl) (ay O_law_behind_all (hr.mono (by decide)) rfl (U (pv 0) (U (pv 1) (U (pv 2) ab)))))
      (ah (aF (i:=4) eU.nd rfl (Or.inl rfl) (bE ab))
      (ah (cJ PassesOwn.never rfl (eO (oT (aJ bo (aJ bo (pv 0) (pv 1) (fun _ _=>rfl)) ai (fun _ _=>rfl)) (gg (lW j8 ai)))) (aC (i:=5) eU.nd rfl (Or.inl rfl))
      (ah (mF (bL (PW.pt (oY (aL eZ (aJ bo (pv 5) ai (fun _ _=>rfl)) (bE (U aM (U aM ab))) (by with_unfolding_all rfl)) (mi (aL eZ (aJ bo (pv 5) ai (fun _ _=>rfl)) (pv 3) (by with_unfolding_all rfl)))))
      (ao (bJ (cW PySem.F.plainAttrs_list PySem.F.slot_list_append PySem.F.type_list_append bK (pv 4) (U (pv 5) ab))))
      bp))
      (ao (aF (i:=3) eU.nd rfl (Or.inl rfl) (ay O_law_ahead (hr.mono (by decide)) rfl (U (pv 5) (U (pv 3) ab)))))))
      (ao (aS (bF bw rfl Z.tuple cK (U (oP (pv 4) (gg (lW j8 ai))) ab))))))),?_⟩
    have hin:=ok.i9
    obtain⟨p',xs',pc,da,ea,ws,ep,e1,el,hx,e2,e3,r3,e4⟩:=eX hp hpk
    subst ep
    have okd:=(ok.cS _ (List.mem_of_getElem? hpk)).2
    have hdl:ds.length<=mm:=(ok.cS _ (List.mem_of_getElem? hpk)).1
    have hwl:ws.length=ds.length:=by rw [r3.len,List.length_map]
    refine⟨_,rfl,_,rfl,_,rfl,.ref p',rl,ps,F,k,ds,e,rfl,hp,hin,hpk,hF.1,hpl,hR,(fun k xs h=>⟨(hF.2 k xs h).2.1,by have:=fH (hF.2 k xs h).2.1 (fun x hx=>dz ok (((hF.2 k xs h).2.2 x).mp hx));omega⟩),fun nl ns0 H1 hnl hnn hnm nnl s1=>?_⟩
    have hA:∀ x,x ∈ ns0 ↔ eC ps e x:=fun x=>(hnm x).trans (hF.ask hin hpk x)
    have hask:∀ x,x ∈ ns0->x ∈ pool:=fun x hx=>lQ ok (fun k x ⟨xs,a,b⟩=>((hF.2 k xs a).2.2 x).mp b) (p:=(ds,e)) hpk ((hnm x).mp hx)
    refine⟨(by show 0<=sizeLine;decide),fun ka nka=>?_⟩
    have s2:=af.new (o:=.lst []) nka
    have hka2:(upd H1 ka (.lst [])) ka=some (.lst []):=aa
    have hnl2:=s2 _ _ hnl
    have nkl:nl ≠ ka:=aK hnl nka
    have nka0:H ka=none:=s1.free nka
    have s12:=s1.trans s2
    generalize (upd H1 ka (.lst []))=H2 at s2 hka2 hnl2 s12
    refine⟨_,rfl,_,rfl,p',_,_,_,rfl,rfl,ar.of (s12 _ _ e1),bh hx,pc,_,0,_,rfl,rfl,ar.of (s12 _ _ e2),di,1,rfl,-1,rfl,rfl,da,_,rfl,ar.of (s12 _ _ e3),fun rv nrv=>⟨rv,rfl,⟨_,ar.of aa⟩,?_⟩⟩
    have s6:=af.new (o:=.tup ws.reverse) nrv
    have hrv:(upd H2 rv (.tup ws.reverse)) rv=some (.tup ws.reverse):=aa
    have hnl6:=s6 _ _ hnl2
    have hka6:=s6 _ _ hka2
    have s06:=s12.trans s6
    have nrk:rv ≠ ka:=bS hrv hka6 (by intro z;cases z)
    generalize (upd H2 rv (.tup ws.reverse))=H6 at s6 hrv hnl6 hka6 s06
    refine fC (K:=K) (a:=rv) (xs:=ws.reverse) (fun j σ H'=>∃ (l:Addr) (ns:List Str) (us:List V) (u5:Option V),σ = [some (.ref p'),some (.int (k:Nat)),some (.ref rl),some (.ref l),some (.ref ka),u5]/\l ≠ ka/\H' l=some (.lst (ns.map V.str))/\ns.Nodup/\(∀ x,x ∈ ns ↔ bD (ds.reverse.take j).reverse (fun x=>x ∈ ns0) x)/\H' ka=some (.lst us)/\us.length<=j/\aD H us ((fb (fun x=>decide (x ∈ ns0)) (ds.reverse.take j)).1.map aY)/\H' rv=some (.tup ws.reverse)/\af H H') ?_ ?_ ?_ ?_
    · exact⟨nl,ns0,[],_,rfl,nkl,hnl6,hnn,(fun x=>Iff.rfl),hka6,Nat.le_refl _,.nil,hrv,s06⟩
    · rintro j σ H7 hj ⟨l,ns,us,u5,rfl,b0,b1,b2,b3,b4,b5,b6,b7,b8⟩
      exact ar.of b7
    · rintro j y σ H7 hy ⟨l,ns,us,u5,rfl,b0,b1,b2,b3,b4,b5,b6,b7,b8⟩
      have hj:j < ds.reverse.length:=by
        have:=(List.getElem?_eq_some_iff.mp hy).1
        rw [List.length_reverse] at this ⊢
        omega
      have hj5:j < 500:=by rw [List.length_reverse] at hj;omega
      have hdd:ds.reverse[j]? = some ds.reverse[j]:=List.getElem?_eq_getElem hj
      generalize ds.reverse[j] = dd at hdd
      have hwr:aD H ws.reverse (ds.reverse.map aY):=r3.lj
      obtain⟨v,hv,rd⟩:=hwr.get (i:=j) (d:=aY dd) (by rw [List.getElem?_map,hdd];rfl)
      rw [hy] at hv
      cases hv
      obtain⟨dp,rfl,hdp0⟩:=jr rd
      have hdp:=b8 _ _ hdp0
      have hnp:∀ x ∈ ns,x ∈ pool:=fun x hx=>gc hask (fun d' h'=>okd d' (List.mem_reverse.mp (List.mem_of_mem_take (List.mem_reverse.mp h')))) ((b3 x).mp hx)
      have hnl:=fH b2 hnp
      have hS2:∀ x,(fb (fun x=>decide (x ∈ ns0)) (ds.reverse.take j)).2 x=true ↔ x ∈ ns:=fun x=>by
        have h:=iI (fun x=>decide (x ∈ ns0)) (ds.reverse.take j).reverse x
        unfold cZ at h
        rw [List.reverse_reverse] at h
        refine h.trans ((b3 x).trans ?_).symm
        have e:(fun x=>decide (x ∈ ns0)=true)=fun x=>x ∈ ns0:=funext fun x=>propext decide_eq_true_iff
        rw [e]
      have ht:=ng (f:=fun x=>decide (x ∈ ns0)) hdd
      generalize fb (fun x=>decide (x ∈ ns0)) (ds.reverse.take j)=S at b6 hS2 ht
      refine cc ?_
      refine⟨fun σ' H'=>∃ (us':List V),σ' = [some (.ref p'),some (.int (k:Nat)),some (.ref rl),some (.ref l),some (.ref ka),some (.ref dp)]/\H' l=some (.lst (ns.map V.str))/\H' ka=some (.lst us')/\us'.length<=j+1/\aD H us' ((L2.spS S dd).1.map aY)/\H' rv=some (.tup ws.reverse)/\af H H',?_,?_⟩
      · have e0:d0 (kr dd) 0=some (V.str (wD dd)):=by cases dd <;> exact di
        refine⟨_,rfl,dp,_,0,_,rfl,rfl,ar.of hdp,e0,ln2,fun p np=>?_⟩
        have s73:=af.new (o:=.lst [.str "read",.str "tell"]) np
        refine⟨p,_,rfl,.inl (av.of aa),rfl,rfl,_,rfl,?_⟩
        have hka3:=s73 _ _ b4
        have hl3:=s73 _ _ b1
        have hdp3:=s73 _ _ hdp
        have yes:∀ {H3:Hp},cY S.2 dd=true->af H7 H3->∃ (us':List V),([some (.ref p'),some (.int (k:Nat)),some (.ref rl),some (.ref l),some (.ref ka),some (.ref dp)]:List (Option V)) = [some (.ref p'),some (.int (k:Nat)),some (.ref rl),some (.ref l),some (.ref ka),some (.ref dp)]/\(upd H3 ka (.lst (us ++ [.ref dp]))) l=some (.lst (ns.map V.str))/\(upd H3 ka (.lst (us ++ [.ref dp]))) ka=some (.lst us')/\us'.length<=j+1/\aD H us' ((L2.spS S dd).1.map aY)/\(upd H3 ka (.lst (us ++ [.ref dp]))) rv=some (.tup ws.reverse)/\af H (upd H3 ka (.lst (us ++ [.ref dp]))):=fun {H3} hk s=>by
          refine⟨us ++ [.ref dp],rfl,(by rw [ae b0];exact s _ _ b1),aa,(by rw [List.length_append];exact Nat.succ_le_succ b5),?_,(by rw [ae nrk];exact s _ _ b7),(b8.trans s).put nka0⟩
          unfold L2.spS
          rw [if_pos hk,List.map_append]
          exact b6.app rd
        have nope:∀ {H3:Hp},¬ cY S.2 dd=true->af H7 H3->∃ (us':List V),([some (.ref p'),some (.int (k:Nat)),some (.ref rl),some (.ref l),some (.ref ka),some (.ref dp)]:List (Option V)) = [some (.ref p'),some (.int (k:Nat)),some (.ref rl),some (.ref l),some (.ref ka),some (.ref dp)]/\H3 l=some (.lst (ns.map V.str))/\H3 ka=some (.lst us')/\us'.length<=j+1/\aD H us' ((L2.spS S dd).1.map aY)/\H3 rv=some (.tup ws.reverse)/\af H H3:=fun {H3} hk s=>by
          refine⟨us,rfl,s _ _ b1,s _ _ b4,Nat.le_succ_of_le b5,?_,s _ _ b7,b8.trans s⟩
          unfold L2.spS
          rw [if_neg hk]
          exact b6
        generalize (upd H7 p (.lst [.str "read",.str "tell"]))=H3 at s73 hka3 hl3 hdp3 ⊢
        cases dd with
        | read x =>
          refine aZ (show dD (V.str "read") [V.str "read",V.str "tell"] = true by decide +kernel) (eW ?_)
          refine⟨_,rfl,.inl ⟨rfl,_,av.of hka3⟩,_,rfl,ka,_,_,rfl,rfl,hka3,aw (by omega),?_⟩
          refine yes ?_ s73
          rfl
        | tell x =>
          refine aZ (show dD (V.str "tell") [V.str "read",V.str "tell"] = true by decide +kernel) (eW ?_)
          refine⟨_,rfl,.inl ⟨rfl,_,av.of hka3⟩,_,rfl,ka,_,_,rfl,rfl,hka3,aw (by omega),?_⟩
          refine yes ?_ s73
          rfl
        | put x n =>
          refine aI (show dD (V.str "put") [V.str "read",V.str "tell"] = false by decide +kernel) ?_
          refine⟨_,rfl,dp,_,1,_,rfl,rfl,ar.of hdp3,dE,_,rfl,l,_,rfl,.inl (av.of hl3),rfl,dA ns,_,rfl,?_⟩
          refine fj (fun hc=>?_) (fun hc=>?_)
          · refine⟨_,rfl,.inl ⟨rfl,_,av.of hka3⟩,_,rfl,ka,_,_,rfl,rfl,hka3,aw (by omega),?_⟩
            refine yes ?_ s73
            have hc:dD (V.str x) (ns.map V.str)=true:=hc
            rw [cG] at hc
            exact (hS2 x).mpr (of_decide_eq_true hc)
          · refine nope ?_ s73
            have hc:¬ dD (V.str x) (ns.map V.str)=true:=hc
            rw [cG] at hc
            exact fun z=>hc (decide_eq_true ((hS2 x).mp z))
        | copy x y =>
          refine aI (show dD (V.str "copy") [V.str "read",V.str "tell"] = false by decide +kernel) ?_
          refine⟨_,rfl,dp,_,1,_,rfl,rfl,ar.of hdp3,dE,_,rfl,l,_,rfl,.inl (av.of hl3),rfl,dA ns,_,rfl,?_⟩
          refine fj (fun hc=>?_) (fun hc=>?_)
          · refine⟨_,rfl,.inl ⟨rfl,_,av.of hka3⟩,_,rfl,ka,_,_,rfl,rfl,hka3,aw (by omega),?_⟩
            refine yes ?_ s73
            have hc:dD (V.str x) (ns.map V.str)=true:=hc
            rw [cG] at hc
            exact (hS2 x).mpr (of_decide_eq_true hc)
          · refine nope ?_ s73
            have hc:¬ dD (V.str x) (ns.map V.str)=true:=hc
            rw [cG] at hc
            exact fun z=>hc (decide_eq_true ((hS2 x).mp z))
        | add x n =>
          refine aI (show dD (V.str "add") [V.str "read",V.str "tell"] = false by decide +kernel) ?_
          refine⟨_,rfl,dp,_,1,_,rfl,rfl,ar.of hdp3,dE,_,rfl,l,_,rfl,.inl (av.of hl3),rfl,dA ns,_,rfl,?_⟩
          refine fj (fun hc=>?_) (fun hc=>?_)
          · refine⟨_,rfl,.inl ⟨rfl,_,av.of hka3⟩,_,rfl,ka,_,_,rfl,rfl,hka3,aw (by omega),?_⟩
            refine yes ?_ s73
            have hc:dD (V.str x) (ns.map V.str)=true:=hc
            rw [cG] at hc
            exact (hS2 x).mpr (of_decide_eq_true hc)
          · refine nope ?_ s73
            have hc:¬ dD (V.str x) (ns.map V.str)=true:=hc
            rw [cG] at hc
            exact fun z=>hc (decide_eq_true ((hS2 x).mp z))
      rintro σ' H8 ⟨us',rfl,d1,d2,d3,d4,d5,d6⟩
      refine⟨_,rfl,_,rfl,dp,l,dd,ns,rfl,d6 _ _ hdp0,d1,b2,(by omega),fun l' ns' H9 c1 c2 c3 cf c4=>?_⟩
      refine⟨l',ns',us',_,rfl,?_,c1,c2,fun x=>?_,c4 _ _ d2,d3,(by rw [ht];exact d4),c4 _ _ d5,d6.trans c4⟩
      · rcases cf with z | z
        · rw [z];exact b0
        · exact fun w=>by rw [w,d2] at z;cases z
      · rw [nv hdd,c3 x]
        exact⟨eD (fun z hz=>(b3 z).mp hz) dd x,eD (fun z hz=>(b3 z).mpr hz) dd x⟩
    · rintro σ H7 ⟨l,ns,us,u5,rfl,b0,b1,b2,b3,b4,b5,b6,b7,b8⟩
      rw [List.length_reverse,hwl,List.take_of_length_le (by rw [List.length_reverse];exact Nat.le_refl _)] at b6
      refine⟨_,rfl,1,rfl,-1,rfl,rfl,ka,_,rfl,av.of b4,fun p np=>⟨p,_,rfl,.inl ⟨av.of aa,fun t nt=>?_⟩⟩⟩
      have sl:=(af.new (o:=.lst us.reverse) np).trans (af.new (o:=.tup us.reverse) nt)
      refine q t us.reverse (fun x=>decide (x ∈ ns0)) _ aa ?_ (fun x=>decide_eq_true_iff.trans (hA x)) (b8.trans sl)
      unfold aU
      exact (aD.lj b6).same (b8.trans sl) (aO _)
theorem vY {f:Addr} {fd:FuncData} (F:dg K "law" "law" gf f fd) (Z:Bl mg) (O_law_bag:Own P w K mg base "_law_bag" 1 ["script", "k"] (pC K)) (O_law_take:Own P w K mg base "_law_take" 1 ["bag", "many"] eQ) (O_law_plan:Own P w K mg base "_law_plan" 4 ["bag", "count", "most"] mI) (O_law_count:Own P w K mg base "_law_count" 2 ["bag", "most"] kT) (O_law_wide_plan:Own P w K mg base "_law_wide_plan" 4 ["bag", "count"] jX) (O_law_live:Own P w K mg base "_law_live" 5 ["plan"] iK) (O_law_kept:Own P w K mg base "_law_kept" 3 ["plan", "piece", "rows"] nA) (O_live:Own P w K mg base "live" 5 ["plan"] kJ) (O_spare:Own P w K mg base "spare" 7 ["plan"] ll):bI P w K mg base cQ 9 f fd ["script"] (lX K):=by
  refine F.ok (k:=8) gP (fun vs H Q E h=>?_) (fun cdv A outer s H vs Q E hr h=>?_)
  · obtain⟨a,ns,rfl,_⟩:=h
    rfl
  · obtain⟨a,ns,rfl,hS,hlen,q⟩:=h
    refine⟨_,(ah (aF (i:=1) gP.nd rfl (Or.inl rfl) (ay O_law_bag (hr.mono (by decide)) rfl (U (pv 0) (U ai ab))))
      (ah (aF (i:=2) gP.nd rfl (Or.inl rfl) (jm cP (ay O_law_take (hr.mono (by decide)) rfl (U (pv 1) (U ai ab))) ai (bc _)))
      (ah (aF (i:=3) gP.nd rfl (Or.inr rfl) (ay O_law_plan (hr.mono (by decide)) rfl (U (pv 1) (U (aJ bt (bE (U (ay O_law_count (hr.mono (by decide)) rfl (U (pv 1) (U ai ab))) (U ai ab))) (bF lB rfl Z.int qp (U (pv 2) ab)) (fun _ _=>rfl)) (U (aJ bt (bE (U ai (U ai ab))) (bF lB rfl Z.int qp (U (pv 2) ab)) (fun _ _=>rfl)) ab)))))
      (ah (mF (bL (aL cP (ay O_law_take (hr.mono (by decide)) rfl (U (pv 1) (U ai ab))) ai (bc _))
      (ao (aF (i:=3) gP.nd rfl (Or.inr rfl) (ay O_law_wide_plan (hr.mono (by decide)) rfl (U (pv 1) (U (aN df ai (ay O_law_take (hr.mono (by decide)) rfl (U (pv 1) (U ai ab)))) ab)))))
      bp))
      (ah (aF (i:=4) gP.nd rfl (Or.inr rfl) (ay O_law_live (hr.mono (by decide)) rfl (U (pv 3) ab)))
      (ah (aF (i:=5) gP.nd rfl (Or.inl rfl) (bF bw rfl Z.tuple cK (U (cL ["piece"] ["plan", "rows"] [3,4] rfl (cO rfl Z.range (U (bU bO rfl Z.len fm (U (pv 3) ab)) ab)) rfl (by decide +kernel) (by decide +kernel) (by decide +kernel) ⟨⟨rfl,.inl rfl,rfl⟩,⟨⟨rfl,.inl rfl,rfl⟩,True.intro⟩⟩ (fun _ _ _ _=>(aC (i:=0) (show ((["piece"]:List Str)++(["plan", "rows"]:List Str)).Nodup by decide +kernel) rfl (Or.inl rfl) (hf:=Or.inr rfl))) (fun _ _ _ _=>cE) (fun _ _ _ _=>(bY (U (ay O_law_kept (hr.mono (by decide)) rfl (U (pv 1) (U (pv 0) (U (pv 2) ab)))) (U (aJ (oU (K:=K) rfl) (aJ (oU (K:=K) rfl) (pv 1) (pv 0) (fun _ _=>rfl)) ai (fun _ _=>rfl)) ab))))) ab)))
      (ao (aS (p6 (jm (mG hr.units) (ay O_spare (hr.mono (by decide)) rfl (U (pv 3) ab)) (pv 5) (bc _)) (p6 (jm (mG hr.units) (ay O_spare (hr.mono (by decide)) rfl (U (pv 5) ab)) (pv 5) (bc _)) (uP (jm (mG hr.units) (ay O_live (hr.mono (by decide)) rfl (U (pv 5) ab)) (ay O_live (hr.mono (by decide)) rfl (U (pv 3) ab)) (bc _))))))))))))),?_⟩
    refine⟨_,rfl,a,ns,0,rfl,hS,(by decide),fun b H1 nb B1 s1=>?_⟩
    refine⟨_,rfl,b,8,rfl,B1,⟨by decide,by decide +kernel⟩,fun z H2 z0 z1 B2 X2=>?_⟩
    refine⟨rfl,?_⟩
    refine⟨_,rfl,_,rfl,b,40,rfl,B2,(by omega),(by omega),fun c H3 c0 c1 B3 X3=>?_⟩
    refine⟨ln2,fun l0 n0=>?_⟩
    have h0:(upd H3 l0 (.lst [.int c,.int 400])) l0=some (.lst [.int c,.int 400]):=aa
    obtain⟨g,hg,hg2⟩:∃ g:Nat,d0 [V.int c,V.int 400] (if decide (V.int z=V.int 0)=true then 1 else 0)=some (V.int g)/\(0 < g/\g<=400):=by
      cases decide (V.int z=V.int 0)
      · exact⟨c,di,by omega⟩
      · exact⟨400,dE,by omega⟩
    obtain⟨g2,hgg,hgg2⟩:∃ g:Nat,d0 [V.int 12,V.int 2] (if decide (V.int z=V.int 0)=true then 1 else 0)=some (V.int g)/\g<=12:=by
      cases decide (V.int z=V.int 0)
      · exact⟨12,di,by omega⟩
      · exact⟨2,dE,by omega⟩
    refine⟨_,rfl,.inr ⟨_,rfl,l0,_,_,_,rfl,rfl,av.of h0,hg,?_⟩⟩
    refine⟨ln2,fun l1 n1=>?_⟩
    have h1:(upd (upd H3 l0 (.lst [.int c,.int 400])) l1 (.lst [.int 12,.int 2])) l1=some (.lst [.int 12,.int 2]):=aa
    refine⟨_,rfl,.inr ⟨_,rfl,l1,_,_,_,rfl,rfl,av.of h1,hgg,?_⟩⟩
    refine⟨b,g,g2,rfl,(B3.new n0).new n1,hg2.1,(by omega),(by omega),fun plv xs ps H4 r4 hc4 pok xok B4 X4=>?_⟩
    have s4:af H H4:=af.vj s1 nb (((X2.trans X3).trans ((Fix.new n0).trans (Fix.new n1))).trans X4)
    refine⟨fun σ' H'=>∃ (plv:V) (ps:List Piece) (xs:List Str) (u1 u2:Option V),σ' = [some (.ref a),u1,u2,some plv,none,none]/\aP H' plv (bQ ps)/\cR xs 12 ps/\(∀ x ∈ xs,bT x)/\xs.length < 64/\ps.length<=400/\af H H',?_,?_⟩
    · refine⟨_,rfl,b,6,rfl,B4,⟨by decide,by decide +kernel⟩,fun z2 H5 z20 z21 B5 X5=>⟨rfl,_,rfl,?_⟩⟩
      have s5:af H H5:=fun c o e=>X5 c o (s4 c o e) (aK e nb)
      refine fj (fun hc=>?_) (fun hc=>?_)
      · refine⟨_,rfl,_,rfl,b,40,rfl,B5,⟨by decide,by decide +kernel⟩,fun z3 H6 z30 z31 B6 X6=>⟨_,_,rfl,rfl,?_⟩⟩
        obtain⟨k,rfl⟩:∃ k:Nat,z3=k:=⟨z3.toNat,by omega⟩
        refine⟨b,1+k,congrArg (fun z=>[V.ref b,V.int z]) (show (1:Int)+(k:Int)=((1+k:Nat):Int) by omega),B6,(by omega),(by omega),fun plv xs ps H7 r7 hc7 pok xok B7 X7=>?_⟩
        exact⟨plv,ps,xs,_,_,rfl,r7,⟨fun p hp=>⟨Nat.le_trans (pok.cS p hp).1 (by decide),(pok.cS p hp).2⟩,pok.ends⟩,xok.1,(by have:=xok.2;omega),(by omega),fun c o e=>X7 c o (X6 c o (s5 c o e) (aK e nb)) (aK e nb)⟩
      · exact⟨plv,ps,xs,_,_,rfl,r4.fix B4 X5 (cD ps),⟨fun p hp=>⟨Nat.le_trans (pok.cS p hp).1 hgg2,(pok.cS p hp).2⟩,pok.ends⟩,xok.1,(by have:=xok.2;omega),(by omega),s5⟩
    clear r4 pok hc4 s4 B4
    rintro σ' H5 ⟨plv,ps,xs,u1,u2,rfl,r5,pok,nok,hx64,hn4,s5⟩
    have hin:=pok.i9
    refine⟨_,rfl,plv,ps,xs,12,rfl,r5,pok,nok,(by decide),hx64,hn4,fun rl F H6 hR hFl hFs s6=>?_⟩
    have r6:=r5.same s6 (cD ps)
    obtain⟨pp,pvs,rfl,hpp,rpv⟩:=aP.cm r6
    have hpl:pvs.length=ps.length:=by rw [rpv.len,List.length_map]
    refine⟨_,rfl,pp,_,rfl,.inr (ar.of hpp),_,rfl,(by omega),(by omega),fun acc na=>?_⟩
    refine iu (lo:=0) (fun i ys τ H'=>∃ (c1:Option V) (qs:List Piece),τ = [c1,some (.ref pp),some (.ref rl)]/\H' acc=some (.lst ys)/\ys.length=i/\aD H' ys (qs.map bP)/\qs.length=i/\(∀ (k:Nat) (p:Piece),k < i->ps[k]? = some p->∃ f:Str->Bool,qs[k]? = some (aU f p.1,p.2)/\∀ x,f x=true ↔ eC ps p.2 x)/\af H6 H') ?_ ?_ ?_ ?_
    · exact⟨none,[],rfl,aa,rfl,.nil,rfl,(fun k p h=>absurd h (Nat.not_lt_zero _)),af.new na⟩
    · rintro i ys τ H7 hi ⟨c1,qs,rfl,h1,h2,h3,h4,h5,h6⟩
      exact⟨h1,bZ (by omega)⟩
    · rintro i ys τ H7 hi ⟨c1,qs,rfl,h1,h2,h3,h4,h5,h6⟩
      have hil:i < ps.length:=by omega
      have hpi:ps[i]? = some ps[i]:=by simp [hil]
      generalize ps[i] = pce at hpi
      obtain⟨ds,e⟩:=pce
      have r7:aP H7 (.ref pp) (bQ ps):=.tup (h6 _ _ hpp) (rpv.same h6 (aB _))
      refine cc ?_
      refine pD ?_
      refine eW ?_
      refine⟨_,rfl,_,rfl,_,rfl,.ref pp,rl,ps,F,i,ds,e,xs,12,congrArg (fun z=>[V.ref pp,V.int z,V.ref rl]) (Int.zero_add _),r7,pok,(by decide),hx64,hn4,hpi,hR.same h6,⟨hFl,hFs⟩,fun t us f H8 ht hus hf s8=>?_⟩
      have s68:=h6.trans s8
      have r8:aP H8 (.ref pp) (bQ ps):=.tup (s68 _ _ hpp) (rpv.same s68 (aB _))
      obtain⟨p',xs',pc,da,ea,ws,ep,e1',el',hx',e2,e3,r3,e4⟩:=eX r8 hpi
      cases ep
      rw [s68 _ _ hpp] at e1'
      cases e1'
      have hx2:d0 pvs (0+(i:Int))=some (V.ref pc):=by rw [Int.zero_add];exact bh hx'
      refine⟨_,rfl,_,rfl,pp,_,_,_,rfl,rfl,ar.of (s68 _ _ hpp),hx2,pc,_,1,_,rfl,rfl,ar.of e2,dE,ln2,fun t2 nt2=>?_⟩
      have s9:=af.new (o:=.tup [.ref t,.ref ea]) nt2
      have hac:=s9 _ _ (s8 _ _ h1)
      have hpt:(upd H8 t2 (.tup [.ref t,.ref ea])) t2=some (.tup [.ref t,.ref ea]):=aa
      have hd9:aP (upd H8 t2 (.tup [.ref t,.ref ea])) (.ref t2) (bP (aU f ds,e)) :=
        .tup hpt (.cons (.tup (s9 _ _ ht) (hus.same s9 (aO _))) (.cons (qH (s9 _ _ e4)) .nil))
      have r9:=((h3.same s8 (aB qs)).same s9 (aB qs)).app hd9
      have s69:=s68.trans s9
      generalize (upd H8 t2 (.tup [.ref t,.ref ea]))=H9 at s9 hac hpt hd9 r9 s69
      refine⟨hac,_,qs ++ [(aU f ds,e)],rfl,aa,(by simp [h2]),?_,(by simp [h4]),fun k pk hk hpk=>?_,s69.put na⟩
      · rw [List.map_append]
        refine r9.put hac ?_
        have:=aB (qs ++ [(aU f ds,e)])
        rw [List.map_append] at this
        exact this
      · by_cases hki:k=i
        · subst hki
          rw [hpi] at hpk
          cases hpk
          exact⟨f,by rw [List.getElem?_append_right (by omega),h4];simp,hf⟩
        · obtain⟨f',f1,f2⟩:=h5 k pk (by omega) hpk
          exact⟨f',by rw [List.getElem?_append_left (by omega)];exact f1,f2⟩
    · rintro ys τ H7 ⟨c1,qs,rfl,h1,h2,h3,h4,h5,h6⟩
      have el:((pvs.length:Int)).toNat=ps.length:=by omega
      rw [el] at h4 h5
      have hQ:iJ ps qs:=fun k p hk=>h5 k p (List.getElem?_eq_some_iff.mp hk).1 hk
      have pokq:=qY pok hQ h4
      refine⟨acc,_,rfl,.inl ⟨av.of h1,fun t nt=>?_⟩⟩
      have st:=af.new (o:=.tup ys) nt
      have rq:aP (upd H7 t (.tup ys)) (.ref t) (bQ qs):=.tup aa (h3.same st (aB qs))
      have s68:=h6.trans st
      generalize (upd H7 t (.tup ys))=H8 at rq st s68
      have r8:aP H8 (.ref pp) (bQ ps):=.tup (s68 _ _ hpp) (rpv.same s68 (aB _))
      have layq:(bQ qs).canLay0=true:=cF _ fun d hd=>by
        obtain⟨p,hp,rfl⟩:=List.mem_map.mp hd
        have h:=so nok pokq p hp
        show ((PyData.tuple (p.1.map aY)).canLay0 && ((gH p.2).canLay0 && true))=true
        rw [h.1,h.2]
        rfl
      have depq:(bQ qs).depth<=60:=by
        have h:=ie (m:=3) (qs.map bP) fun d hd=>by obtain⟨p,_,rfl⟩:=List.mem_map.mp hd;exact qI p
        show PyData.depthAll (qs.map bP)+1<=60
        omega
      refine⟨_,rfl,.ref pp,ps,xs,12,rfl,r8,pok,(by decide),hx64,hn4,fun v1 q1 H9 rv1 l1 hQ1 s9=>?_⟩
      have e1:q1=qs:=ny hQ1 l1 hQ h4
      subst e1
      have rq9:=rq.same s9 (cD q1)
      refine⟨_,rfl,bQ q1,bQ q1,rv1,rq9,layq,layq,(by omega),?_⟩
      rw [PySem.SeqAt.eqv_refl _ layq]
      refine⟨_,rfl,eW ?_⟩
      refine⟨_,rfl,.ref t,q1,xs,12,rfl,rq9,pokq,(by decide),hx64,(by omega),fun v2 q2 H10 rv2 l2 hQ2 s10=>?_⟩
      have e2:q2=q1:=ny hQ2 l2 (pR hQ h4) rfl
      subst e2
      have rq10:=rq9.same s10 (cD q2)
      refine⟨_,rfl,bQ q2,bQ q2,rv2,rq10,layq,layq,(by omega),?_⟩
      rw [PySem.SeqAt.eqv_refl _ layq]
      refine⟨_,rfl,eW ?_⟩
      refine⟨_,rfl,.ref t,q2,xs,12,rfl,rq10,pokq,(by decide),hx64,(by omega),fun lv L H11 hL hLl hLs s11=>?_⟩
      have r11:=((r8.same s9 (cD ps)).same s10 (cD ps)).same s11 (cD ps)
      refine⟨_,rfl,.ref pp,ps,xs,12,rfl,r11,pok,(by decide),hx64,hn4,fun lv2 L2_ H12 hL2 hLl2 hLs2 s12=>?_⟩
      have hLF:L=L2_:=by
        refine List.ext_getElem? fun k=>?_
        by_cases hk:k < ps.length
        · have h1:L[k]? = some (L[k]'(by omega)):=List.getElem?_eq_getElem _
          have h2:L2_[k]? = some (L2_[k]'(by omega)):=List.getElem?_eq_getElem _
          generalize (L[k]'(by omega))=l1 at h1
          generalize (L2_[k]'(by omega))=l2 at h2
          obtain⟨a1,a2,a3⟩:=hLs k l1 h1
          obtain⟨b1,b2,b3⟩:=hLs2 k l2 h2
          rw [h1,h2,jJ.unique ⟨e7 a1,a2⟩ ⟨e7 b1,b2⟩ fun x=>(a3 x).trans ((iM hQ h4 k x).trans (b3 x).symm)]
        · rw [List.getElem?_eq_none (by omega),List.getElem?_eq_none (by omega)]
      subst hLF
      have lay:(jv L).canLay0=true:=sO fun zs hz x hx=>by
        obtain⟨k,hk,e⟩:=List.getElem_of_mem hz
        exact nok x (dz pokq (((hLs k zs (by rw [List.getElem?_eq_getElem hk,e])).2.2 x).mp hx))
      refine⟨jv L,jv L,hL.same s12 (fI L),hL2,lay,lay,(by have:=sN L;omega),?_⟩
      rw [PySem.SeqAt.eqv_refl _ lay]
      exact q _
end
theorem all_mk {l:PySem.W.OpenLaw} {w:World} {K:PySem.W.Frag} {h:Heap} {mg:Str->Option Value} {fa:Addr} (X:K.In h) (G:h.Ns mainGlobals mg) (hfa:mg "law" = some (.ref fa))
  {f0:Addr} {od0 an0:Option Addr} {sl0:Array (Option Value)} {oc0 kV0 dc0 pm0 cd0 ct0:Value}
  {f1:Addr} {od1 an1:Option Addr} {sl1:Array (Option Value)} {oc1 kV1 dc1 pm1 cd1 ct1:Value}
  {f2:Addr} {od2 an2:Option Addr} {sl2:Array (Option Value)} {oc2 kV2 dc2 pm2 cd2 ct2:Value}
  {f3:Addr} {od3 an3:Option Addr} {sl3:Array (Option Value)} {oc3 kV3 dc3 pm3 cd3 ct3:Value}
  {f4:Addr} {od4 an4:Option Addr} {sl4:Array (Option Value)} {oc4 kV4 dc4 pm4 cd4 ct4:Value}
  {f5:Addr} {od5 an5:Option Addr} {sl5:Array (Option Value)} {oc5 kV5 dc5 pm5 cd5 ct5:Value}
  {f6:Addr} {od6 an6:Option Addr} {sl6:Array (Option Value)} {oc6 kV6 dc6 pm6 cd6 ct6:Value}
  {f7:Addr} {od7 an7:Option Addr} {sl7:Array (Option Value)} {oc7 kV7 dc7 pm7 cd7 ct7:Value}
  {f8:Addr} {od8 an8:Option Addr} {sl8:Array (Option Value)} {oc8 kV8 dc8 pm8 cd8 ct8:Value}
  {f9:Addr} {od9 an9:Option Addr} {sl9:Array (Option Value)} {oc9 kV9 dc9 pm9 cd9 ct9:Value}
  {f10:Addr} {od10 an10:Option Addr} {sl10:Array (Option Value)} {oc10 kV10 dc10 pm10 cd10 ct10:Value}
  {f11:Addr} {od11 an11:Option Addr} {sl11:Array (Option Value)} {oc11 kV11 dc11 pm11 cd11 ct11:Value}
  {f12:Addr} {od12 an12:Option Addr} {sl12:Array (Option Value)} {oc12 kV12 dc12 pm12 cd12 ct12:Value}
  {f13:Addr} {od13 an13:Option Addr} {sl13:Array (Option Value)} {oc13 kV13 dc13 pm13 cd13 ct13:Value}
  {f14:Addr} {od14 an14:Option Addr} {sl14:Array (Option Value)} {oc14 kV14 dc14 pm14 cd14 ct14:Value}
  {f15:Addr} {od15 an15:Option Addr} {sl15:Array (Option Value)} {oc15 kV15 dc15 pm15 cd15 ct15:Value}
  {f16:Addr} {od16 an16:Option Addr} {sl16:Array (Option Value)} {oc16 kV16 dc16 pm16 cd16 ct16:Value}
  {f17:Addr} {od17 an17:Option Addr} {sl17:Array (Option Value)} {oc17 kV17 dc17 pm17 cd17 ct17:Value}
  {f18:Addr} {od18 an18:Option Addr} {sl18:Array (Option Value)} {oc18 kV18 dc18 pm18 cd18 ct18:Value}
  {f19:Addr} {od19 an19:Option Addr} {sl19:Array (Option Value)} {oc19 kV19 dc19 pm19 cd19 ct19:Value}
  {f20:Addr} {od20 an20:Option Addr} {sl20:Array (Option Value)} {oc20 kV20 dc20 pm20 cd20 ct20:Value}
  {f21:Addr} {od21 an21:Option Addr} {sl21:Array (Option Value)} {oc21 kV21 dc21 pm21 cd21 ct21:Value}
  {aE:Addr} {epE:Nat} {s0:Addr} {hsE0:Int} {tkE0:Tok} {dcE0:Option Addr} {nnE0:Nat} {slE0:Array (Option Value)}  {s1:Addr} {hsE1:Int} {tkE1:Tok} {dcE1:Option Addr} {nnE1:Nat} {slE1:Array (Option Value)} {ttE1_0:Tok} {s2:Addr} {hsE2:Int} {tkE2:Tok} {dcE2:Option Addr} {nnE2:Nat} {slE2:Array (Option Value)} {ttE2_0:Tok} {ttE2_1:Tok} {ttE2_2:Tok} {ttE2_3:Tok} {s3:Addr} {hsE3:Int} {tkE3:Tok} {dcE3:Option Addr} {nnE3:Nat} {slE3:Array (Option Value)} {ttE3_0:Tok} {ttE3_1:Tok} {ttE3_2:Tok} {ttE3_3:Tok}
  (a0:PySem.W.nsIn K mainGlobals "parts_of_kind" = some (some (.ref f0))) (l0:K.lookup f0=some ⟨oc0,od0,.func (PySem.W.fnOf "parts_of_kind" "parts_of_kind" (aT cn) (aR cn) (au cn) .none kV0 dc0 pm0 an0 cd0 ct0),sl0⟩) (c0:PySem.W.codeIn K cd0 "parts_of_kind" = true) (k0:PySem.W.keepIn K (.ref f0)=true)
  (a1:PySem.W.nsIn K mainGlobals "ways_on" = some (some (.ref f1))) (l1:K.lookup f1=some ⟨oc1,od1,.func (PySem.W.fnOf "ways_on" "ways_on" (aT fc) (aR fc) (au fc) .none kV1 dc1 pm1 an1 cd1 ct1),sl1⟩) (c1:PySem.W.codeIn K cd1 "ways_on" = true) (k1:PySem.W.keepIn K (.ref f1)=true)
  (a2:PySem.W.nsIn K mainGlobals "asked_by" = some (some (.ref f2))) (l2:K.lookup f2=some ⟨oc2,od2,.func (PySem.W.fnOf "asked_by" "asked_by" (aT eE) (aR eE) (au eE) .none kV2 dc2 pm2 an2 cd2 ct2),sl2⟩) (c2:PySem.W.codeIn K cd2 "asked_by" = true) (k2:PySem.W.keepIn K (.ref f2)=true)
  (a3:PySem.W.nsIn K mainGlobals "traced" = some (some (.ref f3))) (l3:K.lookup f3=some ⟨oc3,od3,.func (PySem.W.fnOf "traced" "traced" (aT fF) (aR fF) (au fF) .none kV3 dc3 pm3 an3 cd3 ct3),sl3⟩) (c3:PySem.W.codeIn K cd3 "traced" = true) (k3:PySem.W.keepIn K (.ref f3)=true)
  (a4:PySem.W.nsIn K mainGlobals "ways_back" = some (some (.ref f4))) (l4:K.lookup f4=some ⟨oc4,od4,.func (PySem.W.fnOf "ways_back" "ways_back" (aT dM) (aR dM) (au dM) .none kV4 dc4 pm4 an4 cd4 ct4),sl4⟩) (c4:PySem.W.codeIn K cd4 "ways_back" = true) (k4:PySem.W.keepIn K (.ref f4)=true)
  (a5:PySem.W.nsIn K mainGlobals "live" = some (some (.ref f5))) (l5:K.lookup f5=some ⟨oc5,od5,.func (PySem.W.fnOf "live" "live" (aT ij) (aR ij) (au ij) .none kV5 dc5 pm5 an5 cd5 ct5),sl5⟩) (c5:PySem.W.codeIn K cd5 "live" = true) (k5:PySem.W.keepIn K (.ref f5)=true)
  (a6:PySem.W.nsIn K mainGlobals "without_spare" = some (some (.ref f6))) (l6:K.lookup f6=some ⟨oc6,od6,.func (PySem.W.fnOf "without_spare" "without_spare" (aT cq) (aR cq) (au cq) .none kV6 dc6 pm6 an6 cd6 ct6),sl6⟩) (c6:PySem.W.codeIn K cd6 "without_spare" = true) (k6:PySem.W.keepIn K (.ref f6)=true)
  (a7:PySem.W.nsIn K mainGlobals "spare" = some (some (.ref f7))) (l7:K.lookup f7=some ⟨oc7,od7,.func (PySem.W.fnOf "spare" "spare" (aT gm) (aR gm) (au gm) .none kV7 dc7 pm7 an7 cd7 ct7),sl7⟩) (c7:PySem.W.codeIn K cd7 "spare" = true) (k7:PySem.W.keepIn K (.ref f7)=true)
  (a8:PySem.W.nsIn K mainGlobals "_law_bag" = some (some (.ref f8))) (l8:K.lookup f8=some ⟨oc8,od8,.func (PySem.W.fnOf "_law_bag" "_law_bag" (aT fe) (aR fe) (au fe) .none kV8 dc8 pm8 an8 cd8 ct8),sl8⟩) (c8:PySem.W.codeIn K cd8 "_law_bag" = true) (k8:PySem.W.keepIn K (.ref f8)=true)
  (a9:PySem.W.nsIn K mainGlobals "_law_take" = some (some (.ref f9))) (l9:K.lookup f9=some ⟨oc9,od9,.func (PySem.W.fnOf "_law_take" "_law_take" (aT eG) (aR eG) (au eG) .none kV9 dc9 pm9 an9 cd9 ct9),sl9⟩) (c9:PySem.W.codeIn K cd9 "_law_take" = true) (k9:PySem.W.keepIn K (.ref f9)=true)
  (a10:PySem.W.nsIn K mainGlobals "_law_names" = some (some (.ref f10))) (l10:K.lookup f10=some ⟨oc10,od10,.func (PySem.W.fnOf "_law_names" "_law_names" (aT dN) (aR dN) (au dN) .none kV10 dc10 pm10 an10 cd10 ct10),sl10⟩) (c10:PySem.W.codeIn K cd10 "_law_names" = true) (k10:PySem.W.keepIn K (.ref f10)=true)
  (a11:PySem.W.nsIn K mainGlobals "_law_number" = some (some (.ref f11))) (l11:K.lookup f11=some ⟨oc11,od11,.func (PySem.W.fnOf "_law_number" "_law_number" (aT dr) (aR dr) (au dr) .none kV11 dc11 pm11 an11 cd11 ct11),sl11⟩) (c11:PySem.W.codeIn K cd11 "_law_number" = true) (k11:PySem.W.keepIn K (.ref f11)=true)
  (a12:PySem.W.nsIn K mainGlobals "_law_deed" = some (some (.ref f12))) (l12:K.lookup f12=some ⟨oc12,od12,.func (PySem.W.fnOf "_law_deed" "_law_deed" (aT eI) (aR eI) (au eI) .none kV12 dc12 pm12 an12 cd12 ct12),sl12⟩) (c12:PySem.W.codeIn K cd12 "_law_deed" = true) (k12:PySem.W.keepIn K (.ref f12)=true)
  (a13:PySem.W.nsIn K mainGlobals "_law_end" = some (some (.ref f13))) (l13:K.lookup f13=some ⟨oc13,od13,.func (PySem.W.fnOf "_law_end" "_law_end" (aT ff) (aR ff) (au ff) .none kV13 dc13 pm13 an13 cd13 ct13),sl13⟩) (c13:PySem.W.codeIn K cd13 "_law_end" = true) (k13:PySem.W.keepIn K (.ref f13)=true)
  (a14:PySem.W.nsIn K mainGlobals "_law_plan" = some (some (.ref f14))) (l14:K.lookup f14=some ⟨oc14,od14,.func (PySem.W.fnOf "_law_plan" "_law_plan" (aT eJ) (aR eJ) (au eJ) .none kV14 dc14 pm14 an14 cd14 ct14),sl14⟩) (c14:PySem.W.codeIn K cd14 "_law_plan" = true) (k14:PySem.W.keepIn K (.ref f14)=true)
  (a15:PySem.W.nsIn K mainGlobals "_law_count" = some (some (.ref f15))) (l15:K.lookup f15=some ⟨oc15,od15,.func (PySem.W.fnOf "_law_count" "_law_count" (aT dQ) (aR dQ) (au dQ) .none kV15 dc15 pm15 an15 cd15 ct15),sl15⟩) (c15:PySem.W.codeIn K cd15 "_law_count" = true) (k15:PySem.W.keepIn K (.ref f15)=true)
  (a16:PySem.W.nsIn K mainGlobals "_law_ahead" = some (some (.ref f16))) (l16:K.lookup f16=some ⟨oc16,od16,.func (PySem.W.fnOf "_law_ahead" "_law_ahead" (aT dU) (aR dU) (au dU) .none kV16 dc16 pm16 an16 cd16 ct16),sl16⟩) (c16:PySem.W.codeIn K cd16 "_law_ahead" = true) (k16:PySem.W.keepIn K (.ref f16)=true)
  (a17:PySem.W.nsIn K mainGlobals "_law_behind_all" = some (some (.ref f17))) (l17:K.lookup f17=some ⟨oc17,od17,.func (PySem.W.fnOf "_law_behind_all" "_law_behind_all" (aT bV) (aR bV) (au bV) .none kV17 dc17 pm17 an17 cd17 ct17),sl17⟩) (c17:PySem.W.codeIn K cd17 "_law_behind_all" = true) (k17:PySem.W.keepIn K (.ref f17)=true)
  (a18:PySem.W.nsIn K mainGlobals "_law_live" = some (some (.ref f18))) (l18:K.lookup f18=some ⟨oc18,od18,.func (PySem.W.fnOf "_law_live" "_law_live" (aT eM) (aR eM) (au eM) .none kV18 dc18 pm18 an18 cd18 ct18),sl18⟩) (c18:PySem.W.codeIn K cd18 "_law_live" = true) (k18:PySem.W.keepIn K (.ref f18)=true)
  (a19:PySem.W.nsIn K mainGlobals "_law_wide_plan" = some (some (.ref f19))) (l19:K.lookup f19=some ⟨oc19,od19,.func (PySem.W.fnOf "_law_wide_plan" "_law_wide_plan" (aT cu) (aR cu) (au cu) .none kV19 dc19 pm19 an19 cd19 ct19),sl19⟩) (c19:PySem.W.codeIn K cd19 "_law_wide_plan" = true) (k19:PySem.W.keepIn K (.ref f19)=true)
  (a20:PySem.W.nsIn K mainGlobals "_law_kept" = some (some (.ref f20))) (l20:K.lookup f20=some ⟨oc20,od20,.func (PySem.W.fnOf "_law_kept" "_law_kept" (aT eN) (aR eN) (au eN) .none kV20 dc20 pm20 an20 cd20 ct20),sl20⟩) (c20:PySem.W.codeIn K cd20 "_law_kept" = true) (k20:PySem.W.keepIn K (.ref f20)=true)
  (a21:PySem.W.nsIn K mainGlobals "law" = some (some (.ref f21))) (l21:K.lookup f21=some ⟨oc21,od21,.func (PySem.W.fnOf "law" "law" (aT gf) (aR gf) (au gf) .none kV21 dc21 pm21 an21 cd21 ct21),sl21⟩) (c21:PySem.W.codeIn K cd21 "law" = true) (k21:PySem.W.keepIn K (.ref f21)=true)
  (z_len:PySem.W.nsIn K mainGlobals "len" = some none)
  (z_zip:PySem.W.nsIn K mainGlobals "zip" = some none)
  (z_tuple:PySem.W.nsIn K mainGlobals "tuple" = some none)
  (z_set:PySem.W.nsIn K mainGlobals "set" = some none)
  (z_min:PySem.W.nsIn K mainGlobals "min" = some none)
  (z_range:PySem.W.nsIn K mainGlobals "range" = some none)
  (z_list:PySem.W.nsIn K mainGlobals "list" = some none)
  (z_int:PySem.W.nsIn K mainGlobals "int" = some none)
  (z_enumerate:PySem.W.nsIn K mainGlobals "enumerate" = some none)
  (z_sorted:PySem.W.nsIn K mainGlobals "sorted" = some none)
  (z_reversed:PySem.W.nsIn K mainGlobals "reversed" = some none)
  (gE:PySem.W.nsIn K mainGlobals "END_PARTS" = some (some (.ref aE))) (lE:K.lookup aE=some ⟨.type "dict",none,.dict #[⟨hsE0,.str "stop" tkE0,.ref s0⟩,⟨hsE1,.str "go" tkE1,.ref s1⟩,⟨hsE2,.str "less" tkE2,.ref s2⟩,⟨hsE3,.str "is" tkE3,.ref s3⟩] epE,#[]⟩) (qE0:K.lookup s0=some ⟨.type "tuple",dcE0,.seq #[] nnE0,slE0⟩) (qE1:K.lookup s1=some ⟨.type "tuple",dcE1,.seq #[.str "piece" ttE1_0] nnE1,slE1⟩) (qE2:K.lookup s2=some ⟨.type "tuple",dcE2,.seq #[.str "name" ttE2_0,.str "number" ttE2_1,.str "piece" ttE2_2,.str "piece" ttE2_3] nnE2,slE2⟩) (qE3:K.lookup s3=some ⟨.type "tuple",dcE3,.seq #[.str "name" ttE3_0,.str "number" ttE3_1,.str "piece" ttE3_2,.str "piece" ttE3_3] nnE3,slE3⟩) :
  ∃ fd:FuncData,(∀ (s:Shared) (v:Value),BindsTo s fd ⟨[v],[]⟩ [("script",v)])/\∀ base:Heap,K.In base->base.Ns mainGlobals mg->bI l.prog w K mg base cQ 9 fa fd ["script"] (lX K):=by
 have e:=hfa.symm.trans (PySem.W.mg_of X G a21)
 cases e
 have Z:Bl mg:=⟨PySem.W.mg_none_of X G z_len,PySem.W.mg_none_of X G z_zip,PySem.W.mg_none_of X G z_tuple,PySem.W.mg_none_of X G z_set,PySem.W.mg_none_of X G z_min,PySem.W.mg_none_of X G z_range,PySem.W.mg_none_of X G z_list,PySem.W.mg_none_of X G z_int,PySem.W.mg_none_of X G z_enumerate,PySem.W.mg_none_of X G z_sorted,PySem.W.mg_none_of X G z_reversed⟩
 have GE:pG K mg aE s0 s1 s2 s3:=⟨⟨PySem.W.mg_of X G gE,_,_,lE,(.cons rfl rfl (.cons rfl rfl (.cons rfl rfl (.cons rfl rfl .nil))))⟩,⟨_,_,_,qE0,rfl,rfl,(by show 0<=sizeLine;decide),.nil⟩,⟨_,_,_,qE1,rfl,rfl,(by show 1<=sizeLine;decide),(.cons ⟨_,rfl⟩ .nil)⟩,⟨_,_,_,qE2,rfl,rfl,(by show 4<=sizeLine;decide),(.cons ⟨_,rfl⟩ (.cons ⟨_,rfl⟩ (.cons ⟨_,rfl⟩ (.cons ⟨_,rfl⟩ .nil))))⟩,⟨_,_,_,qE3,rfl,rfl,(by show 4<=sizeLine;decide),(.cons ⟨_,rfl⟩ (.cons ⟨_,rfl⟩ (.cons ⟨_,rfl⟩ (.cons ⟨_,rfl⟩ .nil))))⟩⟩
 have F0:=bH (st:=cn) l0 c0 k0
 have b0:=F0.binds (ps:=["thing", "kinds", "wanted"]) fun _ _ _ _ _ _ us hl=>match us,hl with | [_,_,_],_=>rfl
 have F1:=bH (st:=fc) l1 c1 k1
 have b1:=F1.binds (ps:=["end"]) fun _ _ _ _ _ _ us hl=>match us,hl with | [_],_=>rfl
 have F2:=bH (st:=eE) l2 c2 k2
 have b2:=F2.binds (ps:=["end"]) fun _ _ _ _ _ _ us hl=>match us,hl with | [_],_=>rfl
 have F3:=bH (st:=fF) l3 c3 k3
 have b3:=F3.binds (ps:=["piece"]) fun _ _ _ _ _ _ us hl=>match us,hl with | [_],_=>rfl
 have F4:=bH (st:=dM) l4 c4 k4
 have b4:=F4.binds (ps:=["plan"]) fun _ _ _ _ _ _ us hl=>match us,hl with | [_],_=>rfl
 have F5:=bH (st:=ij) l5 c5 k5
 have b5:=F5.binds (ps:=["plan"]) fun _ _ _ _ _ _ us hl=>match us,hl with | [_],_=>rfl
 have F6:=bH (st:=cq) l6 c6 k6
 have b6:=F6.binds (ps:=["deeds", "names"]) fun _ _ _ _ _ _ us hl=>match us,hl with | [_,_],_=>rfl
 have F7:=bH (st:=gm) l7 c7 k7
 have b7:=F7.binds (ps:=["plan"]) fun _ _ _ _ _ _ us hl=>match us,hl with | [_],_=>rfl
 have F8:=bH (st:=fe) l8 c8 k8
 have b8:=F8.binds (ps:=["script", "k"]) fun _ _ _ _ _ _ us hl=>match us,hl with | [_,_],_=>rfl
 have F9:=bH (st:=eG) l9 c9 k9
 have b9:=F9.binds (ps:=["bag", "many"]) fun _ _ _ _ _ _ us hl=>match us,hl with | [_,_],_=>rfl
 have F10:=bH (st:=dN) l10 c10 k10
 have b10:=F10.binds (ps:=["bag"]) fun _ _ _ _ _ _ us hl=>match us,hl with | [_],_=>rfl
 have F11:=bH (st:=dr) l11 c11 k11
 have b11:=F11.binds (ps:=["bag"]) fun _ _ _ _ _ _ us hl=>match us,hl with | [_],_=>rfl
 have F12:=bH (st:=eI) l12 c12 k12
 have b12:=F12.binds (ps:=["bag", "names"]) fun _ _ _ _ _ _ us hl=>match us,hl with | [_,_],_=>rfl
 have F13:=bH (st:=ff) l13 c13 k13
 have b13:=F13.binds (ps:=["bag", "names", "count"]) fun _ _ _ _ _ _ us hl=>match us,hl with | [_,_,_],_=>rfl
 have F14:=bH (st:=eJ) l14 c14 k14
 have b14:=F14.binds (ps:=["bag", "count", "most"]) fun _ _ _ _ _ _ us hl=>match us,hl with | [_,_,_],_=>rfl
 have F15:=bH (st:=dQ) l15 c15 k15
 have b15:=F15.binds (ps:=["bag", "most"]) fun _ _ _ _ _ _ us hl=>match us,hl with | [_,_],_=>rfl
 have F16:=bH (st:=dU) l16 c16 k16
 have b16:=F16.binds (ps:=["deed", "names"]) fun _ _ _ _ _ _ us hl=>match us,hl with | [_,_],_=>rfl
 have F17:=bH (st:=bV) l17 c17 k17
 have b17:=F17.binds (ps:=["plan", "piece", "rows"]) fun _ _ _ _ _ _ us hl=>match us,hl with | [_,_,_],_=>rfl
 have F18:=bH (st:=eM) l18 c18 k18
 have b18:=F18.binds (ps:=["plan"]) fun _ _ _ _ _ _ us hl=>match us,hl with | [_],_=>rfl
 have F19:=bH (st:=cu) l19 c19 k19
 have b19:=F19.binds (ps:=["bag", "count"]) fun _ _ _ _ _ _ us hl=>match us,hl with | [_,_],_=>rfl
 have F20:=bH (st:=eN) l20 c20 k20
 have b20:=F20.binds (ps:=["plan", "piece", "rows"]) fun _ _ _ _ _ _ us hl=>match us,hl with | [_,_,_],_=>rfl
 have F21:=bH (st:=gf) l21 c21 k21
 refine⟨PySem.W.fnOf "law" "law" (aT gf) (aR gf) (au gf) .none kV21 dc21 pm21 an21 cd21 ct21,fun s v=>.of_eq rfl,fun base _ _=>?_⟩
 have O_parts_of_kind:Own l.prog w K mg base "parts_of_kind" 1 ["thing", "kinds", "wanted"] (kY K):=⟨⟨_,_,jZ F0 Z ,PySem.W.mg_of X G a0,k0,b0⟩⟩
 have O_ways_on:Own l.prog w K mg base "ways_on" 3 ["end"] kB:=⟨⟨_,_,pT F1 Z GE O_parts_of_kind,PySem.W.mg_of X G a1,k1,b1⟩⟩
 have O_asked_by:Own l.prog w K mg base "asked_by" 1 ["end"] gU:=⟨⟨_,_,nS F2 Z ,PySem.W.mg_of X G a2,k2,b2⟩⟩
 have O_traced:Own l.prog w K mg base "traced" 3 ["piece"] jU:=⟨⟨_,_,qZ F3 Z O_asked_by,PySem.W.mg_of X G a3,k3,b3⟩⟩
 have O_ways_back:Own l.prog w K mg base "ways_back" 4 ["plan"] mZ:=⟨⟨_,_,nE F4 Z O_ways_on,PySem.W.mg_of X G a4,k4,b4⟩⟩
 have O_live:Own l.prog w K mg base "live" 5 ["plan"] kJ:=⟨⟨_,_,uE F5 Z O_traced O_ways_back,PySem.W.mg_of X G a5,k5,b5⟩⟩
 have O_without_spare:Own l.prog w K mg base "without_spare" 2 ["deeds", "names"] fD:=⟨⟨_,_,j0 F6 Z ,PySem.W.mg_of X G a6,k6,b6⟩⟩
 have O_spare:Own l.prog w K mg base "spare" 7 ["plan"] ll:=⟨⟨_,_,sP F7 Z O_live O_asked_by O_ways_on O_without_spare,PySem.W.mg_of X G a7,k7,b7⟩⟩
 have O_law_bag:Own l.prog w K mg base "_law_bag" 1 ["script", "k"] (pC K):=⟨⟨_,_,pU F8 Z ,PySem.W.mg_of X G a8,k8,b8⟩⟩
 have O_law_take:Own l.prog w K mg base "_law_take" 1 ["bag", "many"] eQ:=⟨⟨_,_,nT F9 Z ,PySem.W.mg_of X G a9,k9,b9⟩⟩
 have O_law_names:Own l.prog w K mg base "_law_names" 2 ["bag"] kR:=⟨⟨_,_,nF F10 Z O_law_take,PySem.W.mg_of X G a10,k10,b10⟩⟩
 have O_law_number:Own l.prog w K mg base "_law_number" 2 ["bag"] ix:=⟨⟨_,_,lV F11 Z O_law_take,PySem.W.mg_of X G a11,k11,b11⟩⟩
 have O_law_deed:Own l.prog w K mg base "_law_deed" 3 ["bag", "names"] kh:=⟨⟨_,_,nU F12 Z O_law_take O_law_number,PySem.W.mg_of X G a12,k12,b12⟩⟩
 have O_law_end:Own l.prog w K mg base "_law_end" 3 ["bag", "names", "count"] ki:=⟨⟨_,_,pV F13 Z O_law_take O_law_number,PySem.W.mg_of X G a13,k13,b13⟩⟩
 have O_law_plan:Own l.prog w K mg base "_law_plan" 4 ["bag", "count", "most"] mI:=⟨⟨_,_,nV F14 Z O_law_take O_law_names O_law_deed O_law_end,PySem.W.mg_of X G a14,k14,b14⟩⟩
 have O_law_count:Own l.prog w K mg base "_law_count" 2 ["bag", "most"] kT:=⟨⟨_,_,nG F15 Z O_law_take,PySem.W.mg_of X G a15,k15,b15⟩⟩
 have O_law_ahead:Own l.prog w K mg base "_law_ahead" 1 ["deed", "names"] jw:=⟨⟨_,_,nH F16 Z ,PySem.W.mg_of X G a16,k16,b16⟩⟩
 have O_law_behind_all:Own l.prog w K mg base "_law_behind_all" 1 ["plan", "piece", "rows"] fJ:=⟨⟨_,_,jB F17 Z ,PySem.W.mg_of X G a17,k17,b17⟩⟩
 have O_law_live:Own l.prog w K mg base "_law_live" 5 ["plan"] iK:=⟨⟨_,_,nW F18 Z O_law_behind_all O_law_ahead,PySem.W.mg_of X G a18,k18,b18⟩⟩
 have O_law_wide_plan:Own l.prog w K mg base "_law_wide_plan" 4 ["bag", "count"] jX:=⟨⟨_,_,j1 F19 Z O_law_take O_law_deed O_law_end,PySem.W.mg_of X G a19,k19,b19⟩⟩
 have O_law_kept:Own l.prog w K mg base "_law_kept" 3 ["plan", "piece", "rows"] nA:=⟨⟨_,_,nX F20 Z O_law_behind_all O_law_ahead,PySem.W.mg_of X G a20,k20,b20⟩⟩
 exact vY F21 Z O_law_bag O_law_take O_law_plan O_law_count O_law_wide_plan O_law_live O_law_kept O_live O_spare
theorem walk {l:PySem.W.OpenLaw} {q:Program} {loose:List Str} {XP:(Str->Option Value)->Heap->Prop} {YP:World->Heap->Prop} {d:DefRec} {K:Params->PySem.W.Frag} (hn:l.most=some 63) (hdf:d.params.defaults = [])
  (hY:∀ (w:World) (h:Heap),YP w h->(K w.params).In h)
  (F:∀ (w:World) (mg:Str->Option Value) (fa:Addr) (h:Heap),(K w.params).In h->h.Ns mainGlobals mg->mg d.name=some (.ref fa) ->
   ∃ fd:FuncData,(∀ (s:Shared) (u:Value),BindsTo s fd ⟨[u],[]⟩ [("script",u)])/\∀ base:Heap,(K w.params).In base->base.Ns mainGlobals mg->bI l.prog w (K w.params) mg base cQ 9 fa fd ["script"] (lX (K w.params))) :
  PySem.W.WalkO q loose XP YP l.row.toRowW d [] (fun f vs=>PySem.call f vs) :=
 L2.tP (n:=63) (k:=9) (x := "script") (CX:=fun _=>cQ) (sp:=fun w=>lX (K w.params)) hn (by decide) hdf ⟨rfl,by decide,by decide⟩ hY F (fun _ _ a ns hl _ hS=>⟨a,ns,rfl,hS,hl,fun _=>rfl⟩) fun _ _ _ _ _ z=>z
end My
theorem PySem.W.Fast.tw8237858923055792040:True:=trivial
theorem PySem.W.Fast.tw14198610591761026378:True:=trivial
theorem PySem.W.Fast.tw3061085891252535853:True:=trivial
theorem PySem.W.Fast.tw16845207256516547491:True:=trivial
theorem PySem.W.Fast.tw7971392854396785497:True:=trivial
theorem PySem.W.Fast.tw8825538138394257:True:=trivial
theorem PySem.W.Fast.tw7805474573165942509:True:=trivial
theorem PySem.W.Fast.tw7891815875536618123:True:=trivial
theorem PySem.W.Fast.tw11535545021599022085:True:=trivial
theorem PySem.W.Fast.tw3782987996671921510:True:=trivial
theorem PySem.W.Fast.tw13311587337658196955:True:=trivial
theorem PySem.W.Fast.tw289582384539143570:True:=trivial
theorem PySem.W.Fast.tw5908425332616915070:True:=trivial
theorem PySem.W.Fast.tw10730855929866194940:True:=trivial
theorem PySem.W.Fast.tw14931580890234562577:True:=trivial
theorem PySem.W.Fast.tw11975334265371493707:True:=trivial
theorem PySem.W.Fast.tw2471135816898895691:True:=trivial
theorem PySem.W.Fast.tw10055463115022002448:True:=trivial
theorem PySem.W.Fast.tw14403866626905856741:True:=trivial
theorem PySem.W.Fast.tw3973105693194541782:True:=trivial
theorem PySem.W.Fast.tw13516572332740526441:True:=trivial
theorem PySem.W.Fast.tw13556390757703643933:True:=trivial
theorem PySem.W.Fast.tw7344844937647482389:True:=trivial
theorem PySem.W.Fast.tw6707185872411604367:True:=trivial
theorem PySem.W.Fast.tw17976220331580753015:True:=trivial
theorem PySem.W.Fast.tw6909801351487601833:True:=trivial
theorem PySem.W.Fast.tw3988299989388541011:True:=trivial
theorem PySem.W.Fast.tw9387301567793089406:True:=trivial
theorem PySem.W.Fast.tw8787469764313108336:True:=trivial
theorem PySem.W.Fast.tw7727584157362514523:True:=trivial
theorem PySem.W.Fast.tw1832955163590999285:True:=trivial
theorem PySem.W.Fast.tw5430314446185977187:True:=trivial
theorem PySem.W.Fast.tw14076704881062375960:True:=trivial
theorem PySem.W.Fast.tw11013101406812829082:True:=trivial
theorem PySem.W.Fast.tw12062059939351704766:True:=trivial
theorem PySem.W.Fast.tw1445963419744516030:True:=trivial
theorem PySem.W.Fast.tw15967312541343838412:True:=trivial
theorem PySem.W.Fast.tw5009645872362664241:True:=trivial
theorem PySem.W.Fast.tw3216791441372501440:True:=trivial
theorem PySem.W.Fast.tw15610940838155136603:True:=trivial
theorem PySem.W.Fast.tw12896077534068405499:True:=trivial
theorem PySem.W.Fast.tw9940459340172850404:True:=trivial
theorem PySem.W.Fast.tw7611370088001474856:True:=trivial
theorem PySem.W.Fast.tw10180766526528287197:True:=trivial
theorem PySem.W.Fast.tw13842407784534252637:True:=trivial
theorem PySem.W.Fast.tw100778989727450949:True:=trivial
theorem PySem.W.Fast.tw13132792589997478270:True:=trivial
theorem PySem.W.Fast.tw17195539432922915676:True:=trivial
theorem PySem.W.Fast.tw13585101554631224885:True:=trivial
theorem PySem.W.Fast.tw351419549471581673:True:=trivial
theorem PySem.W.Fast.tw10356992835027922937:True:=trivial
theorem PySem.W.Fast.tw9693975621146468511:True:=trivial
theorem PySem.W.Fast.tw14636619471242821829:True:=trivial
open PySem PySem.W PyProof.Rows
set_option maxRecDepth 100000 in
set_option maxHeartbeats 0 in
theorem PySem.Challenge.cw_ledpast_k36_spare_deeds_by_hand_holds : PySem.Challenge.rw_ledpast_k36_spare_deeds_by_hand.Holds := by
 w_on; o_law; k_head; (case hw => w_witness2)
 k_fill
 refine My.walk (l := PySem.Challenge.rw_ledpast_k36_spare_deeds_by_hand) rfl rfl (fun w h Y => PySem.W.kIn_of Y) ?F
 case F =>
  intro w mg fa h KX G hmg
  refine' My.all_mk KX G hmg ?a0 ?l0 ?c0 ?k0 ?a1 ?l1 ?c1 ?k1 ?a2 ?l2 ?c2 ?k2 ?a3 ?l3 ?c3 ?k3 ?a4 ?l4 ?c4 ?k4 ?a5 ?l5 ?c5 ?k5 ?a6 ?l6 ?c6 ?k6 ?a7 ?l7 ?c7 ?k7 ?a8 ?l8 ?c8 ?k8 ?a9 ?l9 ?c9 ?k9 ?a10 ?l10 ?c10 ?k10 ?a11 ?l11 ?c11 ?k11 ?a12 ?l12 ?c12 ?k12 ?a13 ?l13 ?c13 ?k13 ?a14 ?l14 ?c14 ?k14 ?a15 ?l15 ?c15 ?k15 ?a16 ?l16 ?c16 ?k16 ?a17 ?l17 ?c17 ?k17 ?a18 ?l18 ?c18 ?k18 ?a19 ?l19 ?c19 ?k19 ?a20 ?l20 ?c20 ?k20 ?a21 ?l21 ?c21 ?k21 ?z_len ?z_zip ?z_tuple ?z_set ?z_min ?z_range ?z_list ?z_int ?z_enumerate ?z_sorted ?z_reversed ?gE ?lE ?qE0 ?qE1 ?qE2 ?qE3
  (case gE => k_is)
  (case lE => k_is)
  (case qE0 => k_is)
  (case qE1 => k_is)
  (case qE2 => k_is)
  (case qE3 => k_is)
  (case a0 => k_is)
  (case l0 => k_is)
  (case c0 => k_is)
  (case k0 => k_is)
  (case a1 => k_is)
  (case l1 => k_is)
  (case c1 => k_is)
  (case k1 => k_is)
  (case a2 => k_is)
  (case l2 => k_is)
  (case c2 => k_is)
  (case k2 => k_is)
  (case a3 => k_is)
  (case l3 => k_is)
  (case c3 => k_is)
  (case k3 => k_is)
  (case a4 => k_is)
  (case l4 => k_is)
  (case c4 => k_is)
  (case k4 => k_is)
  (case a5 => k_is)
  (case l5 => k_is)
  (case c5 => k_is)
  (case k5 => k_is)
  (case a6 => k_is)
  (case l6 => k_is)
  (case c6 => k_is)
  (case k6 => k_is)
  (case a7 => k_is)
  (case l7 => k_is)
  (case c7 => k_is)
  (case k7 => k_is)
  (case a8 => k_is)
  (case l8 => k_is)
  (case c8 => k_is)
  (case k8 => k_is)
  (case a9 => k_is)
  (case l9 => k_is)
  (case c9 => k_is)
  (case k9 => k_is)
  (case a10 => k_is)
  (case l10 => k_is)
  (case c10 => k_is)
  (case k10 => k_is)
  (case a11 => k_is)
  (case l11 => k_is)
  (case c11 => k_is)
  (case k11 => k_is)
  (case a12 => k_is)
  (case l12 => k_is)
  (case c12 => k_is)
  (case k12 => k_is)
  (case a13 => k_is)
  (case l13 => k_is)
  (case c13 => k_is)
  (case k13 => k_is)
  (case a14 => k_is)
  (case l14 => k_is)
  (case c14 => k_is)
  (case k14 => k_is)
  (case a15 => k_is)
  (case l15 => k_is)
  (case c15 => k_is)
  (case k15 => k_is)
  (case a16 => k_is)
  (case l16 => k_is)
  (case c16 => k_is)
  (case k16 => k_is)
  (case a17 => k_is)
  (case l17 => k_is)
  (case c17 => k_is)
  (case k17 => k_is)
  (case a18 => k_is)
  (case l18 => k_is)
  (case c18 => k_is)
  (case k18 => k_is)
  (case a19 => k_is)
  (case l19 => k_is)
  (case c19 => k_is)
  (case k19 => k_is)
  (case a20 => k_is)
  (case l20 => k_is)
  (case c20 => k_is)
  (case k20 => k_is)
  (case a21 => k_is)
  (case l21 => k_is)
  (case c21 => k_is)
  (case k21 => k_is)
  (case z_len => k_is)
  (case z_zip => k_is)
  (case z_tuple => k_is)
  (case z_set => k_is)
  (case z_min => k_is)
  (case z_range => k_is)
  (case z_list => k_is)
  (case z_int => k_is)
  (case z_enumerate => k_is)
  (case z_sorted => k_is)
  (case z_reversed => k_is)
