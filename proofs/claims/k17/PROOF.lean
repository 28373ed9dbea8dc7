import PyProof.Rows.All
import Wide.All
import OpenK.AllK
import Wide.FinOn
import Lean
import PyProof.EqAt
import PyProof.EqKinds
import PyProof.TupleCall
import PyProof.NeData
import Wide.Seal
import Wide.OfPy
import KE.KSetDisp
import PySem.Challenge.RW_ledpast_k17_whole_known_tests_told
set_option maxHeartbeats 8000000
set_option Elab.async false
set_option linter.all false
set_option maxRecDepth 100000
namespace L2
open PySem PySem.Spec PyProof.Rows
abbrev Key:=Sum Int Str
def fE:Key->Value->Bool
 | .inl k,v=>Value.isInt k v
 | .inr x,v=>Value.isStrOf x v
def zA (w:World):Key->Int
 | .inl k=>hashInt k
 | .inr x=>hashStr w x
theorem bV:∀ {k:Key} {v:Value},fE k v=true->(∃ i t,k=Sum.inl i/\v=Value.int i t)\/(∃ x t,k=Sum.inr x/\v=Value.str x t)
 | .inl i,v,h=>by
  obtain⟨t,e⟩:=Value.isInt_shape (k:=i) (v:=v) h
  exact .inl ⟨i,t,rfl,e⟩
 | .inr x,v,h=>by
  obtain⟨t,e⟩:=Value.isStrOf_shape (x:=x) (v:=v) h
  exact .inr ⟨x,t,rfl,e⟩
theorem sQ (i:Int) (t:Tok):fE (.inl i) (.int i t)=true:=by simp [fE,Value.isInt]
theorem sR (x:Str) (t:Tok):fE (.inr x) (.str x t)=true:=by simp [fE,Value.isStrOf]
theorem xF (a b:Int):decide ((Sum.inl a:Key)=Sum.inl b)=(a == b):=by
 by_cases e:a=b
 ·subst e;simp
 ·have h:¬ (Sum.inl a:Key)=Sum.inl b:=fun q=>e (Sum.inl.inj q)
  rw [decide_eq_false h]
  exact (beq_eq_false_iff_ne.mpr e).symm
theorem xG (a b:Str):decide ((Sum.inr a:Key)=Sum.inr b)=decide (a=b):=by
 by_cases e:a=b
 ·subst e;simp
 ·have h:¬ (Sum.inr a:Key)=Sum.inr b:=fun q=>e (Sum.inr.inj q)
  rw [decide_eq_false h,decide_eq_false e]
theorem xH (a:Int) (b:Str):decide ((Sum.inl a:Key)=Sum.inr b)=false:=decide_eq_false (fun q=>nomatch q)
theorem xI (a:Str) (b:Int):decide ((Sum.inr a:Key)=Sum.inl b)=false:=decide_eq_false (fun q=>nomatch q)
def aB (prog:Program) (w:World):PySem.KeyKind prog w Key where
 is:=fE
 hash:=zA w
 inj:=fun v a b ha hb=>by
  rcases bV ha with ⟨i,t,rfl,rfl⟩ | ⟨x,t,rfl,rfl⟩
  ·rcases bV hb with ⟨j,u,rfl,e⟩ | ⟨y,u,rfl,e⟩
   ·injection e with e1 _;rw [e1]
   ·exact nomatch e
  ·rcases bV hb with ⟨j,u,rfl,e⟩ | ⟨y,u,rfl,e⟩
   ·exact nomatch e
   ·injection e with e1 _;rw [e1]
 byValue:=fun k v h=>by
  rcases bV h with ⟨i,t,rfl,rfl⟩ | ⟨x,t,rfl,rfl⟩ <;> rfl
 pyHash:=fun hv h=>by
  rcases bV hv with ⟨i,t,rfl,rfl⟩ | ⟨x,t,rfl,rfl⟩
  ·exact wpAny_pyHash_int h
  ·exact wpAny_pyHash_str h
 eqBool:=fun hu hv h=>by
  rcases bV hu with ⟨i,t,rfl,rfl⟩ | ⟨x,t,rfl,rfl⟩
  ·rcases bV hv with ⟨j,u,rfl,rfl⟩ | ⟨y,u,rfl,rfl⟩
   ·rw [xF] at h;exact wpAny_eqBool_int h
   ·rw [xH] at h;exact SeqAt.EqAt.int_str i t y u _ _ _ _ h
  ·rcases bV hv with ⟨j,u,rfl,rfl⟩ | ⟨y,u,rfl,rfl⟩
   ·rw [xI] at h;exact SeqAt.EqAt.str_int x t j u _ _ _ _ h
   ·rw [xG] at h;exact wpAny_eqBool_str h
 «strs»:=fun k x t v h=>by
  rcases bV h with ⟨i,u,rfl,e⟩ | ⟨y,u,rfl,e⟩
  ·exact nomatch e
  ·injection e with e1 _
   subst e1
   cases v <;> rfl
theorem jQ (prog:Program) (w:World) (i:Int) (t:Tok):(aB prog w).is (.inl i) (.int i t)=true:=sQ i t
theorem jR (prog:Program) (w:World) (x:Str) (t:Tok):(aB prog w).is (.inr x) (.str x t)=true:=sR x t
inductive V where
 | bx | bl (b:Bool) | int (i:Int) | str (x:Str) | ie (b:Array UInt8) | sS (b:UInt64) | ref (a:Addr) | ty (n:String)
 deriving DecidableEq
def RelV:V->Value->Prop
 | .bx,u=>u=Value.none
 | .bl b,u=>u=Value.bool b
 | .int i,u=>∃ t,u=Value.int i t
 | .str x,u=>∃ t,u=Value.str x t
 | .ie b,u=>∃ t,u=Value.bytes b t
 | .sS b,u=>∃ t,u=Value.float b t
 | .ref a,u=>u=Value.ref a
 | .ty n,u=>u=Value.type n
abbrev Vals:List V->List Value->Prop:=Paired RelV
theorem Vals.length {xs:List V} {us:List Value} (r:Vals xs us):xs.length=us.length:=Paired.length r
theorem Vals.get:∀ {xs:List V} {us:List Value} {i:Nat} {x:V},Vals xs us->xs[i]? = some x->∃ u,us[i]? = some u/\RelV x u
 | _,_,_,_,.nil,e=>by simp at e
 | _,_,0,_,.cons r _,e=>by simp at e;subst e;exact⟨_,rfl,r⟩
 | _,_,i+1,x,.cons _ t,e=>by
  obtain⟨u,h1,h2⟩:=Vals.get (i:=i) (x:=x) t (by simpa using e)
  exact⟨u,by simpa using h1,h2⟩
theorem Vals.set {x:V} {u:Value} (r:RelV x u):∀ {xs:List V} {us:List Value} (i:Nat),Vals xs us->Vals (xs.set i x) (us.set i u)
 | _,_,_,.nil=>.nil
 | _,_,0,.cons _ t=>.cons r t
 | _,_,i+1,.cons q t=>.cons q (Vals.set r i t)
theorem Vals.append:∀ {xs ys:List V} {us ws:List Value},Vals xs us->Vals ys ws->Vals (xs++ys) (us++ws)
 | _,_,_,_,.nil,s=>s
 | _,_,_,_,.cons r t,s=>.cons r (Vals.append t s)
theorem Vals.take:∀ {xs:List V} {us:List Value} (n:Nat),Vals xs us->Vals (xs.take n) (us.take n)
 | _,_,0,_=>.nil
 | _,_,_+1,.nil=>.nil
 | _,_,n+1,.cons r t=>.cons r (Vals.take n t)
theorem Vals.drop:∀ {xs:List V} {us:List Value} (n:Nat),Vals xs us->Vals (xs.drop n) (us.drop n)
 | _,_,0,r=>r
 | _,_,_+1,.nil=>.nil
 | _,_,n+1,.cons _ t=>Vals.drop n t
def dP:Option V->Option Value->Prop
 | some v,some u=>RelV v u
 | none,none=>True
 | _,_=>False
def KV {κ : Type}:List (κ × V)->List (κ × Value)->Prop:=Paired fun (p:κ × V) (q:κ × Value)=>p.1=q.1/\RelV p.2 q.2
def kV:Key->V
 | .inl i=>.int i
 | .inr x=>.str x
inductive HO where
 | lst (xs:List V)
 | tup (xs:List V)
 | dK (kvs:List (Key × V)) | dT (kvs:List (List Key × V))
 | set (S:Int->Bool) (n:Nat)
 | ins (C dx:Addr) (fs:List (Str × V))
 | own (x:Addr)
 | xd (fs:List (Str × V))
 | met (f x:Addr)
 | xJ (lo hi:Int)
 | jS (o:Obj) (u:HO)
 | oy (ps:Array Value)
 | ext (φ : Heap->Prop)
abbrev Hp:=Addr->Option HO
def upd (H:Hp) (a:Addr) (o:HO):Hp:=fun b=>if b=a then some o else H b
theorem ae {H:Hp} {a:Addr} {o:HO}:upd H a o a=some o:=by unfold upd;rw [if_pos rfl]
theorem av {H:Hp} {a b:Addr} {o:HO} (h:b ≠ a):upd H a o b=H b:=by unfold upd;rw [if_neg h]
theorem wL {H:Hp} {a:Addr} {o u:HO}:upd (upd H a o) a u=upd H a u:=by
 funext b;unfold upd;split <;> rfl
theorem bH {H:Hp} {a b:Addr} {o u:HO} (h:H a=some o) (h':H b=some u) (d:o ≠ u):a ≠ b:=by
 intro e;subst e;rw [h] at h';exact d (Option.some.inj h')
theorem aC {H:Hp} {a b:Addr} {o:HO} (h:H a=some o) (h':H b=none):a ≠ b:=by
 intro e;subst e;rw [h] at h';cases h'
section
variable (P:Program) (w:World)
def bI (H:Hp) (h:Heap) (a:Addr):HO->Prop
 | .lst xs=>xs.length<=sizeLine/\∃ (its:List Value) (n:Nat),Vals xs its/\h.get? a=some { cls:=.type "list",data:=.seq its.toArray n }
 | .tup xs=>xs.length<=sizeLine/\∃ its:List Value,Vals xs its/\∃ o,h.get? a=some o/\o.cls=.type "tuple" /\ ∃ n,o.data=.seq its.toArray n/\o.dict=none
 | .dK kvs=>kvs.length<=sizeLine/\(a == sysModules)=false/\∃ vs,KV kvs vs/\h.DictOf (aB P w) a vs
 | .dT kvs=>kvs.length<=sizeLine/\(a == sysModules)=false/\∃ xs:List (List Key × Addr × Value),
   Paired (fun (p:List Key × V) (q:List Key × Addr × Value)=>p.1=q.1/\H q.2.1=some (.tup (p.1.map kV))/\RelV p.2 q.2.2) kvs xs /\
   ∃ o es ep,h.get? a=some o/\o.ExactDict/\o.data=.dict es ep/\es.toList=xs.map (entryOfKey (tupleKind (aB P w)))/\(xs.map (·.1)).Nodup
 | .set S n=>h.SetOf (intKind P w) a S n
 | .ins C dx fs=>H dx=some (.own a)/\fs.length<=1000/\dx ≠ a/\h.get? a=some (PySem.W.instObj C dx) /\
   ∃ mA,h.Ns1 dx mA/\(∀ f,dP (fs.lookup f) (mA f))/\PySem.Within mA (fs.map (·.1))
 | .own _=>∃ o,h.get? a=some o
 | .xd fs=>∃ mA,h.Ns1 a mA/\∀ f,dP (fs.lookup f) (mA f)
 | .xJ lo hi=>∃ t u v,h.get? a=some { cls:=.type "range",data:=.fields #[.int lo t,.int hi u,.int 1 v] }
 | .jS o u=>h.get? a=some o/\bI H h a u
 | .oy ps=>h.get? a=some { cls:=.none,data:=.fields ps }
 | .met f x=>h.get? a=some (PySem.W.methodObj (.ref f) (.ref x))
 | .ext φ=>φ h/\(∃ o,h.get? a=some o)/\∀ h1 h2:Heap,φ h1->(∀ o,h1.get? a=some o->h2.get? a=some o)->φ h2
def cQ (H:Hp) (h:Heap):Prop:=∀ a o,H a=some o->bI P w H h a o
end
section
variable {P:Program} {w:World} {H H':Hp} {h h':Heap} {a:Addr} {o:HO}
theorem bI.lt (x:bI P w H h a o):a < h.objs.size:=by
 cases o with
 | lst xs=>obtain⟨_,_,_,_,e⟩:=x;exact Heap.lt_size e
 | tup xs=>obtain⟨_,_,_,p⟩:=x;exact (let ⟨o,e,_⟩:=p;Heap.lt_size e)
 | dK kvs=>obtain⟨_,_,_,_,o,_,_,e,_⟩:=x;exact Heap.lt_size e
 | dT kvs=>obtain⟨_,_,_,_,o,_,_,e,_⟩:=x;exact Heap.lt_size e
 | set S n=>obtain⟨o,_,_,_,e,_⟩:=x;exact Heap.lt_size e
 | ins C dx fs=>obtain⟨_,_,_,e,_⟩:=x;exact Heap.lt_size e
 | own y=>obtain⟨_,e⟩:=x;exact Heap.lt_size e
 | xd fs=>obtain⟨_,⟨_,_,_,e,_⟩,_⟩:=x;exact Heap.lt_size e
 | xJ lo hi=>obtain⟨_,_,_,e⟩:=x;exact Heap.lt_size e
 | jS ob u=>obtain⟨e,_⟩:=x;exact Heap.lt_size e
 | oy ps=>exact Heap.lt_size (show h.get? a=some _ from x)
 | met f y=>exact Heap.lt_size (show h.get? a=some _ from x)
 | ext φ=>obtain⟨_,⟨_,e⟩,_⟩:=x;exact Heap.lt_size e
theorem Paired.uH {α β : Type} {F G:α->β->Prop}:∀ {l₁ : List α} {l₂ : List β},Paired F l₁ l₂->(∀ a b,F a b->G a b)->Paired G l₁ l₂
 | _,_,.nil,_=>.nil
 | _,_,.cons r t,f=>.cons (f _ _ r) (Paired.uH t f)
theorem bI.mh (x:bI P w H h a o) (k:∀ b u,(b=a\/H b=some (.own a))->h.get? b=some u->h'.get? b=some u)
  (ho:∀ b,H b=some (.own a)->H' b=some (.own a)) (ht:∀ b xs,H b=some (.tup xs)->H' b=some (.tup xs)):bI P w H' h' a o:=by
 induction o with
 | lst xs=>obtain⟨z,its,n,r,e⟩:=x;exact⟨z,its,n,r,k _ _ (.inl rfl) e⟩
 | tup xs=>obtain⟨z,its,r,ob,e,c⟩:=x;exact⟨z,its,r,ob,k _ _ (.inl rfl) e,c⟩
 | dK kvs=>obtain⟨z,y,vs,r,ob,es,ep,e,c⟩:=x;exact⟨z,y,vs,r,ob,es,ep,k _ _ (.inl rfl) e,c⟩
 | dT kvs =>
  obtain⟨z,y,xs,r,ob,es,ep,e,c⟩:=x
  exact⟨z,y,xs,Paired.uH r fun p q z=>⟨z.1,ht _ _ z.2.1,z.2.2⟩,ob,es,ep,k _ _ (.inl rfl) e,c⟩
 | set S n=>obtain⟨ob,es,ep,t,e,c⟩:=x;exact⟨ob,es,ep,t,k _ _ (.inl rfl) e,c⟩
 | ins C dx fs =>
  obtain⟨d,z,ne,e,mA,⟨od,es,ep,e2,c⟩,r⟩:=x
  exact⟨ho _ d,z,ne,k _ _ (.inl rfl) e,mA,⟨od,es,ep,k _ _ (.inr d) e2,c⟩,r⟩
 | own y=>obtain⟨ob,e⟩:=x;exact⟨ob,k _ _ (.inl rfl) e⟩
 | xd fs=>obtain⟨mA,⟨od,es,ep,e,c⟩,r⟩:=x;exact⟨mA,⟨od,es,ep,k _ _ (.inl rfl) e,c⟩,r⟩
 | xJ lo hi=>obtain⟨t,u,v,e⟩:=x;exact⟨t,u,v,k _ _ (.inl rfl) e⟩
 | jS ob u ih=>obtain⟨e,q⟩:=x;exact⟨k _ _ (.inl rfl) e,ih q⟩
 | oy ps =>
  have e:h.get? a=some { cls:=.none,data:=.fields ps }:=x
  show h'.get? a=some { cls:=.none,data:=.fields ps }
  exact k a _ (.inl rfl) e
 | met f y =>
  have e:h.get? a=some (PySem.W.methodObj (.ref f) (.ref y)):=x
  show h'.get? a=some (PySem.W.methodObj (.ref f) (.ref y))
  exact k a _ (.inl rfl) e
 | ext φ=>obtain⟨p,⟨o,e⟩,st⟩:=x;exact⟨st _ _ p fun o q=>k _ _ (.inl rfl) q,⟨o,k _ _ (.inl rfl) e⟩,st⟩
theorem cQ.lt (x:cQ P w H h) (e:H a=some o):a < h.objs.size:=(x a o e).lt
theorem cQ.fresh (x:cQ P w H h) (e:h.objs.size<=a):H a=none:=by
 cases q:H a with
 | none=>rfl
 | some u=>exact absurd (Nat.lt_of_lt_of_le (x.lt q) e) (Nat.lt_irrefl _)
theorem cQ.kept (x:cQ P w H h) (k:∀ b u,h.get? b=some u->h'.get? b=some u):cQ P w H h':=fun a o e =>
 (x a o e).mh (fun b u _ q=>k b u q) (fun _ q=>q) fun _ _ q=>q
theorem cQ.laid (x:cQ P w H h) (k:∀ b u,h.get? b=some u->h'.get? b=some u) (hp:h.objs.size<=a) (new:bI P w (upd H a o) h' a o):cQ P w (upd H a o) h':=fun b u e=>by
 have hn:=x.fresh hp
 by_cases hb:b=a
 ·subst hb;rw [ae] at e;cases e;exact new
 ·rw [av hb] at e
  exact (x b u e).mh (fun c v _ q=>k c v q) (fun c q=>by rw [av (aC q hn)];exact q) fun c xs q=>by rw [av (aC q hn)];exact q
end
def Rd (H:Hp) (a:Addr) (u:HO):Prop:=H a=some u\/∃ o,H a=some (.jS o u)
theorem Rd.ok {P:Program} {w:World} {H:Hp} {h:Heap} {a:Addr} {u:HO} (r:Rd H a u) (x:cQ P w H h):bI P w H h a u:=by
 rcases r with r | ⟨o,r⟩
 ·exact x a u r
 ·obtain⟨_,q⟩:=x a _ r
  exact q
def sT:Option HO->Prop
 | some (.lst _)=>True
 | some (.dK _)=>True
 | some (.dT _)=>True
 | some (.set _ _)=>True
 | some (.ins _ _ _)=>True
 | some (.ext _)=>True
 | _=>False
section
variable {P:Program} {w:World} {H:Hp} {h h':Heap} {x e:Addr} {o':HO}
theorem cQ.write (ok:cQ P w H h) (mu:sT (H x)) (he:e=x\/H e=some (.own x)) (k:∀ b u,b ≠ e->h.get? b=some u->h'.get? b=some u) (heo:∃ u,h'.get? e=some u)
  (new:bI P w (upd H x o') h' x o'):cQ P w (upd H x o') h':=fun b u q=>by
 have nown:∀ c y,H c=some (.own y)->c ≠ x:=fun c y r z=>by subst z;rw [r] at mu;exact mu
 have ntup:∀ c xs,H c=some (.tup xs)->c ≠ x:=fun c xs r z=>by subst z;rw [r] at mu;exact mu
 by_cases hb:b=x
 ·subst hb;rw [ae] at q;cases q;exact new
 ·rw [av hb] at q
  by_cases hbe:b=e
  ·have q':H b=some (.own x):=by
    rcases he with z | z
    ·exact absurd (hbe.trans z) hb
    ·rw [hbe];exact z
   rw [q] at q';cases q'
   obtain⟨v,hv⟩:=heo
   exact⟨v,by rw [hbe];exact hv⟩
  ·refine (ok b u q).mh (fun c v hc r=>k c v ?_ r) (fun c r=>by rw [av (nown c b r)];exact r) fun c xs r=>by rw [av (ntup c xs r)];exact r
   rcases hc with rfl | hc
   ·exact hbe
   ·rintro rfl
    rcases he with z | z
    ·exact nown c b hc z
    ·rw [hc] at z;cases z;exact hb rfl
end
structure Un (fs ex:List Addr) (H H':Hp) (h h':Heap):Prop where
 keep:∀ b o,h.get? b=some o->H b=none->b ∉ fs->b ∉ ex->h'.get? b=some o
 slot:∀ b o,h.get? b=some o->H b=none->b ∈ fs->b ∉ ex->∃ sl,h'.get? b=some { o with slots:=sl }
 free:∀ b o,h.get? b=some o->H b=none->b ∉ ex->H' b=none
 there:∀ b o,h.get? b=some o->b ∉ ex->∃ o',h'.get? b=some o'
 aI:∀ b xs,H b=some (.tup xs)->H' b=some (.tup xs)
 iA:∀ b o u,H b=some (.jS o u)->H' b=some (.jS o u)
 iY:∀ b ps,H b=some (.oy ps)->∃ more,H' b=some (.oy (ps++more))
section
variable {fs fs' ex ex':List Addr} {H H1 H2:Hp} {h h1 h2 h':Heap} {a x e:Addr} {o:HO}
theorem Un.any (u:Un fs ex H H1 h h1) {b:Addr} {ob:Obj} (q:h.get? b=some ob) (n:H b=none) (hx:b ∉ ex):∃ sl,h1.get? b=some { ob with slots:=sl }:=by
 by_cases hb:b ∈ fs
 ·exact u.slot b ob q n hb hx
 ·exact⟨ob.slots,u.keep b ob q n hb hx⟩
theorem Un.kept (k:∀ b u,h.get? b=some u->h'.get? b=some u):Un fs ex H H h h' :=
 ⟨fun b ob q _ _ _=>k b ob q,fun b ob q _ _ _=>⟨ob.slots,k b ob q⟩,fun _ _ _ n _=>n,fun b ob q _=>⟨ob,k b ob q⟩,fun _ _ q=>q,fun _ _ _ q=>q,fun _ ps q=>⟨#[],by rw [q];simp⟩⟩
theorem Un.refl:Un fs ex H H h h:=Un.kept fun _ _ q=>q
theorem Un.laid (k:∀ b u,h.get? b=some u->h'.get? b=some u) (hp:h.objs.size<=a) (hn:H a=none):Un fs ex H (upd H a o) h h' where
 keep:=fun b u q _ _ _=>k b u q
 slot:=fun b u q _ _ _=>⟨u.slots,k b u q⟩
 free:=fun b u q n _=>by rw [av (Nat.ne_of_lt (Nat.lt_of_lt_of_le (Heap.lt_size q) hp))];exact n
 there:=fun b u q _=>⟨u,k b u q⟩
 aI:=fun b xs q=>by rw [av (aC q hn)];exact q
 iA:=fun b u xs q=>by rw [av (aC q hn)];exact q
 iY:=fun b ps q=>⟨#[],by rw [av (aC q hn),q];simp⟩
theorem Un.write (mu:sT (H x)) (he:e=x\/H e=some (.own x)) (k:∀ b u,b ≠ e->h.get? b=some u->h'.get? b=some u) (heo:∃ u,h'.get? e=some u):Un fs ex H (upd H x o) h h':=by
  have hx:∀ b,H b=none->b ≠ x:=fun b n z=>by subst z;rw [n] at mu;exact mu
  have hb:∀ b,H b=none->b ≠ e:=fun b n z=>by
    subst z
    rcases he with r | r
    · exact hx b n r
    · rw [n] at r;cases r
  have hm:∀ b u,H b=some u->¬ sT (some u)->b ≠ x:=fun b u q nm z=>by subst z;rw [q] at mu;exact nm mu
  refine⟨fun b u q n _ _=>k b u (hb b n) q,fun b u q n _ _=>⟨u.slots,k b u (hb b n) q⟩,fun b u q n _=>by rw [av (hx b n)];exact n,fun b u q _=>?_,
    fun b xs q=>by rw [av (hm b _ q fun z=>z)];exact q,fun b u xs q=>by rw [av (hm b _ q fun z=>z)];exact q,fun b ps q=>⟨#[],by rw [av (hm b _ q fun z=>z),q];simp⟩⟩
  by_cases hbe:b=e
  · subst hbe;exact heo
  · exact⟨u,k b u hbe q⟩
end
def v3 (h:Heap) (H:Hp):List Addr:=(List.range h.objs.size).filter fun a=>(H a).isSome
def iB (h:Heap) (H:Hp):Heap:=PySem.W.hideAll h (v3 h H)
theorem sU (h:Heap) (H:Hp):(iB h H).objs.size=h.objs.size:=PySem.W.hideAll_size _ _
theorem uI {h:Heap} {H:Hp} {b:Addr} {o:Obj} (e:h.get? b=some o) (n:H b=none):(iB h H).get? b=some o :=
 PySem.W.hideAll_get _ e fun hm=>by
  have q:(H b).isSome=true:=(List.mem_filter.mp hm).2
  rw [n] at q;simp at q
theorem wM {h:Heap} {H:Hp} {b:Addr} {o:Obj} (e:(iB h H).get? b=some o):h.get? b=some o/\H b=none:=by
 have e':h.get? b=some o:=PySem.W.of_hideAll (v3 h H) e
 refine⟨e',?_⟩
 cases q:H b with
 | none=>rfl
 | some x =>
  have hm:b ∈ v3 h H:=List.mem_filter.mpr ⟨List.mem_range.mpr (Heap.lt_size e'),by simp [q]⟩
  have z:(iB h H).get? b=none:=PySem.W.hideAll_none (v3 h H) hm
  rw [z] at e;cases e
def wN (g h:Heap) (L:Addr):List (Addr × Obj):=(List.range h.objs.size).filterMap fun a=>if a=L\/(g.get? a).isSome=true then none else (h.get? a).map fun o=>(a,o)
def rest (g h:Heap) (L d:Addr):List (Addr × Obj):=(wN g h L).filter fun p=>decide (p.1 ≠ d)
structure Mod (K:PySem.W.Frag) (mg:Str->Option Value) (base:Heap):Prop where
 ig:K.In base
 glob:base.Ns mainGlobals mg
 blt:∃ mb,base.Ns builtinsNs mb/\∀ x:Str,x ≠ "__name__" -> mb x=bootBuiltins x
 nolimit:base.NoLimit
structure Cx where
 prog:Program
 w:World
 K:PySem.W.Frag
 mg:Str->Option Value
 base:Heap
 A:Around
 N:List Str
 cV:Shared
 oz:Hp
 env:Env
 outer:List Env
 stack:List Env
 ex:List Addr
 fn:Str->Bool
 calm:Bool
 pn:List (Addr × Obj)
 xe:Value->Shared->Prop
def iZ (l:List Env):List Addr:=l.filterMap (·.frame)
abbrev Cx.fs (X:Cx):List Addr:=iZ X.outer
def xK (sc:Scope) (x:Str):Prop:=sc.names.lookup x=some .local\/sc.names.lookup x=some .cell\/sc.names.lookup x=some .free
def Loc (sc:Scope) (x:Str):Prop:=sc.names.lookup x=some .local\/sc.names.lookup x=some .cell
def Look (env:Env) (h:Heap) (m:Str->Option Value) (x:Str) (u:Value):Prop :=
 (env.kindOf x=some .local/\m x=some u)\/((env.kindOf x=some .cell\/env.kindOf x=some .free)/\∃ c,env.cells.lookup x=some c/\h.IsCell c (some u))
structure Cx.Ok (X:Cx):Prop where
 mod:Mod X.K X.mg X.base
 kind:X.env.scope.kind=.function
 glob:X.env.globals=mainGlobals
 blt:X.env.builtins=builtinsNs
 above:X.cV.heap.objs.size<=X.env.locals
 inj:∀ x y c,X.env.cells.lookup x=some c->X.env.cells.lookup y=some c->x=y
 has:∀ x,(X.env.kindOf x=some .cell\/X.env.kindOf x=some .free)->∃ c,X.env.cells.lookup x=some c
 sV:∀ x c,X.fn x=true->X.env.cells.lookup x=some c->X.cV.heap.objs.size<=c
 hd:X.calm=true->X.A.handled=none
 frames:X.A.frames=some X.stack
 v5:X.stack=X.outer\/(X.stack=X.env :: X.outer/\X.env.frame=some X.env.locals)
 zp:∀ b ∈ X.ex,b ≠ X.env.locals/\∀ x c,X.env.cells.lookup x=some c->c ≠ b
 bs:∀ b o,X.base.get? b=some o->X.cV.heap.get? b=some o/\X.oz b=none
 kO:X.base.objs.size<=X.cV.heap.objs.size
 oA:∀ b o,X.base.get? b=some o->b ∉ X.ex
 q8:∀ b ∈ X.ex,b ∉ X.fs
 fN:X.cV.heap.FunFrames X.base X.outer
 oB:∀ b ∈ X.fs,X.oz b=none
structure Inv (X:Cx) (pins:List (Addr × Obj)) (σ : List (Option V)) (H:Hp) (s:Shared):Prop where
 ok:X.Ok
 os:s.os=X.cV.os
 bare:AllBare s.gens
 base:Un X.fs X.ex X.oz H X.cV.heap s.heap
 loc:∃ m,s.heap.Ns X.env.locals m/\∀ (i:Nat) (x:Str) (v:V),X.N[i]? = some x->σ[i]? = some (some v)->xK X.env.scope x->∃ u,RelV v u/\Look X.env s.heap m x u
 cell:∀ x c,X.env.cells.lookup x=some c->∃ v,s.heap.IsCell c v
 free:H X.env.locals=none
 eE:∀ x c,X.env.cells.lookup x=some c->H c=none
 pin:∀ p ∈ X.pn++pins,s.heap.get? p.1=some p.2/\H p.1=none/\p.1 ≠ X.env.locals/\p.1 ∉ X.fs/\∀ v,p.2.data ≠ .cell v
 aL:cQ X.prog X.w H s.heap
 len:σ.length=X.N.length
section
variable {X:Cx} {pins:List (Addr × Obj)} {σ : List (Option V)} {H H':Hp} {s:Shared} {h':Heap}
theorem Cx.Ok.zB (ok:X.Ok) {b:Addr} {o:Obj} (e:X.base.get? b=some o):b ∉ X.fs:=fun hb=>by
 have:=(ok.fN.mem hb).1
 rw [e] at this;cases this
theorem Inv.bs (I:Inv X pins σ H s):∀ b o,X.base.get? b=some o->s.heap.get? b=some o/\H b=none:=fun b o e =>
 ⟨I.base.keep b o (I.ok.bs b o e).1 (I.ok.bs b o e).2 (I.ok.zB e) (I.ok.oA b o e),I.base.free b o (I.ok.bs b o e).1 (I.ok.bs b o e).2 (I.ok.oA b o e)⟩
theorem Inv.bk (I:Inv X pins σ H s):∀ b o,X.base.get? b=some o->s.heap.get? b=some o:=fun b o e=>(I.bs b o e).1
theorem Inv.mod (I:Inv X pins σ H s):Mod X.K X.mg X.base:=I.ok.mod
theorem Inv.fR (I:Inv X pins σ H s):X.K.In s.heap:=I.ok.mod.ig.keeps I.bk
theorem Inv.lt (I:Inv X pins σ H s):X.env.locals < s.heap.objs.size:=let ⟨_,hn,_⟩:=I.loc;hn.lt
theorem Inv.sz (I:Inv X pins σ H s):X.cV.heap.objs.size<=s.heap.objs.size:=Nat.le_trans I.ok.above (Nat.le_of_lt I.lt)
theorem Inv.zC (I:Inv X pins σ H s) {a:Addr} (h:s.heap.objs.size<=a):a ∉ X.fs:=fun hb=>by
 obtain⟨_,o,ho,_⟩:=I.ok.fN.mem hb
 exact absurd (Nat.lt_of_lt_of_le (Heap.lt_size ho) (Nat.le_trans I.sz h)) (Nat.lt_irrefl _)
theorem Inv.oC (I:Inv X pins σ H s):∀ x c,X.env.cells.lookup x=some c->c ≠ X.env.locals:=fun x c e z=>by
 obtain⟨v,o,ho,hd⟩:=I.cell x c e
 obtain⟨m,⟨o',es,ep,ho',hd',_⟩,_⟩:=I.loc
 rw [z,ho'] at ho;cases ho;rw [hd'] at hd;cases hd
theorem Inv.fN (I:Inv X pins σ H s):s.heap.FunFrames X.base X.outer:=by
 have all:∀ (l:List Env),(∀ b ∈ iZ l,b ∈ X.fs)->X.cV.heap.FunFrames X.base l->s.heap.FunFrames X.base l:=by
  intro l
  induction l with
  | nil=>intro _ _;trivial
  | cons env r ih =>
   intro hs hl
   obtain⟨hk,⟨L,o,hf,hn,ho,hd⟩,hr⟩:=hl
   have hL:L ∈ X.fs:=hs L (by unfold iZ;rw [List.filterMap_cons,hf];exact List.mem_cons_self)
   obtain⟨sl,e⟩:=I.base.slot L o ho (I.ok.oB L hL) hL fun z=>I.ok.q8 L z hL
   exact⟨hk,⟨L,_,hf,hn,e,hd⟩,ih (fun b hb=>hs b (by unfold iZ;rw [List.filterMap_cons,hf];exact List.mem_cons_of_mem _ hb)) hr⟩
 exact all X.outer (fun _ hb=>hb) I.ok.fN
theorem Inv.stack (I:Inv X pins σ H s):s.heap.FunFrames X.base X.stack:=by
 rcases I.ok.v5 with e | ⟨e,hf⟩
 ·rw [e];exact I.fN
 ·rw [e]
  obtain⟨m,hn,_⟩:=I.loc
  refine .cons (by rw [I.ok.kind];decide) hf hn ?_ I.fN
  exact Heap.get?_none_of_le (Nat.le_trans I.ok.kO I.ok.above)
theorem Inv.kP (I:Inv X pins σ H s):∀ b ∈ iZ X.stack,b ∈ X.env.locals :: X.fs:=fun b hb=>by
 rcases I.ok.v5 with e | ⟨e,hf⟩
 ·rw [e] at hb;exact List.mem_cons_of_mem _ hb
 ·rw [e] at hb
  unfold iZ at hb
  rw [List.filterMap_cons,hf] at hb
  exact hb
theorem Inv.qq (I:Inv X pins σ H s):∀ b ∈ iZ X.stack,H b=none:=fun b hb=>by
 rcases List.mem_cons.mp (I.kP b hb) with e | hb
 ·rw [e];exact I.free
 ·obtain⟨_,o,ho,_⟩:=I.ok.fN.mem hb
  exact I.base.free b o ho (I.ok.oB b hb) fun z=>I.ok.q8 b z hb
theorem Inv.step {g':Array GenState} {t':Nat} {d':Drawn} {ch:List Addr} (I:Inv X pins σ H s)
  (hch:∀ b ∈ ch,(b ∈ X.ex\/X.cV.heap.objs.size<=b)/\b ≠ X.env.locals/\(∀ x c,X.env.cells.lookup x=some c->c ≠ b)/\∀ p ∈ X.pn++pins,p.1 ≠ b)
  (keep:∀ b o,b ≠ X.env.locals->b ∉ X.fs->b ∉ ch->s.heap.get? b=some o->H b=none->h'.get? b=some o)
  (slot:∀ b o,b ≠ X.env.locals->b ∈ X.fs->b ∉ ch->s.heap.get? b=some o->H b=none->∃ sl,h'.get? b=some { o with slots:=sl }) (free:∀ b o,b ∉ ch->s.heap.get? b=some o->H b=none->H' b=none)
  (there:∀ b o,b ∉ ch->s.heap.get? b=some o->∃ o',h'.get? b=some o')
  (aI:∀ b xs,H b=some (.tup xs)->H' b=some (.tup xs)) (iA:∀ b o u,H b=some (.jS o u)->H' b=some (.jS o u)) (iY:∀ b ps,H b=some (.oy ps)->∃ more,H' b=some (.oy (ps++more)))
  (ns:∀ m,s.heap.Ns X.env.locals m->h'.Ns X.env.locals m) (aL:cQ X.prog X.w H' h') (hg:AllBare g') :
  Inv X pins σ H' { s with heap:=h',gens:=g',drawn:=d',toks:=t' }:=by
 have neL:∀ b o,X.cV.heap.get? b=some o->b ≠ X.env.locals:=fun b o e=>Nat.ne_of_lt (Nat.lt_of_lt_of_le (Heap.lt_size e) I.ok.above)
 have neC:∀ b o,X.cV.heap.get? b=some o->b ∉ X.ex->b ∉ ch:=fun b o e hx hb=>by
  rcases (hch b hb).1 with z | z
  ·exact hx z
  ·exact absurd (Nat.lt_of_lt_of_le (Heap.lt_size e) z) (Nat.lt_irrefl _)
 have cellK:∀ x c,X.env.cells.lookup x=some c->∀ v,s.heap.IsCell c v->h'.IsCell c v:=fun x c e v ⟨o,ho,hd⟩=>by
  have nch:c ∉ ch:=fun z=>(hch c z).2.2.1 x c e rfl
  by_cases hc:c ∈ X.fs
  ·obtain⟨sl,q⟩:=slot c o (I.oC x c e) hc nch ho (I.eE x c e)
   exact⟨_,q,hd⟩
  ·exact⟨o,keep c o (I.oC x c e) hc nch ho (I.eE x c e),hd⟩
 refine⟨I.ok,I.os,hg,⟨fun b o e n hb hx=>?_,fun b o e n hb hx=>?_,fun b o e n hx=>?_,fun b o e hx=>?_,fun b xs e=>aI b xs (I.base.aI b xs e),fun b o xs e=>iA b o xs (I.base.iA b o xs e),fun b ps e=>?_⟩,?_,fun x c e=>?_,?_,fun x c e=>?_,fun p hp=>?_,aL,I.len⟩
 ·exact keep b o (neL b o e) hb (neC b o e hx) (I.base.keep b o e n hb hx) (I.base.free b o e n hx)
 ·obtain⟨sl,e1⟩:=I.base.slot b o e n hb hx
  obtain⟨sl',e2⟩:=slot b _ (neL b o e) hb (neC b o e hx) e1 (I.base.free b o e n hx)
  exact⟨sl',e2⟩
 ·obtain⟨o',e1⟩:=I.base.there b o e hx
  exact free b o' (neC b o e hx) e1 (I.base.free b o e n hx)
 ·obtain⟨o',e1⟩:=I.base.there b o e hx
  exact there b o' (neC b o e hx) e1
 ·obtain⟨m1,e1⟩:=I.base.iY b ps e
  obtain⟨m2,e2⟩:=iY b _ e1
  exact⟨m1++m2,by rw [e2,Array.append_assoc]⟩
 ·obtain⟨m,hn,hl⟩:=I.loc
  refine⟨m,ns m hn,fun i x v e1 e2 e3=>?_⟩
  obtain⟨u,r,l⟩:=hl i x v e1 e2 e3
  refine⟨u,r,?_⟩
  rcases l with l | ⟨k,c,e,z⟩
  ·exact .inl l
  ·exact .inr ⟨k,c,e,cellK x c e _ z⟩
 ·obtain⟨v,z⟩:=I.cell x c e
  exact⟨v,cellK x c e v z⟩
 ·obtain⟨m,⟨o,_,_,ho,_⟩,_⟩:=I.loc
  exact free _ o (fun z=>(hch _ z).2.1 rfl) ho I.free
 ·obtain⟨v,o,ho,hd⟩:=I.cell x c e
  exact free c o (fun z=>(hch c z).2.2.1 x c e rfl) ho (I.eE x c e)
 ·obtain⟨e,n,ne,nf,d⟩:=I.pin p hp
  have nch:p.1 ∉ ch:=fun z=>(hch p.1 z).2.2.2 p hp rfl
  exact⟨keep p.1 p.2 ne nf nch e n,free p.1 p.2 nch e n,ne,nf,d⟩
theorem Inv.un {t':Nat} (I:Inv X pins σ H s) (u:Un X.fs [] H H' s.heap h') (aL:cQ X.prog X.w H' h'):Inv X pins σ H' { s with heap:=h',toks:=t' }:=by
  obtain⟨m,⟨o,es,ep,ho,r⟩,_⟩:=id I.loc
  obtain⟨sl,hL⟩:=u.any ho I.free (by simp)
  exact I.step (g':=s.gens) (d':=s.drawn) (ch:=[]) (fun _ z=>nomatch z) (fun b o _ hb _ e n=>u.keep b o e n hb (by simp)) (fun b o _ hb _ e n=>u.slot b o e n hb (by simp)) (fun b o _ e n=>u.free b o e n (by simp)) (fun b o _ e=>u.there b o e (by simp)) u.aI u.iA u.iY (fun m' hm=>by
    obtain⟨o',es',ep',ho',r'⟩:=hm
    rw [ho] at ho';cases ho'
    exact⟨_,es',ep',hL,r'⟩) aL I.bare
theorem Inv.call {g':Array GenState} {t':Nat} {d':Drawn} {ch:List Addr} (I:Inv X pins σ H s) (u:Un (iZ X.stack) ch H H' s.heap h') (aL:cQ X.prog X.w H' h') (hg:AllBare g')
  (hch:∀ b ∈ ch,(b ∈ X.ex\/X.cV.heap.objs.size<=b)/\b ≠ X.env.locals/\(∀ x c,X.env.cells.lookup x=some c->c ≠ b)/\∀ p ∈ X.pn++pins,p.1 ≠ b) :
  Inv X pins σ H' { s with heap:=h',gens:=g',drawn:=d',toks:=t' }:=by
 obtain⟨m,⟨o,es,ep,ho,r⟩,_⟩:=id I.loc
 obtain⟨sl,hL⟩:=u.any ho I.free fun z=>(hch _ z).2.1 rfl
 exact I.step (ch:=ch) hch (fun b o hL hb hc e n=>u.keep b o e n (fun z=>(List.mem_cons.mp (I.kP b z)).elim hL hb) hc) (fun b o _ _ hc e n=>u.any e n hc) (fun b o hc e n=>u.free b o e n hc) (fun b o hc e=>u.there b o e hc) u.aI u.iA u.iY (fun m' hm=>by
  obtain⟨o',es',ep',ho',r'⟩:=hm
  rw [ho] at ho';cases ho'
  exact⟨_,es',ep',hL,r'⟩) aL hg
theorem Inv.turned {t':Nat} {it:Addr} (I:Inv X pins σ H s) (k:∀ b o,b ≠ it->s.heap.get? b=some o->h'.get? b=some o) (hn:H it=none) (hL:it ≠ X.env.locals)
  (h1:it ∈ X.ex\/X.cV.heap.objs.size<=it) (h2:∀ x c,X.env.cells.lookup x=some c->c ≠ it) (h3:∀ p ∈ X.pn++pins,p.1 ≠ it):Inv X pins σ H { s with heap:=h',toks:=t' }:=by
 have nit:∀ b u,H b=some u->b ≠ it:=fun b u e z=>by rw [z,hn] at e;cases e
 refine I.step (g':=s.gens) (d':=s.drawn) (ch:=[it]) (fun b hb=>?_) (fun b o _ _ hc e _=>k b o (fun z=>hc (by simp [z])) e) (fun b o _ _ hc e _=>⟨o.slots,k b o (fun z=>hc (by simp [z])) e⟩) (fun _ _ _ _ n=>n)
  (fun b o hc e=>⟨o,k b o (fun z=>hc (by simp [z])) e⟩) (fun _ _ e=>e) (fun _ _ _ e=>e) (fun b ps e=>⟨#[],by rw [e];simp⟩) (fun m hm=>?_) (fun b u e=>?_) I.bare
 ·have e:b=it:=by simpa using hb
  subst e
  exact⟨h1,hL,h2,h3⟩
 ·obtain⟨o,es,ep,ho,r⟩:=hm
  exact⟨o,es,ep,k _ o (Ne.symm hL) ho,r⟩
 ·refine (I.aL b u e).mh (fun c v hc q=>k c v ?_ q) (fun _ q=>q) fun _ _ q=>q
  rcases hc with z | z
  ·rw [z];exact nit b u e
  ·exact nit c _ z
theorem Inv.tok (I:Inv X pins σ H s) (t:Nat):Inv X pins σ H { s with toks:=t }:=I.un (h':=s.heap) (t':=t) Un.refl I.aL
theorem Inv.kept {t':Nat} (I:Inv X pins σ H s) (k:∀ b u,s.heap.get? b=some u->h'.get? b=some u):Inv X pins σ H { s with heap:=h',toks:=t' }:=I.un (Un.kept k) (I.aL.kept k)
theorem Inv.laid {a:Addr} {o:HO} {t':Nat} (I:Inv X pins σ H s) (k:∀ b u,s.heap.get? b=some u->h'.get? b=some u) (hp:s.heap.objs.size<=a) (new:bI X.prog X.w (upd H a o) h' a o) :
  Inv X pins σ (upd H a o) { s with heap:=h',toks:=t' }:=I.un (Un.laid k hp (I.aL.fresh hp)) (I.aL.laid k hp new)
theorem Inv.write {x e:Addr} {o:HO} {t':Nat} (I:Inv X pins σ H s) (mu:sT (H x)) (he:e=x\/H e=some (.own x)) (k:∀ b u,b ≠ e->s.heap.get? b=some u->h'.get? b=some u) (heo:∃ u,h'.get? e=some u)
  (new:bI X.prog X.w (upd H x o) h' x o):Inv X pins σ (upd H x o) { s with heap:=h',toks:=t' }:=I.un (Un.write mu he k heo) (I.aL.write mu he k heo new)
theorem Inv.qr {pins':List (Addr × Obj)} (I:Inv X pins σ H s) (h:∀ p ∈ pins',s.heap.get? p.1=some p.2/\H p.1=none/\p.1 ≠ X.env.locals/\p.1 ∉ X.fs/\∀ v,p.2.data ≠ .cell v):Inv X pins' σ H s :=
 ⟨I.ok,I.os,I.bare,I.base,I.loc,I.cell,I.free,I.eE,fun p hp=>(List.mem_append.mp hp).elim (fun z=>I.pin p (List.mem_append_left _ z)) (h p),I.aL,I.len⟩
theorem oE {N:List Str} (hN:N.Nodup) {i j:Nat} {x:Str} (a:N[i]? = some x) (b:N[j]? = some x):i=j:=by
 obtain⟨h1,e1⟩:=List.getElem?_eq_some_iff.mp a
 obtain⟨h2,e2⟩:=List.getElem?_eq_some_iff.mp b
 exact (List.getElem_inj hN).mp (e1.trans e2.symm)
theorem m7 {M:Model} {A:Around} {E:Value->Shared->Prop} {i:Nat} {x:Str} {v:V} {u:Value} {Q:Unit->Shared->Prop} (I:Inv X pins σ H s) (hN:X.N.Nodup) (hi:X.N[i]? = some x) (hx:Loc X.env.scope x) (r:RelV v u)
  (h:∀ s',Inv X pins (σ.set i (some v)) H s'->(∃ a,Heap.SameBut a s.heap s'.heap/\(a=X.env.locals\/X.env.cells.lookup x=some a))->Q () s') (hf:X.fn x=true\/X.env.scope.names.lookup x=some .local:=by first | exact .inl rfl | exact .inr rfl | assumption):wpAny M A (storeName X.env x u) Q E s:=by
 obtain⟨m,hn,hl⟩:=id I.loc
 have hcls:(X.env.scope.kind == .class || (X.env.scope.kind == .module && X.env.locals != X.env.globals))=false:=by rw [I.ok.kind];rfl
 have hiσ : i < σ.length:=by rw [I.len];exact (List.getElem?_eq_some_iff.mp hi).1
 have oC:=I.oC
 have tracked:∀ {a:Addr} {h':Heap},(∃ o,s.heap.get? a=some o/\H a=none)->Heap.SameBut a s.heap h'->cQ X.prog X.w H h':=fun {a h'} ha hs b ob e=>by
  obtain⟨_,_,hfree⟩:=ha
  refine (I.aL b ob e).mh (fun c w' hc q=>(hs.2 c ?_).trans q) (fun _ q=>q) fun _ _ q=>q
  rintro rfl
  rcases hc with rfl | hc
  ·rw [hfree] at e;cases e
  ·rw [hfree] at hc;cases hc
 rcases hx with hk | hk
 ·refine wpAny_storeName_local hk hn (fun h' hn' hs=>?_) hcls
  obtain⟨oL,_,_,hoL,_⟩:=id hn
  refine h _ ⟨I.ok,I.os,I.bare,⟨fun b o e n hb hx=>?_,fun b o e n hb hx=>?_,I.base.free,fun b o e hx=>?_,I.base.aI,I.base.iA,I.base.iY⟩,⟨_,hn',fun j y v' e1 e2 e3=>?_⟩,fun y c e=>?_,I.free,I.eE,fun p hp=>?_,tracked ⟨oL,hoL,I.free⟩ hs,by simpa using I.len⟩ ⟨_,hs,.inl rfl⟩
  ·exact (hs.2 b (Nat.ne_of_lt (Nat.lt_of_lt_of_le (Heap.lt_size e) I.ok.above))).trans (I.base.keep b o e n hb hx)
  ·obtain⟨sl,e1⟩:=I.base.slot b o e n hb hx
   exact⟨sl,(hs.2 b (Nat.ne_of_lt (Nat.lt_of_lt_of_le (Heap.lt_size e) I.ok.above))).trans e1⟩
  ·obtain⟨o',e1⟩:=I.base.there b o e hx
   exact⟨o',(hs.2 b (Nat.ne_of_lt (Nat.lt_of_lt_of_le (Heap.lt_size e) I.ok.above))).trans e1⟩
  ·by_cases hj:j=i
   ·subst hj
    rw [hi] at e1;cases e1
    rw [List.getElem?_set_self hiσ] at e2
    cases e2
    exact⟨u,r,.inl ⟨hk,by simp⟩⟩
   ·rw [List.getElem?_set_ne (Ne.symm hj)] at e2
    obtain⟨u',r',q⟩:=hl j y v' e1 e2 e3
    refine⟨u',r',?_⟩
    rcases q with ⟨k,e⟩ | ⟨k,c,e,z⟩
    ·refine .inl ⟨k,?_⟩
     have:y ≠ x:=fun e=>hj (oE hN e1 (e ▸ hi))
     simp [this,e]
    ·exact .inr ⟨k,c,e,z.sameBut hs (oC y c e)⟩
  ·obtain⟨w',z⟩:=I.cell y c e
   exact⟨w',z.sameBut hs (oC y c e)⟩
  ·obtain⟨e,n,ne,nf,d⟩:=I.pin p hp
   exact⟨(hs.2 p.1 ne).trans e,n,ne,nf,d⟩
 ·have hfn:X.fn x=true:=by
   rcases hf with z | z
   ·exact z
   ·rw [z] at hk;cases hk
  obtain⟨c,hc⟩:=I.ok.has x (.inl hk)
  obtain⟨w',z⟩:=I.cell x c hc
  refine wpAny_storeName_cell I.ok.kind hk hc z (fun h' hc' hs=>?_)
  obtain⟨oc,hoc,hocd⟩:=id z
  refine h { s with heap:=h' } ⟨I.ok,I.os,I.bare,⟨fun b o e n hb hx=>?_,fun b o e n hb hx=>?_,I.base.free,fun b o e hx=>?_,I.base.aI,I.base.iA,I.base.iY⟩,⟨m,hn.sameBut hs (Ne.symm (oC x c hc)),fun j y v' e1 e2 e3=>?_⟩,fun y c' e=>?_,I.free,I.eE,fun p hp=>?_,tracked ⟨oc,hoc,I.eE x c hc⟩ hs,by simpa using I.len⟩ ⟨c,hs,.inr hc⟩
  ·exact (hs.2 b (Nat.ne_of_lt (Nat.lt_of_lt_of_le (Heap.lt_size e) (I.ok.sV x c hfn hc)))).trans (I.base.keep b o e n hb hx)
  ·obtain⟨sl,e1⟩:=I.base.slot b o e n hb hx
   exact⟨sl,(hs.2 b (Nat.ne_of_lt (Nat.lt_of_lt_of_le (Heap.lt_size e) (I.ok.sV x c hfn hc)))).trans e1⟩
  ·obtain⟨o',e1⟩:=I.base.there b o e hx
   exact⟨o',(hs.2 b (Nat.ne_of_lt (Nat.lt_of_lt_of_le (Heap.lt_size e) (I.ok.sV x c hfn hc)))).trans e1⟩
  ·by_cases hj:j=i
   ·subst hj
    rw [hi] at e1;cases e1
    rw [List.getElem?_set_self hiσ] at e2
    cases e2
    exact⟨u,r,.inr ⟨.inl hk,c,hc,hc'⟩⟩
   ·rw [List.getElem?_set_ne (Ne.symm hj)] at e2
    obtain⟨u',r',q⟩:=hl j y v' e1 e2 e3
    refine⟨u',r',?_⟩
    rcases q with q | ⟨k,c',e,z'⟩
    ·exact .inl q
    ·refine .inr ⟨k,c',e,z'.sameBut hs ?_⟩
     rintro rfl
     exact hj (oE hN e1 (I.ok.inj _ _ _ e hc ▸ hi))
  ·by_cases hcc:c' = c
   ·subst hcc;exact⟨_,hc'⟩
   ·obtain⟨w2,z2⟩:=I.cell y c' e
    exact⟨w2,z2.sameBut hs hcc⟩
  ·obtain⟨e,n,ne,nf,d⟩:=I.pin p hp
   refine⟨(hs.2 p.1 ?_).trans e,n,ne,nf,d⟩
   intro q
   rw [q,hoc] at e
   have q':oc=p.2:=Option.some.inj e
   exact d w' (by rw [<-q'];exact hocd)
theorem iC {M:Model} {A:Around} {E:Value->Shared->Prop} {i:Nat} {x:Str} {v:V} {u:Value} {Q:Unit->Shared->Prop} (I:Inv X pins σ H s) (hN:X.N.Nodup) (hi:X.N[i]? = some x) (hx:Loc X.env.scope x) (r:RelV v u)
  (h:∀ s',Inv X pins (σ.set i (some v)) H s'->Q () s') (hf:X.fn x=true\/X.env.scope.names.lookup x=some .local:=by first | exact .inl rfl | exact .inr rfl | assumption):wpAny M A (storeName X.env x u) Q E s :=
 m7 I hN hi hx r (fun s' I' _=>h s' I') hf
theorem Inv.yS {s':Shared} {ch:List Addr} (I:Inv X pins σ H s) (ho:s'.os=s.os) (u:Un (iZ X.stack) ch H H' s.heap s'.heap) (aL:cQ X.prog X.w H' s'.heap) (hg:AllBare s'.gens)
  (hch:∀ b ∈ ch,(b ∈ X.ex\/X.cV.heap.objs.size<=b)/\b ≠ X.env.locals/\(∀ x c,X.env.cells.lookup x=some c->c ≠ b)/\∀ p ∈ X.pn++pins,p.1 ≠ b):Inv X pins σ H' s':=by
 obtain⟨h',g',d',t',o'⟩:=s'
 have e:o' = s.os:=ho
 subst e
 exact I.call (g':=g') (t':=t') (d':=d') u aL hg hch
end
abbrev XK:=Value->Option Addr->Hp->Prop
abbrev St:=List (Option V)
abbrev VK:=V->Hp->Prop
abbrev TE:=St->Hp->VK->Prop
abbrev TT:=St->Hp->(Bool->Hp->Prop)->Prop
abbrev TA:=St->Hp->(List V->Hp->Prop)->Prop
structure Ends where
 nx:St->Hp->Prop
 rt:VK
 bk:St->Hp->Prop:=fun _ _=>False
 ct:St->Hp->Prop:=fun _ _=>False
abbrev TS:=Ends->St->Hp->Prop
def EP (X:Cx) (pins:List (Addr × Obj)) (σ : St) (Q:VK) (u:Value) (s':Shared):Prop:=∃ v H',Inv X pins σ H' s'/\RelV v u/\Q v H'
def TP (X:Cx) (pins:List (Addr × Obj)) (σ : St) (Q:Bool->Hp->Prop) (b:Bool) (s':Shared):Prop:=∃ H',Inv X pins σ H' s'/\Q b H'
def AP (X:Cx) (pins:List (Addr × Obj)) (σ : St) (Q:List V->Hp->Prop) (us:List Value) (s':Shared):Prop:=∃ vs H',Inv X pins σ H' s'/\Vals vs us/\Q vs H'
def SP (X:Cx) (pins:List (Addr × Obj)) (D:Ends) (f:Flow) (s':Shared):Prop :=
 match f with
 | .next=>∃ σ' H',Inv X pins σ' H' s'/\D.nx σ' H'
 | .brk=>∃ σ' H',Inv X pins σ' H' s'/\D.bk σ' H'
 | .cont=>∃ σ' H',Inv X pins σ' H' s'/\D.ct σ' H'
 | .ret u=>∃ v σ' H',Inv X pins σ' H' s'/\RelV v u/\D.rt v H'
def PE (X:Cx) (e:Expr) (t:TE):Prop :=
 ∀ (pins:List (Addr × Obj)) (s:Shared) (σ : St) (H:Hp) (Q:VK),Inv X pins σ H s->t σ H Q->wpAny (model X.prog X.w) X.A (eval e X.env) (EP X pins σ Q) X.xe s
def PT (X:Cx) (e:Expr) (t:TT):Prop :=
 ∀ (pins:List (Addr × Obj)) (s:Shared) (σ : St) (H:Hp) (Q:Bool->Hp->Prop),Inv X pins σ H s->t σ H Q->wpAny (model X.prog X.w) X.A (isTrue e X.env (eval e X.env)) (TP X pins σ Q) X.xe s
def PW (X:Cx) (e:Expr) (t:TT):Prop :=
 ∀ (whole:Sem Value) (pins:List (Addr × Obj)) (s:Shared) (σ : St) (H:Hp) (Q:Bool->Hp->Prop),Inv X pins σ H s->t σ H Q->wpAny (model X.prog X.w) X.A (isTrue e X.env whole) (TP X pins σ Q) X.xe s
theorem PW.pt {X:Cx} {e:Expr} {t:TT} (h:PW X e t):PT X e t:=h _
def PA (X:Cx) (es:List Expr) (t:TA):Prop :=
 ∀ (pos:Pos) (pins:List (Addr × Obj)) (s:Shared) (σ : St) (H:Hp) (Q:List V->Hp->Prop),Inv X pins σ H s->t σ H Q->wpAny (model X.prog X.w) X.A (spliced (backTo pos (starEach es X.env))) (AP X pins σ Q) X.xe s
def PS (X:Cx) (st:Stmt) (t:TS):Prop :=
 ∀ (pins:List (Addr × Obj)) (s:Shared) (σ : St) (H:Hp) (D:Ends),Inv X pins σ H s->t D σ H->wpAny (model X.prog X.w) X.A (exec st X.env) (SP X pins D) X.xe s
def gU (X:Cx) (st:List Stmt) (t:TS):Prop :=
 ∀ (pins:List (Addr × Obj)) (s:Shared) (σ : St) (H:Hp) (D:Ends),Inv X pins σ H s->t D σ H->wpAny (model X.prog X.w) X.A (execs st X.env) (SP X pins D) X.xe s
theorem aJ {α : Type} {t:Sem α} {Q Q':α->Shared->Prop} {M:Model} {A:Around} {E:Value->Shared->Prop} {s:Shared} (h:wpAny M A t Q E s) (hQ:∀ a s,Q a s->Q' a s):wpAny M A t Q' E s:=wpAny_mono h hQ fun _ _ x=>x
section
variable {X:Cx}
def xM (i:Nat):TE:=fun σ H Q=>∃ v,σ[i]? = some (some v)/\Q v H
def tC (v:V):TE:=fun _ H Q=>Q v H
theorem xN {i:Nat} {x:Str} {pos:Pos} (hN:X.N[i]? = some x) (hv:xK X.env.scope x) (hd:(x == ("__debug__" : Str))=false:=by decide) (hcd:(x == ("__classdict__" : Str))=false:=by decide):PE X (.Name x pos) (xM i):=by
 intro pins s σ H Q I h
 obtain⟨v,e,h⟩:=h
 obtain⟨m,hn,hl⟩:=I.loc
 obtain⟨u,r,l⟩:=hl i x v hN e hv
 have fin:EP X pins σ Q u s:=⟨v,H,I,r,h⟩
 rcases l with ⟨hk,hm⟩ | ⟨hk,c,hc,hcell⟩
 ·exact wpAny_Name (wpAny_loadName_local I.ok.kind hk hn hm fin) hd
 ·rcases hk with hk | hk
  ·exact wpAny_Name (wpAny_loadName_cell I.ok.kind hk hc hcell fin) hd
  ·exact wpAny_Name (wpAny_loadName_free I.ok.kind hk hc hcell fin hcd) hd
theorem ar {i j pos}:PE X (.Constant (.int i) j pos) (tC (.int i)):=fun _ _ _ H _ I h=>wpAny_Constant_int ⟨.int i,H,I.tok _,⟨_,rfl⟩,h⟩
theorem iD {b j pos}:PE X (.Constant (.bool b) j pos) (tC (.bl b)):=fun _ _ _ H _ I h=>Constant_bool ⟨.bl b,H,I,rfl,h⟩
theorem gr {j pos}:PE X (.Constant .none j pos) (tC .bx):=fun _ _ _ H _ I h=>Constant_none ⟨.bx,H,I,rfl,h⟩
theorem bK {x j pos}:PE X (.Constant (.str x) j pos) (tC (.str x)):=fun _ _ _ H _ I h=>Calls.Constant_str ⟨.str x,H,I.tok _,⟨_,rfl⟩,h⟩
def Gl (X:Cx) (x:Str):Prop:=X.env.kindOf x=some .globalImplicit
theorem mi {E:Value->Shared->Prop} {pins:List (Addr × Obj)} {s:Shared} {σ : St} {H:Hp} {x:Str} {u:Value} {pos:Pos} {Q:Value->Shared->Prop} (I:Inv X pins σ H s) (hg:Gl X x) (hm:X.mg x=some u) (h:Q u s)
  (hd:(x == ("__debug__" : Str))=false:=by decide):wpAny (model X.prog X.w) X.A (eval (.Name x pos) X.env) Q E s :=
 Calls.Name_function_global I.ok.kind hg (Calls.loadGlobal_global (by rw [I.ok.glob];exact I.mod.glob.keeps I.bk) hm h) hd
theorem fF {E:Value->Shared->Prop} {pins:List (Addr × Obj)} {s:Shared} {σ : St} {H:Hp} {x:Str} {u:Value} {pos:Pos} {Q:Value->Shared->Prop} (I:Inv X pins σ H s) (hg:Gl X x) (hm:X.mg x=none) (hv:bootBuiltins x=some u) (h:Q u s)
  (hn:x ≠ "__name__" := by decide) (hd:(x == ("__debug__" : Str))=false:=by decide):wpAny (model X.prog X.w) X.A (eval (.Name x pos) X.env) Q E s:=by
 obtain⟨mb,h1,h2⟩:=I.mod.blt
 exact Calls.Name_function_global I.ok.kind hg (Calls.loadGlobal_builtin (by rw [I.ok.glob];exact I.mod.glob.keeps I.bk) hm (by rw [I.ok.blt];exact h1.keeps I.bk) ((h2 x hn).trans hv) h) hd
theorem eO {x:Str} {v:V} {u:Value} {pos:Pos} (hg:Gl X x) (hm:X.mg x=some u) (r:RelV v u) (hd:(x == ("__debug__" : Str))=false:=by decide):PE X (.Name x pos) (tC v) :=
 fun _ _ _ H _ I h=>mi I hg hm ⟨v,H,I,r,h⟩ hd
variable {a b:Expr} {ta tb:TE} {pos:Pos}
def PC (X:Cx) (op:CmpOp) (a b:Expr) (t:TE):Prop :=
 ∀ (pins:List (Addr × Obj)) (s:Shared) (σ : St) (H:Hp) (Q:VK),Inv X pins σ H s->t σ H Q ->
  wpAny (model X.prog X.w) X.A (eval a X.env) (fun v s₁=>wpAny (model X.prog X.w) X.A (eval b X.env) (fun u s₂=>wpAny (model X.prog X.w) X.A (compareOp op v u) (EP X pins σ Q) X.xe s₂) X.xe s₁) X.xe s
theorem oF (b:Expr) {op:CmpOp} (h:op ≠ .In) (h2:op ≠ .NotIn):behindInMarks op b=false:=by
 have e1:(op == CmpOp.In)=false:=by cases op <;> first | rfl | exact absurd rfl h
 have e2:(op == CmpOp.NotIn)=false:=by cases op <;> first | rfl | exact absurd rfl h2
 cases b <;> simp [behindInMarks,e1,e2]
def zD (ta:TE):TE:=fun σ H Q=>ta σ H fun x H1=>Q (.bl (decide (x=.bx))) H1
def yT (ta:TE):TE:=fun σ H Q=>ta σ H fun x H1=>Q (.bl (!decide (x=.bx))) H1
theorem RelV.oG {x:V} {v:Value} (r:RelV x v):(v == Value.none)=decide (x=.bx):=by
 cases x with
 | bx=>cases r;rfl
 | bl _=>cases r;rfl
 | int _=>obtain⟨t,rfl⟩:=r;rfl
 | str _=>obtain⟨t,rfl⟩:=r;rfl
 | ie _=>obtain⟨t,rfl⟩:=r;rfl
 | sS _=>obtain⟨t,rfl⟩:=r;rfl
 | ref _=>cases r;rfl
 | ty _=>cases r;rfl
theorem gu {j pos'} (ha:PE X a ta):PC X .Is a (.Constant .none j pos') (zD ta):=by
 intro pins s σ H Q I h
 refine aJ (ha pins s σ H _ I h) fun v s1 ⟨x,H1,I1,r1,q1⟩=>?_
 exact Constant_none (is_none_gen ⟨.bl _,H1,I1,by rw [r1.oG];rfl,q1⟩)
theorem mj {j pos'} (ha:PE X a ta):PC X .IsNot a (.Constant .none j pos') (yT ta):=by
 intro pins s σ H Q I h
 refine aJ (ha pins s σ H _ I h) fun v s1 ⟨x,H1,I1,r1,q1⟩=>?_
 exact Constant_none (isnot_none_gen ⟨.bl _,H1,I1,by rw [r1.oG];rfl,q1⟩)
def tB (t:TE):TT:=fun σ H Q=>t σ H fun x H1=>∃ c,x=.bl c/\Q c H1
theorem sW {op:CmpOp} {t:TE} (h:PC X op a b t) (h1:behindInMarks op b=false:=by first | exact oF _ (by decide) (by decide) | rfl):PE X (.Compare a [op] [b] pos) t:=fun pins s σ H Q I hw=>wpAny_Compare1 (h pins s σ H Q I hw) h1
theorem fG {op:CmpOp} {t:TE} (h:PC X op a b t) (h1:behindInMarks op b=false:=by first | exact oF _ (by decide) (by decide) | rfl):PT X (.Compare a [op] [b] pos) (tB t):=by
 intro pins s σ H Q I hw
 refine wpAny_isTrue_Compare1 (aJ (h pins s σ H _ I hw) fun v s1 h1=>aJ h1 fun u s2 h2=>aJ h2 fun c s3 ⟨x,H1,I1,r1,q1⟩=>?_) h1
 obtain⟨d,rfl,q⟩:=q1
 cases r1
 exact wpAny_truthy_bool ⟨H1,I1,q⟩
theorem i0 {e:Expr} {t:TE} (h:PE X e t) (he:∀ whole,isTrue e X.env whole=(do let v <-whole;standAt e.pos;holding [v] (truthy v)):=by intro _;rfl):PT X e (tB t):=by
 intro pins s σ H Q I hw
 refine isTrue_plain (aJ (h pins s σ H _ I hw) fun v s1 ⟨x,H1,I1,r1,q1⟩=>?_) (he _)
 obtain⟨d,rfl,q⟩:=q1
 cases r1
 exact wpAny_truthy_bool ⟨H1,I1,q⟩
variable {tA tB':TT} {rest:List Expr}
def zE (t u:TT):TT:=fun σ H Q=>t σ H fun c H1=>if c=true then u σ H1 Q else Q false H1
def Ac (t u:TT):TT:=fun σ H Q=>t σ H fun c H1=>if c=true then Q true H1 else u σ H1 Q
def zF (t:TT):TT:=fun σ H Q=>t σ H fun c H1=>Q (!c) H1
theorem ml (ha:PT X a tA):PW X (.BoolOp .And [a] pos) tA:=by
 intro wh pins s σ H Q I h
 refine isTrue_and (aJ (ha pins s σ H Q I h) fun c s1 e=>?_)
 cases c with
 | true=>exact isTrue_and_nil e
 | false=>exact e
theorem sX (ha:PT X a tA):PW X (.BoolOp .Or [a] pos) tA:=by
 intro wh pins s σ H Q I h
 refine isTrue_or (aJ (ha pins s σ H Q I h) fun c s1 e=>?_)
 cases c with
 | false=>exact isTrue_or_nil e
 | true=>exact e
theorem oH (ha:PT X a tA) (hb:PW X (.BoolOp .And (b :: rest) pos) tB'):PW X (.BoolOp .And (a :: b :: rest) pos) (zE tA tB'):=by
 intro wh pins s σ H Q I h
 refine isTrue_and (aJ (ha pins s σ H _ I h) fun c s1 ⟨H1,I1,q1⟩=>?_)
 cases c with
 | true=>exact hb wh pins s1 σ H1 Q I1 q1
 | false=>exact⟨H1,I1,q1⟩
theorem v7 (ha:PT X a tA) (hb:PW X (.BoolOp .Or (b :: rest) pos) tB'):PW X (.BoolOp .Or (a :: b :: rest) pos) (Ac tA tB'):=by
 intro wh pins s σ H Q I h
 refine isTrue_or (aJ (ha pins s σ H _ I h) fun c s1 ⟨H1,I1,q1⟩=>?_)
 cases c with
 | true=>exact⟨H1,I1,q1⟩
 | false=>exact hb wh pins s1 σ H1 Q I1 q1
theorem xO (ha:PT X a tA):PT X (.UnaryOp .Not a pos) (zF tA):=by
 intro pins s σ H Q I h
 exact isTrue_not (ha pins s σ H (fun c H1=>Q (!c) H1) I h)
def yU (ta tb:TE):TE:=fun σ H Q=>ta σ H fun x H1=>∃ c,x=.bl c/\if c=true then tb σ H1 Q else Q (.bl false) H1
def zG (ta tb:TE):TE:=fun σ H Q=>ta σ H fun x H1=>∃ c,x=.bl c/\if c=true then Q (.bl true) H1 else tb σ H1 Q
theorem oJ {op} {t:TE} (h:PE X a t):PE X (.BoolOp op [a] pos) t:=fun pins s σ H Q I hw=>BoolOp_one (h pins s σ H Q I hw)
theorem xP (ha:PE X a ta) (hb:PE X (.BoolOp .And (b :: rest) pos) tb):PE X (.BoolOp .And (a :: b :: rest) pos) (yU ta tb):=by
 intro pins s σ H Q I h
 refine BoolOp_and (aJ (ha pins s σ H _ I h) fun v s1 ⟨x,H1,I1,r1,q1⟩=>?_)
 obtain⟨c,rfl,q1⟩:=q1
 cases r1
 refine wpAny_truthy_bool ?_
 cases c with
 | true=>exact hb pins s1 σ H1 Q I1 q1
 | false=>exact⟨.bl false,H1,I1,rfl,q1⟩
theorem v9 (ha:PE X a ta) (hb:PE X (.BoolOp .Or (b :: rest) pos) tb):PE X (.BoolOp .Or (a :: b :: rest) pos) (zG ta tb):=by
 intro pins s σ H Q I h
 refine BoolOp_or (aJ (ha pins s σ H _ I h) fun v s1 ⟨x,H1,I1,r1,q1⟩=>?_)
 obtain⟨c,rfl,q1⟩:=q1
 cases r1
 refine wpAny_truthy_bool ?_
 cases c with
 | false=>exact hb pins s1 σ H1 Q I1 q1
 | true=>exact⟨.bl true,H1,I1,rfl,q1⟩
def Ad (t:TT) (ta tb:TE):TE:=fun σ H Q=>t σ H fun c H1=>if c=true then ta σ H1 Q else tb σ H1 Q
theorem dW {c:Expr} (hc:PT X c tA) (ha:PE X a ta) (hb:PE X b tb):PE X (.IfExp c a b pos) (Ad tA ta tb):=by
 intro pins s σ H Q I h
 refine wpAny_IfExp (aJ (hc pins s σ H _ I h) fun d s1 ⟨H1,I1,q1⟩=>?_)
 cases d with
 | true=>exact ha pins s1 σ H1 Q I1 q1
 | false=>exact hb pins s1 σ H1 Q I1 q1
end
def aW (K:PySem.W.Frag) (H:Hp) (a:Addr) (xs:List V):Prop :=
 Rd H a (.lst xs) \/
  ∃ (o:Obj) (its:Array Value) (n:Nat),K.lookup a=some o/\o.cls=.type "list" /\ o.dict=none/\o.data=.seq its n/\its.size<=sizeLine/\Vals xs its.toList
def ay (K:PySem.W.Frag) (H:Hp) (a:Addr) (xs:List V):Prop :=
 Rd H a (.tup xs) \/
  ∃ (o:Obj) (its:Array Value) (n:Nat),K.lookup a=some o/\o.cls=.type "tuple" /\ o.data=.seq its n/\its.size<=sizeLine/\Vals xs its.toList
def zH:Value->Option V
 | .none=>some .bx
 | .bool b=>some (.bl b)
 | .int i _=>some (.int i)
 | .str x _=>some (.str x)
 | .bytes b _=>some (.ie b)
 | .float b _=>some (.sS b)
 | .ref a=>some (.ref a)
 | .type n=>some (.ty n)
 | _=>none
theorem RelV.abs {x:V} {u:Value} (r:RelV x u):zH u=some x:=by
 cases x with
 | bx=>cases r;rfl
 | bl _=>cases r;rfl
 | int _=>obtain⟨t,rfl⟩:=r;rfl
 | str _=>obtain⟨t,rfl⟩:=r;rfl
 | ie _=>obtain⟨t,rfl⟩:=r;rfl
 | sS _=>obtain⟨t,rfl⟩:=r;rfl
 | ref _=>cases r;rfl
 | ty _=>cases r;rfl
theorem RelV.inj {x y:V} {u:Value} (r:RelV x u) (q:RelV y u):x=y:=Option.some.inj (r.abs.symm.trans q.abs)
theorem Vals.inj:∀ {xs ys:List V} {us:List Value},Vals xs us->Vals ys us->xs=ys
 | _,_,_,.nil,.nil=>rfl
 | _,_,_,.cons r t,.cons r' t'=>by rw [r.inj r',Vals.inj t t']
section
variable {X:Cx} {pins:List (Addr × Obj)} {σ : St} {H:Hp} {s:Shared} {a:Addr} {xs ys:List V}
theorem aW.of {K:PySem.W.Frag} (h:H a=some (.lst xs)):aW K H a xs:=.inl (.inl h)
theorem ay.of {K:PySem.W.Frag} (h:H a=some (.tup xs)):ay K H a xs:=.inl (.inl h)
theorem Inv.list (I:Inv X pins σ H s) (h:aW X.K H a xs):∃ its:List Value,Vals xs its/\PlainL s.heap a its.toArray/\xs.length<=sizeLine:=by
 rcases h with h | ⟨o,its,n,hk,hc,hd,hs,hz,r⟩
 ·obtain⟨z,its,n,r,e⟩:=h.ok I.aL
  exact⟨its,r,⟨_,n,e,rfl,rfl,rfl⟩,z⟩
 ·refine⟨its.toList,r,⟨o,n,I.fR a o hk,hc,hd,by simpa using hs⟩,?_⟩
  have e:=r.length
  simp only [Array.length_toList] at e
  omega
theorem Inv.tuple (I:Inv X pins σ H s) (h:ay X.K H a xs):∃ its:List Value,Vals xs its/\IsTup s.heap a its.toArray/\xs.length<=sizeLine:=by
 rcases h with h | ⟨o,its,n,hk,hc,hs,hz,r⟩
 ·obtain⟨z,its,r,o,e,c,n,d,_⟩:=h.ok I.aL
  exact⟨its,r,⟨o,e,c,n,d⟩,z⟩
 ·refine⟨its.toList,r,⟨o,I.fR a o hk,hc,n,by simpa using hs⟩,?_⟩
  have e:=r.length
  simp only [Array.length_toList] at e
  omega
theorem Inv.uJ (I:Inv X pins σ H s) (h:aW X.K H a xs) (h':aW X.K H a ys):xs=ys:=by
 obtain⟨its,r,⟨o,n,e,_,_,d⟩,_⟩:=I.list h
 obtain⟨its',r',⟨o',n',e',_,_,d'⟩,_⟩:=I.list h'
 rw [e] at e';cases e'
 rw [d] at d'
 injection d' with d1 _
 have:its=its':=by simpa using congrArg Array.toList d1
 subst this
 exact r.inj r'
theorem Inv.i5 (I:Inv X pins σ H s) (h:ay X.K H a xs) (h':ay X.K H a ys):xs=ys:=by
 obtain⟨its,r,⟨o,e,_,n,d⟩,_⟩:=I.tuple h
 obtain⟨its',r',⟨o',e',_,n',d'⟩,_⟩:=I.tuple h'
 rw [e] at e';cases e'
 rw [d] at d'
 injection d' with d1 _
 have:its=its':=by simpa using congrArg Array.toList d1
 subst this
 exact r.inj r'
end
abbrev Cx.hZ (X:Cx) (E:Value->Shared->Prop):Cx:={ X with xe:=E }
abbrev Cx.qt (X:Cx):Cx:=X.hZ fun _ _=>False
theorem Cx.Ok.hZ {X:Cx} (ok:X.Ok) (E:Value->Shared->Prop):(X.hZ E).Ok :=
 ⟨ok.mod,ok.kind,ok.glob,ok.blt,ok.above,ok.inj,ok.has,ok.sV,ok.hd,ok.frames,ok.v5,ok.zp,ok.bs,ok.kO,ok.oA,ok.q8,ok.fN,ok.oB⟩
theorem Cx.Ok.fH {X:Cx} {E:Value->Shared->Prop} (ok:(X.hZ E).Ok):X.Ok :=
 ⟨ok.mod,ok.kind,ok.glob,ok.blt,ok.above,ok.inj,ok.has,ok.sV,ok.hd,ok.frames,ok.v5,ok.zp,ok.bs,ok.kO,ok.oA,ok.q8,ok.fN,ok.oB⟩
section
variable {X:Cx} {pins:List (Addr × Obj)} {σ : St} {H:Hp} {s:Shared} {E:Value->Shared->Prop}
theorem Inv.hZ (I:Inv X pins σ H s) (E:Value->Shared->Prop):Inv (X.hZ E) pins σ H s:=⟨I.ok.hZ E,I.os,I.bare,I.base,I.loc,I.cell,I.free,I.eE,I.pin,I.aL,I.len⟩
theorem Inv.fH (I:Inv (X.hZ E) pins σ H s):Inv X pins σ H s:=⟨I.ok.fH,I.os,I.bare,I.base,I.loc,I.cell,I.free,I.eE,I.pin,I.aL,I.len⟩
theorem SP.fH {D:Ends} {f:Flow} {s':Shared} (h:SP (X.hZ E) pins D f s'):SP X pins D f s':=by
 cases f with
 | next=>obtain⟨σ',H',I,q⟩:=h;exact⟨σ',H',I.fH,q⟩
 | brk=>obtain⟨σ',H',I,q⟩:=h;exact⟨σ',H',I.fH,q⟩
 | cont=>obtain⟨σ',H',I,q⟩:=h;exact⟨σ',H',I.fH,q⟩
 | ret u=>obtain⟨v,σ',H',I,r,q⟩:=h;exact⟨v,σ',H',I.fH,r,q⟩
theorem gU.qt {st:List Stmt} {t:TS} (h:gU X.qt st t):gU X st t:=fun pins s σ H D I hw =>
 wpAny_mono (h pins s σ H D (I.hZ _) hw) (fun _ _ q=>q.fH) fun _ _ z=>False.elim z
end
section
variable {X:Cx} {st:Stmt} {rest:List Stmt} {t u:TS} {e:Expr} {te:TE} {pos:Pos}
def yV:TS:=fun D σ H=>D.nx σ H
def zI (t u:TS):TS:=fun D σ H=>t { D with nx:=u D } σ H
theorem bp:gU X [] yV:=fun _ _ σ H _ I h=>wpAny_execs_nil ⟨σ,H,I,h⟩
theorem ai (h1:PS X st t) (h2:gU X rest u):gU X (st :: rest) (zI t u):=by
 intro pins s σ H D I h
 refine wpAny_execs_cons (aJ (h1 pins s σ H { D with nx:=u D } I h) fun f s1 q=>?_)
 cases f with
 | next =>
  obtain⟨σ',H',I',q⟩:=q
  exact h2 pins s1 σ' H' D I' q
 | ret v=>exact q
 | brk=>exact q
 | cont=>exact q
theorem au (h1:PS X st t):gU X [st] t:=by
 intro pins s σ H D I h
 refine wpAny_execs_cons (aJ (h1 pins s σ H D I h) fun f s1 q=>?_)
 cases f with
 | next=>exact wpAny_execs_nil q
 | ret v=>exact q
 | brk=>exact q
 | cont=>exact q
theorem Inv.quiet {pins:List (Addr × Obj)} {σ : St} {H:Hp} {s:Shared} (I:Inv X pins σ H s):interactive X.env=false:=by simp [interactive,I.ok.kind]
def yW (te:TE):TS:=fun D σ H=>te σ H fun _ H1=>D.nx σ H1
theorem dM (he:PE X e te) (hs:swapsWith e none pos.line X.env=pure false:=by rfl):PS X (.Expr e pos) (yW te):=by
 intro pins s σ H D I h
 exact wpAny_Expr_any (aJ (he pins s σ H _ I h) fun v s1 ⟨x,H1,I1,r1,q1⟩=>⟨σ,H1,I1,q1⟩) I.quiet hs
def zJ (te:TE):TS:=fun D σ H=>te σ H D.rt
theorem aF (he:PE X e te):PS X (.Return (some e) pos) (zJ te):=by
 intro pins s σ H D I h
 exact wpAny_Return_some (aJ (he pins s σ H _ I h) fun v s1 ⟨x,H1,I1,r1,q1⟩=>⟨x,σ,H1,I1,r1,q1⟩)
def zK (c:TT) (t u:TS):TS:=fun D σ H=>c σ H fun b H1=>if b=true then t D σ H1 else u D σ H1
theorem bO {c:Expr} {a b:List Stmt} {tc:TT} (hc:PT X c tc) (ha:gU X a t) (hb:gU X b u):PS X (.If c a b pos) (zK tc t u):=by
 intro pins s σ H D I h
 refine wpAny_If (aJ (hc pins s σ H _ I h) fun d s1 ⟨H1,I1,q1⟩=>?_)
 cases d with
 | true=>exact ha pins s1 σ H1 D I1 q1
 | false=>exact hb pins s1 σ H1 D I1 q1
def xQ:TS:=fun _ _ _=>False
theorem uK:PS X st xQ:=fun _ _ _ _ _ _ h=>h.elim
end
abbrev TG:=V->St->Hp->(St->Hp->Prop)->Prop
abbrev m9:=List V->St->Hp->(St->Hp->Prop)->Prop
def PG (X:Cx) (target:Expr) (t:TG):Prop :=
 ∀ (pins:List (Addr × Obj)) (s:Shared) (σ : St) (H:Hp) (v:V) (u:Value) (Q:St->Hp->Prop),Inv X pins σ H s->RelV v u->t v σ H Q ->
  wpAny (model X.prog X.w) X.A (assign target X.env u) (fun _ s'=>∃ σ' H',Inv X pins σ' H' s'/\Q σ' H') X.xe s
def wa (X:Cx) (ts:List Expr) (t:m9):Prop :=
 ∀ (pins:List (Addr × Obj)) (s:Shared) (σ : St) (H:Hp) (vs:List V) (us:List Value) (Q:St->Hp->Prop),Inv X pins σ H s->Vals vs us->t vs σ H Q ->
  wpAny (model X.prog X.w) X.A (assignInOrder ((assignEach ts X.env).map (·.2)) us) (fun _ s'=>∃ σ' H',Inv X pins σ' H' s'/\Q σ' H') X.xe s
abbrev uL:=V->V->V->Hp->(Hp->Prop)->Prop
def uM (X:Cx) (t:uL):Prop :=
 ∀ (pins:List (Addr × Obj)) (s:Shared) (σ : St) (H:Hp) (o i v:V) (ov iv u:Value) (Q:Hp->Prop),Inv X pins σ H s->RelV o ov->RelV i iv->RelV v u->t o i v H Q ->
  wpAny (model X.prog X.w) X.A (setItem ov iv u) (fun _ s'=>∃ H',Inv X pins σ H' s'/\Q H') X.xe s
section
variable {X:Cx} {pos:Pos}
def kQ (i:Nat):TG:=fun v σ H Q=>Q (σ.set i (some v)) H
theorem aG {i:Nat} {x:Str} (hN:X.N.Nodup) (hi:X.N[i]? = some x) (hx:Loc X.env.scope x) (hf:X.fn x=true\/X.env.scope.names.lookup x=some .local:=by first | exact .inl rfl | exact .inr rfl | assumption):PG X (.Name x pos) (kQ i):=by
 intro pins s σ H v u Q I r h
 exact wpAny_assign_Name (iC I hN hi hx r (fun s' I'=>⟨_,H,I',h⟩) hf)
def zL:m9:=fun vs σ H Q=>vs = []/\Q σ H
def yX (t:TG) (u:m9):m9:=fun vs σ H Q=>∃ v r,vs=v :: r/\t v σ H fun σ' H'=>u r σ' H' Q
theorem dh:wa X [] zL:=by
 intro pins s σ H vs us Q I r h
 obtain⟨e,h⟩:=h
 subst e
 cases r
 exact assignInOrder_nil ⟨σ,H,I,h⟩
theorem aZ {e:Expr} {es:List Expr} {t:TG} {u:m9} (h1:PG X e t) (h2:wa X es u)
  (hs:(assignEach (e :: es) X.env).map (·.2)=assign e X.env :: (assignEach es X.env).map (·.2):=by rfl):wa X (e :: es) (yX t u):=by
 intro pins s σ H vs us Q I r h
 obtain⟨v,vr,e1,h⟩:=h
 subst e1
 cases r with
 | cons r rr =>
  rw [hs]
  refine assignInOrder_cons (aJ (h1 pins s σ H _ _ _ I r h) fun _ s1 ⟨σ1,H1,I1,q1⟩=>?_)
  exact h2 pins s1 σ1 H1 _ _ Q I1 rr q1
def uN (K:PySem.W.Frag) (n:Nat) (t:m9):TG:=fun v σ H Q=>∃ a xs,v=.ref a/\ay K H a xs/\xs.length=n/\t xs σ H Q
theorem dG {es:List Expr} {k:Nat} {t:m9} {n:Nat} (hc:X.calm=true) (h:wa X es t)
  (hn:(assignEach es X.env).length=n:=by rfl) (hst:(assignEach es X.env).findIdx? (·.1)=none:=by rfl):PG X (.Tuple es k pos) (uN X.K n t):=by
 intro pins s σ H v u Q I r hw
 obtain⟨a,xs,e1,hq,hl,hw⟩:=hw
 subst e1
 cases r
 obtain⟨its,rv,ht,hz⟩:=I.tuple hq
 refine assign_Tuple_tuple (I.ok.hd hc) ht (by simp [hn,<-hl,rv.length]) hst fun h' hx=>?_
 have I1:Inv X pins σ H { s with heap:=h' }:=I.kept (t':=s.toks) fun b o e=>hx b o (Nat.ne_of_lt (Heap.lt_size e)) e
 exact h pins _ σ H xs _ Q I1 (by simpa using rv) hw
def zM (to ti:TE) (t:uL):TG:=fun v σ H Q=>to σ H fun o H1=>ti σ H1 fun i H2=>t o i v H2 fun H3=>Q σ H3
theorem oK {o i:Expr} {to ti:TE} {t:uL} (ho:PE X o to) (hi:PE X i ti) (hs:uM X t)
  (ha:∀ v,assign (.Subscript o i pos) X.env v=(do
   let ov <-holding [v] (eval o X.env)
   let iv <-holding [v,ov] (eval i X.env)
   standAt pos
   holding [v,ov,iv] (setItem ov iv v)
   release [v,ov,iv] []):=by intro _;rfl):PG X (.Subscript o i pos) (zM to ti t):=by
 intro pins s σ H v u Q I r h
 rw [ha]
 refine wpAny_bind (wpAny_holding (aJ (ho pins s σ H _ I h) fun ov s1 ⟨x,H1,I1,r1,q1⟩=>?_))
 refine wpAny_bind (wpAny_holding (aJ (hi pins s1 σ H1 _ I1 q1) fun iv s2 ⟨y,H2,I2,r2,q2⟩=>?_))
 refine wpAny_bind (wpAny_standAt (wpAny_bind (wpAny_holding (aJ (hs pins s2 σ H2 x y v ov iv u _ I2 r1 r2 r q2) fun _ s3 ⟨H3,I3,q3⟩=>?_))))
 exact wpAny_release ⟨σ,H3,I3,q3⟩
def uO (te:TE) (g:TG):TS:=fun D σ H=>te σ H fun x H1=>g x σ H1 D.nx
theorem dX {tg e:Expr} {te:TE} {g:TG} (he:PE X e te) (hg:PG X tg g) (hs:swapsWithSole [tg] e pos.line X.env=pure false:=by rfl) (hw:swappedStores [tg] e X.env=pure none:=by rfl)
  (h1:(assignEach [tg] X.env).map (·.2) = [assign tg X.env]:=by rfl):PS X (.Assign [tg] e pos) (uO te g):=by
 intro pins s σ H D I h
 refine wpAny_Assign_stores (aJ (he pins s σ H _ I h) fun v s1 ⟨x,H1,I1,r1,q1⟩=>?_) hs hw
 rw [h1]
 exact aJ (hg pins s1 σ H1 x v _ I1 r1 q1) fun _ s2 q=>q
theorem bu {i:Nat} {x:Str} {e:Expr} {te:TE} {pos':Pos} (hN:X.N.Nodup) (hi:X.N[i]? = some x) (hx:Loc X.env.scope x) (he:PE X e te) (hs:swapsWith e (some (.Name x pos')) pos.line X.env=pure false:=by rfl) (hf:X.fn x=true\/X.env.scope.names.lookup x=some .local:=by first | exact .inl rfl | exact .inr rfl | assumption) :
  PS X (.Assign [.Name x pos'] e pos) (uO te (kQ i)):=by
 intro pins s σ H D I h
 refine wpAny_Assign_Name (aJ (he pins s σ H _ I h) fun v s1 ⟨y,H1,I1,r1,q1⟩=>?_) hs
 exact iC I1 hN hi hx r1 (fun s2 I2=>⟨_,H1,I2,q1⟩) hf
def zN (i j:Nat) (ta:TA):TS:=fun D σ H=>ta σ H fun vs H1=>∃ v w,vs = [v,w]/\D.nx ((σ.set i (some v)).set j (some w)) H1
theorem xR {i j:Nat} {x y:Str} {a b:Expr} {ta:TA} {px py pt:Pos} {kt k2 pt2} (hc:X.calm=true) (hN:X.N.Nodup) (hi:X.N[i]? = some x) (hj:X.N[j]? = some y) (hij:i ≠ j)
  (hx:X.env.scope.names.lookup x=some .local) (hy:X.env.scope.names.lookup y=some .local) (ha:PA X [a,b] ta)
  (hw:swappedStores [.Tuple [.Name x px,.Name y py] kt pt] (.Tuple [a,b] k2 pt2) X.env=pure (some [x,y]))
  (hs:swapsWithSole [.Tuple [.Name x px,.Name y py] kt pt] (.Tuple [a,b] k2 pt2) pos.line X.env=pure false:=by rfl) :
  PS X (.Assign [.Tuple [.Name x px,.Name y py] kt pt] (.Tuple [a,b] k2 pt2) pos) (zN i j ta):=by
 intro pins s σ H D I h
 rw [exec_Assign_arm]
 refine wpAny_bind (wpAny_standAt ?_)
 rw [hs]
 refine wpAny_bind (wpAny_pure ?_)
 rw [if_neg (by decide)]
 refine wpAny_bind (Tuple_ (aJ (ha _ pins s σ H _ I h) fun us s1 ⟨vs,H1,I1,r1,q1⟩=>?_))
 obtain⟨v,w,e1,q1⟩:=q1
 subst e1
 obtain⟨u1,u2,rfl,rv,rw'⟩:∃ u1 u2,us = [u1,u2]/\RelV v u1/\RelV w u2:=by
  cases r1 with
  | cons p q =>
   cases q with
   | cons p' q' =>
    cases q'
    exact⟨_,_,rfl,p,p'⟩
 refine wpAny_newObj_type ?_ (by show 2<=sizeLine;decide)
 have I2:Inv X pins σ H1 { s1 with heap:=s1.heap.push { cls:=.type "tuple",data:=.seq [u1,u2].toArray } }:=I1.kept (t':=s1.toks) fun b o e=>Heap.get?_push_of_some _ e
 rw [hw]
 refine wpAny_bind (wpAny_pure ?_)
 show wpAny (model X.prog X.w) X.A (do rule "assign.swapped-stores";let items <-unpackItems (.ref s1.heap.objs.size) 2 none;assignInOrder [fun v=>bindName X.env y v,fun v=>bindName X.env x v] items.reverse;pure Flow.next) _ _ _
 refine wpAny_bind (wpAny_rule (wpAny_bind (unpackItems_tuple (items:=#[u1,u2]) (I.ok.hd hc) (IsTup.new s1.heap _) fun h' hx'=>?_)))
 have I3:=I2.kept (h':=h') (t':=s1.toks) fun b o e=>hx' b o (Nat.ne_of_lt (Heap.lt_size e)) e
 show wpAny _ _ (assignInOrder [fun v=>bindName X.env y v,fun v=>bindName X.env x v] [u2,u1] >>= fun _=>pure Flow.next) _ _ _
 refine wpAny_bind (assignInOrder_cons (wpAny_bindName (iC I3 hN hj (.inl hy) rw' (fun s2 I4=>?_) (.inr hy))))
 refine assignInOrder_cons (wpAny_bindName (iC I4 hN hi (.inl hx) rv (fun s3 I5=>assignInOrder_nil (wpAny_pure ?_)) (.inr hx)))
 rw [List.set_comm _ _ (Ne.symm hij)] at I5
 exact⟨_,H1,I5,q1⟩
end
section
variable {X:Cx} {pos:Pos}
def xS (c:TT) (tb:TS):TS:=fun D σ H=>∃ W:Nat->St->Hp->Prop,(∃ m,W m σ H)/\∀ m σ H,W m σ H ->
 c σ H fun b H1=>if b=true then ∃ N:St->Hp->Prop,(∀ σ' H',N σ' H'->∃ m',m' < m/\W m' σ' H')/\tb { D with nx:=N,ct:=N,bk:=D.nx } σ H1 else D.nx σ H1
theorem oM {c:Expr} {body:List Stmt} {tc:TT} {tb:TS} (hp:PassesOwn (model X.prog X.w) X.A X.env X.xe) (hc:PT X c tc) (hb:gU X body tb):PS X (.While c body [] pos) (xS tc tb):=by
 intro pins s σ H D I h
 obtain⟨W,⟨m0,w0⟩,turn⟩:=h
 refine wpAny_While (codeAny_whileLoop (fun n s'=>∃ σ' H',Inv X pins σ' H' s'/\W n σ' H') ?_ m0 ⟨σ,H,I,w0⟩)
 rintro n s1 ⟨σ1,H1,I1,w1⟩
 refine wpAny_passesOwn hp (aJ (hc pins s1 σ1 H1 _ I1 (turn n σ1 H1 w1)) fun b s2 ⟨H2,I2,q2⟩=>?_)
 cases b with
 | true =>
  obtain⟨N,hN,q2⟩:=q2
  rw [if_pos rfl]
  refine wpAny_passesOwn hp (aJ (hb pins s2 σ1 H2 _ I2 q2) fun f s3 q3=>?_)
  cases f with
  | next =>
   obtain⟨σ3,H3,I3,n3⟩:=q3
   obtain⟨m',hm,w3⟩:=hN σ3 H3 n3
   exact⟨m',hm,σ3,H3,I3,w3⟩
  | cont =>
   obtain⟨σ3,H3,I3,n3⟩:=q3
   obtain⟨m',hm,w3⟩:=hN σ3 H3 n3
   exact⟨m',hm,σ3,H3,I3,w3⟩
  | brk=>exact q3
  | ret v=>exact q3
 | false =>
  rw [if_neg Bool.false_ne_true]
  exact wpAny_execs_nil ⟨σ1,H2,I2,q2⟩
end
structure It where
 go:Nat->Hp->Prop
 sY:Nat->Hp->V->Hp->Prop
 stop:Nat->Hp->Prop
def gx (X:Cx) (pins:List (Addr × Obj)) (H:Hp) (b:Addr):Prop :=
 H b=none/\b ≠ X.env.locals/\b ∉ X.fs/\(b ∈ X.ex\/X.cV.heap.objs.size<=b)/\(∀ x c,X.env.cells.lookup x=some c->c ≠ b)/\∀ p ∈ X.pn++pins,p.1 ≠ b
theorem Inv.mm {X:Cx} {pins:List (Addr × Obj)} {σ : St} {H H':Hp} {s:Shared} {b:Addr} (I:Inv X pins σ H s) (hb:s.heap.objs.size<=b) (hn:H' b=none):gx X pins H' b:=by
 refine⟨hn,Nat.ne_of_gt (Nat.lt_of_lt_of_le I.lt hb),I.zC hb,.inr (Nat.le_trans I.sz hb),fun x c e z=>?_,fun p hp z=>?_⟩
 ·obtain⟨v,q⟩:=I.cell x c e
  exact absurd (Nat.lt_of_lt_of_le q.lt (by rw [z];exact hb)) (Nat.lt_irrefl _)
 ·exact absurd (Nat.lt_of_lt_of_le (Heap.lt_size (I.pin p hp).1) (by rw [z];exact hb)) (Nat.lt_irrefl _)
structure Turn (P:Program) (w:World) (K:PySem.W.Frag) (tg:Expr) (J:It) (fp:List Addr) (it:Addr) (tn:Nat->Heap->Prop):Prop where
 mem:it ∈ fp
 obj:∀ i h,tn i h->∀ b ∈ fp,∃ o,h.get? b=some o/\∀ v,o.data ≠ .cell v
 keep:∀ i h h',tn i h->(∀ b ∈ fp,∀ o,h.get? b=some o->h'.get? b=some o)->tn i h'
 item:∀ (X:Cx),X.prog=P->X.w=w->X.K=K->X.calm=true->∀ (i:Nat) (pins:List (Addr × Obj)) (s:Shared) (σ : St) (H:Hp) (E:Value->Shared->Prop),Inv X pins σ H s->(∀ b ∈ fp,gx X pins H b)->tn i s.heap->J.go i H ->
  wpAny (model P w) X.A (pyNext (.ref it)) (fun r s1=>∃ u,r=some u /\
   wpAny (model P w) X.A (letOwnedTupleGo tg (.ref it) u) (fun _ s2=>∃ x H',Inv X pins σ H' s2/\RelV x u/\J.sY i H x H'/\tn (i+1) s2.heap/\∀ b ∈ fp,H' b=none) E s1) E s
 done:∀ (X:Cx),X.prog=P->X.w=w->X.K=K->X.calm=true->∀ (i:Nat) (pins:List (Addr × Obj)) (s:Shared) (σ : St) (H:Hp) (E:Value->Shared->Prop),Inv X pins σ H s->(∀ b ∈ fp,gx X pins H b)->tn i s.heap->J.stop i H ->
  wpAny (model P w) X.A (pyNext (.ref it)) (fun r s1=>r=none/\Inv X pins σ H s1) E s
 self:∀ (A:Around) (i:Nat) (s:Shared) (Q:Value->Shared->Prop) (E:Value->Shared->Prop),tn i s.heap->Q (.ref it) s->wpAny (model P w) A (pyIter (.ref it)) Q E s
abbrev TI:=St->Hp->(It->Hp->Prop)->Prop
def zq (X:Cx) (pins:List (Addr × Obj)) (σ : St) (tg:Expr) (R:It->Hp->Prop) (itv:Value) (s2:Shared):Prop :=
 ∃ (it:Addr) (fp:List Addr) (tn:Nat->Heap->Prop) (J:It) (H':Hp),itv=.ref it/\Inv X pins σ H' s2/\Turn X.prog X.w X.K tg J fp it tn/\tn 0 s2.heap/\(∀ b ∈ fp,gx X pins H' b)/\R J H'
def PI (X:Cx) (tg iter:Expr) (wi:TI):Prop :=
 ∀ (pins:List (Addr × Obj)) (s:Shared) (σ : St) (H:Hp) (R:It->Hp->Prop),Inv X pins σ H s->wi σ H R ->
  wpAny (model X.prog X.w) X.A (eval iter X.env) (fun v s1=>wpAny (model X.prog X.w) X.A (pyIter v) (zq X pins σ tg R) X.xe s1) X.xe s
theorem q9 {M:Model} {A:Around} {E:Value->Shared->Prop} {s:Shared} {tg:Expr} {it:Addr} {u:Value} {o:Obj} {n:String} {vs:Array Value} {Q:Unit->Shared->Prop} (ho:s.heap.get? it=some o) (hc:o.cls=.type n) (hd:o.data=.fields vs)
    (hn:["enumerate", "zip", "dict_itemiterator", "dict_reverseitemiterator", "odict_iterator", "itertools.zip_longest", "itertools.pairwise"].contains n=false) (hQ:Q () s):wpAny M A (letOwnedTupleGo tg (.ref it) u) Q E s:=by
  unfold letOwnedTupleGo
  cases tg <;> first
    | exact wpAny_pure hQ
    | (cases u <;> first
        | exact wpAny_pure hQ
        | (refine wpAny_bind (wpAny_load ho ?_)
           rw [hc,hd]
           show wpAny M A (if (["enumerate", "zip", "dict_itemiterator", "dict_reverseitemiterator", "odict_iterator", "itertools.zip_longest", "itertools.pairwise"].contains n && vs[0]? == some (rawInt _))=true then _ else _) Q E s
           rw [if_neg (by intro h;rw [hn,Bool.false_and] at h;cases h)]
           exact wpAny_pure hQ))
def xT (K:PySem.W.Frag) (a:Addr):It :=
 ⟨fun i H=>∃ xs x,aW K H a xs/\xs[i]? = some x,fun i H x H'=>H' = H/\∀ xs,aW K H a xs->xs[i]? = some x,fun i H=>∃ xs,aW K H a xs/\xs.length<=i⟩
def qu (K:PySem.W.Frag) (a:Addr):It :=
 ⟨fun i H=>∃ xs x,ay K H a xs/\xs[i]? = some x,fun i H x H'=>H' = H/\∀ xs,ay K H a xs->xs[i]? = some x,fun i H=>∃ xs,ay K H a xs/\xs.length<=i⟩
def oN (lo:Int) (n:Nat):It:=⟨fun i _=>i < n,fun i H x H'=>H' = H/\x=.int (lo+i),fun i _=>n<=i⟩
theorem sZ {P:Program} {w:World} {K:PySem.W.Frag} {tg:Expr} (a it:Addr):Turn P w K tg (xT K a) [it] it (fun i h=>h.IsListIter it a i) where
 mem:=by simp
 obj:=fun i h st b hb=>by
  have e:b=it:=by simpa using hb
  subst e
  obtain⟨o,e,c,d⟩:=st
  exact⟨o,e,fun v z=>by rw [d] at z;cases z⟩
 keep:=fun i h h' st k=>st.at fun o e=>k it (by simp) o e
 item:=by
  intro X hP hw hK hc i pins s σ H E I hf st hg
  subst hP hw hK
  obtain⟨xs,x,hq,hx⟩:=hg
  obtain⟨its,rv,p,hz⟩:=I.list hq
  obtain⟨u,hu,ru⟩:=rv.get hx
  obtain⟨f0,f1,f2,f3,f4,f5⟩:=hf it (by simp)
  refine wpAny_pyNext_list_item st p.isList (x:=u) (by simpa using hu) fun h' st' sb=>?_
  have I1:Inv X pins σ H { s with heap:=h' }:=I.turned (t':=s.toks) (fun b o hb e=>(sb.2 b hb).trans e) f0 f1 f3 f4 f5
  obtain⟨o,e,c,d⟩:=id st'
  exact⟨u,rfl,q9 (s:={ s with heap:=h' }) e c d (by decide) ⟨x,H,I1,ru,⟨rfl,fun ys hy=>by rw [I.uJ hy hq];exact hx⟩,st',fun b hb=>(hf b hb).1⟩⟩
 done:=by
  intro X hP hw hK hc i pins s σ H E I hf st hg
  subst hP hw hK
  obtain⟨xs,hq,hx⟩:=hg
  obtain⟨its,rv,p,hz⟩:=I.list hq
  obtain⟨f0,f1,f2,f3,f4,f5⟩:=hf it (by simp)
  have hl:=rv.length
  exact wpAny_pyNext_list_end (I.ok.hd hc) st p.isList (by simp;omega) fun h' eb=>⟨rfl,I.turned (t':=s.toks) (fun b o hb e=>eb b o hb e) f0 f1 f3 f4 f5⟩
 self:=fun _ _ _ _ _ st h=>wpAny_pyIter_listiter st h
theorem rg {P:Program} {w:World} {K:PySem.W.Frag} {tg:Expr} (a it:Addr):Turn P w K tg (qu K a) [it] it (fun i h=>h.IsTupleIter it a i) where
 mem:=by simp
 obj:=fun i h st b hb=>by
  have e:b=it:=by simpa using hb
  subst e
  obtain⟨o,e,c,d⟩:=st
  exact⟨o,e,fun v z=>by rw [d] at z;cases z⟩
 keep:=fun i h h' st k=>st.at fun o e=>k it (by simp) o e
 item:=by
  intro X hP hw hK hc i pins s σ H E I hf st hg
  subst hP hw hK
  obtain⟨xs,x,hq,hx⟩:=hg
  obtain⟨its,rv,p,hz⟩:=I.tuple hq
  obtain⟨u,hu,ru⟩:=rv.get hx
  obtain⟨f0,f1,f2,f3,f4,f5⟩:=hf it (by simp)
  refine wpAny_pyNext_tuple_item st (show s.heap.IsTuple a its.toArray from p) (x:=u) (by simpa using hu) fun h' st' sb=>?_
  have I1:Inv X pins σ H { s with heap:=h' }:=I.turned (t':=s.toks) (fun b o hb e=>(sb.2 b hb).trans e) f0 f1 f3 f4 f5
  obtain⟨o,e,c,d⟩:=id st'
  exact⟨u,rfl,q9 (s:={ s with heap:=h' }) e c d (by decide) ⟨x,H,I1,ru,⟨rfl,fun ys hy=>by rw [I.i5 hy hq];exact hx⟩,st',fun b hb=>(hf b hb).1⟩⟩
 done:=by
  intro X hP hw hK hc i pins s σ H E I hf st hg
  subst hP hw hK
  obtain⟨xs,hq,hx⟩:=hg
  obtain⟨its,rv,p,hz⟩:=I.tuple hq
  obtain⟨f0,f1,f2,f3,f4,f5⟩:=hf it (by simp)
  have hl:=rv.length
  exact wpAny_pyNext_tuple_end (I.ok.hd hc) st (show s.heap.IsTuple a its.toArray from p) (by simp;omega) fun h' eb=>⟨rfl,I.turned (t':=s.toks) (fun b o hb e=>eb b o hb e) f0 f1 f3 f4 f5⟩
 self:=fun _ _ _ _ _ st h=>wpAny_pyIter_tupleiter st h
theorem rh {P:Program} {w:World} {K:PySem.W.Frag} {tg:Expr} (it:Addr) (lo:Int) (n:Nat):Turn P w K tg (oN lo n) [it] it (fun i h=>IsRangeIter h it (lo+(i:Nat) * 1) ((n:Int) - (i:Nat)) 1) where
 mem:=by simp
 obj:=fun i h st b hb=>by
  have e:b=it:=by simpa using hb
  subst e
  exact⟨_,st,fun v z=>by
   have z':Data.fields _=Data.cell v:=z
   cases z'⟩
 keep:=fun i h h' st k=>k it (by simp) _ st
 item:=by
  intro X hP hw hK hc i pins s σ H E I hf st hg
  subst hP hw hK
  obtain⟨f0,f1,f2,f3,f4,f5⟩:=hf it (by simp)
  have W:=Walks.range (prog:=X.prog) (w:=X.w) (I.ok.hd hc) it lo 1 n
  refine W.item i s _ _ hg st fun v h' tk hv st' kk=>?_
  obtain⟨t,rfl⟩:=hv
  have I1:Inv X pins σ H { s with heap:=h',toks:=tk }:=I.turned (fun b o hb e=>kk b o (by simpa using hb) e) f0 f1 f3 f4 f5
  refine⟨_,rfl,q9 (s:={ s with heap:=h',toks:=tk }) (n := "range_iterator") st' rfl rfl (by decide) ⟨.int (lo+i),H,I1,⟨t,?_⟩,⟨rfl,rfl⟩,st',fun b hb=>(hf b hb).1⟩⟩
  rw [Int.mul_one]
 done:=by
  intro X hP hw hK hc i pins s σ H E I hf st hg
  subst hP hw hK
  obtain⟨f0,f1,f2,f3,f4,f5⟩:=hf it (by simp)
  exact wpAny_pyNext_range_end (I.ok.hd hc) st (by have:n<=i:=hg;omega) fun h' eb=>⟨rfl,I.turned (t':=s.toks) (fun b o hb e=>eb b o hb e) f0 f1 f3 f4 f5⟩
 self:=fun _ _ _ _ _ st h=>wpAny_pyIter_rangeiter st h
section
variable {X:Cx} {tg:Expr}
def yY (K:PySem.W.Frag) (tl:TE):TI:=fun σ H R=>tl σ H fun x H1=>∃ a,x=.ref a/\(∃ xs,aW K H1 a xs)/\R (xT K a) H1
def zO (K:PySem.W.Frag) (tl:TE):TI:=fun σ H R=>tl σ H fun x H1=>∃ a,x=.ref a/\(∃ xs,ay K H1 a xs)/\R (qu K a) H1
theorem ij {l:Expr} {tl:TE} (hl:PE X l tl):PI X tg l (yY X.K tl):=by
 intro pins s σ H R I h
 refine aJ (hl pins s σ H _ I h) fun v s1 ⟨x,H1,I1,r1,q1⟩=>?_
 obtain⟨a,e,⟨xs,hq⟩,q⟩:=q1
 subst e
 cases r1
 obtain⟨its,rv,p,hz⟩:=I1.list hq
 refine wpAny_pyIter_list p.isList ?_
 refine⟨s1.heap.objs.size,[s1.heap.objs.size],_,_,H1,rfl,I1.kept (t':=s1.toks) fun b o e=>Heap.get?_push_of_some _ e,sZ a _,⟨_,Heap.get?_push_size _ rfl,rfl,rfl⟩,fun b hb=>?_,q⟩
 have e:b=s1.heap.objs.size:=by simpa using hb
 subst e
 exact I1.mm (Nat.le_refl _) (I1.aL.fresh (Nat.le_refl _))
theorem eC {l:Expr} {tl:TE} (hl:PE X l tl):PI X tg l (zO X.K tl):=by
 intro pins s σ H R I h
 refine aJ (hl pins s σ H _ I h) fun v s1 ⟨x,H1,I1,r1,q1⟩=>?_
 obtain⟨a,e,⟨xs,hq⟩,q⟩:=q1
 subst e
 cases r1
 obtain⟨its,rv,p,hz⟩:=I1.tuple hq
 refine wpAny_pyIter_tuple (show s1.heap.IsTuple a its.toArray from p) ?_
 refine⟨s1.heap.objs.size,[s1.heap.objs.size],_,_,H1,rfl,I1.kept (t':=s1.toks) fun b o e=>Heap.get?_push_of_some _ e,rg a _,⟨_,Heap.get?_push_size _ rfl,rfl,rfl⟩,fun b hb=>?_,q⟩
 have e:b=s1.heap.objs.size:=by simpa using hb
 subst e
 exact I1.mm (Nat.le_refl _) (I1.aL.fresh (Nat.le_refl _))
theorem oO {pins:List (Addr × Obj)} {σ : St} {H:Hp} {s:Shared} {R:It->Hp->Prop} {E:Value->Shared->Prop} {lo hi:Int} {t u v:Tok} {tk:Nat} (I:Inv X pins σ H s) (h1:-(2 ^ 62)<=lo) (h2:lo < 2 ^ 62) (h3:-(2 ^ 62)<=hi) (h4:hi < 2 ^ 62)
  (q:R (oN lo (hi - lo).toNat) H):wpAny (model X.prog X.w) X.A (pyIter (.ref s.heap.objs.size)) (zq X pins σ tg R) E { s with heap:=s.heap.push { cls:=.type "range",data:=.fields #[.int lo t,.int hi u,.int 1 v] },toks:=tk }:=by
 refine wpAny_pyIter_range (IsRange.new ..) (small_one h1 h2 h3 h4) ?_
 have I1:Inv X pins σ H { s with heap:=s.heap.push { cls:=.type "range",data:=.fields #[.int lo t,.int hi u,.int 1 v] },toks:=tk }:=I.kept fun b o e=>Heap.get?_push_of_some _ e
 refine⟨(s.heap.push { cls:=.type "range",data:=.fields #[.int lo t,.int hi u,.int 1 v] }).objs.size,[(s.heap.push { cls:=.type "range",data:=.fields #[.int lo t,.int hi u,.int 1 v] }).objs.size],_,_,H,rfl,
  I1.kept (t':=tk) fun b o e=>Heap.get?_push_of_some _ e,rh _ lo (hi - lo).toNat,?_,fun b hb=>?_,q⟩
 ·have e1:lo+((0:Nat):Int) * 1=lo:=by simp
  have e2:(((hi - lo).toNat:Nat):Int) - ((0:Nat):Int)=Builtin.Range.rangeSize lo hi 1:=by rw [rangeSize_one];split <;> omega
  show IsRangeIter _ _ (lo+((0:Nat):Int) * 1) ((((hi - lo).toNat:Nat):Int) - ((0:Nat):Int)) 1
  rw [e1,e2]
  exact Heap.get?_push_size _ rfl
 ·have e:b=(s.heap.push { cls:=.type "range",data:=.fields #[.int lo t,.int hi u,.int 1 v] }).objs.size:=by simpa using hb
  subst e
  exact I1.mm (Nat.le_refl _) (I1.aL.fresh (Nat.le_refl _))
def yZ (ta:TA):TI:=fun σ H R=>ta σ H fun vs H1=>∃ j:Int,vs = [.int j]/\-(2 ^ 62)<=j/\j < 2 ^ 62/\R (oN 0 j.toNat) H1
def y6 (ta:TA):TI:=fun σ H R=>ta σ H fun vs H1=>∃ i j:Int,vs = [.int i,.int j]/\(-(2 ^ 62)<=i/\i < 2 ^ 62/\-(2 ^ 62)<=j/\j < 2 ^ 62)/\R (oN i (j - i).toNat) H1
theorem nc {a:Expr} {ta:TA} {p pos:Pos} (hg:Gl X "range") (hm:X.mg "range" = none) (ha:PA X [a] ta) (hs:starEach [a] X.env = [(false,eval a X.env)]:=by rfl):PI X tg (.Call (.Name "range" p) [a] [] pos) (yZ ta):=by
 intro pins s σ H R I h
 refine Call_ (fF I hg hm boot_range (PyProof.Rows.callWith_type1 (aJ (ha pos pins s σ H _ I h) fun us s1 ⟨vs,H1,I1,r1,q1⟩=>?_) hs rfl))
 obtain⟨j,e,q1,q2,q⟩:=q1
 subst e
 cases r1 with
 | cons r rr =>
  cases rr
  obtain⟨t,rfl⟩:=r
  exact call_range_1 (oO I1 (by omega) (by omega) q1 q2 (by simpa using q))
theorem tf {a b:Expr} {ta:TA} {p pos:Pos} (hg:Gl X "range") (hm:X.mg "range" = none) (ha:PA X [a,b] ta) (hs:starEach [a,b] X.env = [(false,eval a X.env),(false,eval b X.env)]:=by rfl) (hs2:starEach [b] X.env = [(false,eval b X.env)]:=by rfl) :
  PI X tg (.Call (.Name "range" p) [a,b] [] pos) (y6 ta):=by
 intro pins s σ H R I h
 refine Call_ (fF I hg hm boot_range (PyProof.Rows.callWith_type1 (aJ (ha pos pins s σ H _ I h) fun us s1 ⟨vs,H1,I1,r1,q1⟩=>?_) (by rw [hs,hs2]) (by rw [hs2];rfl)))
 obtain⟨i,j,e,⟨q1,q2,q3,q4⟩,q⟩:=q1
 subst e
 cases r1 with
 | cons r rr =>
  cases rr with
  | cons r' rr =>
   cases rr
   obtain⟨t,rfl⟩:=r
   obtain⟨t',rfl⟩:=r'
   exact call_range_2 (oO I1 q1 q2 q3 q4 q)
def zP (wi:TI) (g:TG) (tb:TS):TS:=fun D σ H=>wi σ H fun J H1=>∃ W:Nat->Nat->St->Hp->Prop,(∃ m,W 0 m σ H1)/\∀ i m σ H,W i m σ H ->
 (J.stop i H/\D.nx σ H)\/(J.go i H/\∃ N:St->Hp->Prop,(∀ σ' H',N σ' H'->∃ m',m' < m/\W (i+1) m' σ' H')/\∀ x H',J.sY i H x H'->g x σ H' fun σ2 H2=>tb { D with nx:=N,ct:=N,bk:=D.nx } σ2 H2)
def i6 (fp:List Addr) (h:Heap):List (Addr × Obj):=fp.filterMap fun b=>(h.get? b).map fun o=>(b,o)
theorem fT {fp:List Addr} {h:Heap} {b:Addr} {o:Obj} (hb:b ∈ fp) (e:h.get? b=some o):(b,o) ∈ i6 fp h:=List.mem_filterMap.mpr ⟨b,hb,by rw [e];rfl⟩
theorem tj {fp:List Addr} {h:Heap} {p:Addr × Obj} (hp:p ∈ i6 fp h):p.1 ∈ fp/\h.get? p.1=some p.2:=by
 obtain⟨b,hb,e⟩:=List.mem_filterMap.mp hp
 cases q:h.get? b with
 | none=>rw [q] at e;cases e
 | some o =>
  rw [q] at e
  have e':(b,o)=p:=Option.some.inj e
  subst e'
  exact⟨hb,q⟩
theorem Inv.pinned {pins:List (Addr × Obj)} {σ : St} {H:Hp} {s:Shared} {fp:List Addr} (I:Inv X pins σ H s) (hf:∀ b ∈ fp,gx X pins H b) (ho:∀ b ∈ fp,∃ o,s.heap.get? b=some o/\∀ v,o.data ≠ .cell v):Inv X (pins++i6 fp s.heap) σ H s :=
 I.qr fun p hp=>(List.mem_append.mp hp).elim (fun z=>I.pin p (List.mem_append_right _ z)) fun z=>by
  obtain⟨hb,e⟩:=tj z
  obtain⟨f0,f1,f2,_⟩:=hf p.1 hb
  obtain⟨o,e',d⟩:=ho p.1 hb
  rw [e] at e';cases e'
  exact⟨e,f0,f1,f2,d⟩
theorem Inv.gy {pins pl:List (Addr × Obj)} {σ : St} {H:Hp} {s:Shared} (I:Inv X (pins++pl) σ H s):Inv X pins σ H s:=I.qr fun p hp=>I.pin p (List.mem_append_right _ (List.mem_append_left _ hp))
theorem fb {iter:Expr} {body:List Stmt} {wi:TI} {g:TG} {tb:TS} {pos:Pos} (hp:PassesOwn (model X.prog X.w) X.A X.env X.xe) (hc:X.calm=true) (hi:PI X tg iter wi) (hg:PG X tg g) (hb:gU X body tb)
  (hs:∀ x,foldedSetIterable iter X.env x=pure x:=by intro _;rfl):PS X (.For tg iter body [] pos) (zP wi g tb):=by
 intro pins s σ H D I h
 refine wpAny_For (aJ (hi pins s σ H _ I h) fun v s1 h1=>aJ h1 fun itv s2 h2=>?_) hs
 obtain⟨it,fp,tn,J,H2,e,I2,T,st2,f2,W,⟨m0,w0⟩,turn⟩:=h2
 subst e
 have stat:∀ {H':Hp},(∀ b ∈ fp,H' b=none)->∀ b ∈ fp,gx X pins H' b:=fun hn b hb=>⟨hn b hb,(f2 b hb).2⟩
 refine codeAny_forLoop_any (fun n s'=>∃ i σ' H',Inv X pins σ' H' s'/\tn i s'.heap/\(∀ b ∈ fp,H' b=none)/\W i n σ' H') ?_ m0 ⟨0,σ,H2,I2,st2,fun b hb=>(f2 b hb).1,w0⟩
 rintro n s3 ⟨i,σ3,H3,I3,st3,fr3,w3⟩
 rcases turn i n σ3 H3 w3 with ⟨stop,qn⟩ | ⟨go,N,hN,step⟩
 ·refine wpAny_passesOwn hp (aJ (T.done X rfl rfl rfl hc i pins s3 σ3 H3 X.xe I3 (stat fr3) st3 stop) fun r s4 ⟨hr,I4⟩=>?_)
  subst hr
  exact wpAny_execs_nil ⟨σ3,H3,I4,qn⟩
 ·refine wpAny_passesOwn hp (aJ (T.item X rfl rfl rfl hc i pins s3 σ3 H3 X.xe I3 (stat fr3) st3 go) fun r s4 ⟨u,hr,h4⟩=>?_)
  subst hr
  refine wpAny_passesOwn hp (aJ h4 fun _ s5 ⟨x,H5,I5,r5,y5,st5,fr5⟩=>?_)
  have I5':=I5.pinned (stat fr5) (T.obj _ _ st5)
  refine wpAny_passesOwn hp (aJ (hg _ s5 σ3 H5 x u _ I5' r5 (step x H5 y5)) fun _ s6 ⟨σ6,H6,I6,q6⟩=>?_)
  refine wpAny_passesOwn hp (aJ (hb _ s6 σ6 H6 _ I6 q6) fun f s7 q7=>?_)
  have again:∀ {σ7:St} {H7:Hp},Inv X (pins++i6 fp s5.heap) σ7 H7 s7->N σ7 H7->∃ m,m < n/\∃ i σ' H',Inv X pins σ' H' s7/\tn i s7.heap/\(∀ b ∈ fp,H' b=none)/\W i m σ' H':=fun {σ7 H7} I7 n7=>by
   obtain⟨m',hm,w7⟩:=hN σ7 H7 n7
   refine⟨m',hm,i+1,σ7,H7,I7.gy,T.keep _ _ _ st5 fun b hb o e=>(I7.pin (b,o) (List.mem_append_right _ (List.mem_append_right _ (fT hb e)))).1,fun b hb=>?_,w7⟩
   obtain⟨o,e,d⟩:=T.obj _ _ st5 b hb
   exact (I7.pin (b,o) (List.mem_append_right _ (List.mem_append_right _ (fT hb e)))).2.1
  cases f with
  | next=>obtain⟨σ7,H7,I7,n7⟩:=q7;exact again I7 n7
  | cont=>obtain⟨σ7,H7,I7,n7⟩:=q7;exact again I7 n7
  | brk=>obtain⟨σ7,H7,I7,q7⟩:=q7;exact⟨σ7,H7,I7.gy,q7⟩
  | ret v=>obtain⟨x7,σ7,H7,I7,r7,q7⟩:=q7;exact⟨x7,σ7,H7,I7.gy,r7,q7⟩
end
theorem fZ {K:PySem.W.Frag} {a:Addr} {xs:List V} {g:TG} {tb:TS} {D:Ends} {σ : St} {H:Hp} (Pv:Nat->St->Hp->Prop) (h0:Pv 0 σ H) (hl:∀ i σ H,i<=xs.length->Pv i σ H->ay K H a xs)
  (hs:∀ i x σ H,xs[i]? = some x->Pv i σ H->g x σ H fun σ2 H2=>tb { D with nx:=Pv (i+1),ct:=Pv (i+1),bk:=D.nx } σ2 H2) (hd:∀ σ H,Pv xs.length σ H->D.nx σ H) :
  ∃ W:Nat->Nat->St->Hp->Prop,(∃ m,W 0 m σ H)/\∀ i m σ H,W i m σ H ->
   ((qu K a).stop i H/\D.nx σ H)\/((qu K a).go i H/\∃ N:St->Hp->Prop,(∀ σ' H',N σ' H'->∃ m',m' < m/\W (i+1) m' σ' H')/\∀ x H',(qu K a).sY i H x H'->g x σ H' fun σ2 H2=>tb { D with nx:=N,ct:=N,bk:=D.nx } σ2 H2):=by
 refine⟨fun i m σ H=>m=xs.length - i/\i<=xs.length/\Pv i σ H,⟨xs.length,by simp,Nat.zero_le _,h0⟩,?_⟩
 rintro i m σ H ⟨rfl,hi,p⟩
 have q:=hl i σ H hi p
 by_cases hlt:i < xs.length
 ·refine .inr ⟨⟨xs,xs[i],q,by simp [hlt]⟩,Pv (i+1),fun σ' H' p'=>⟨xs.length - (i+1),by omega,rfl,hlt,p'⟩,fun x H' y=>?_⟩
  obtain⟨e,y⟩:=y
  subst e
  exact hs i x σ _ (y xs q) p
 ·have e:i=xs.length:=by omega
  subst e
  exact .inl ⟨⟨xs,q,Nat.le_refl _⟩,hd σ H p⟩
theorem i7 {lo:Int} {n:Nat} {g:TG} {tb:TS} {D:Ends} {σ : St} {H:Hp} (Pv:Nat->St->Hp->Prop) (h0:Pv 0 σ H)
  (hs:∀ i σ H,i < n->Pv i σ H->g (.int (lo+i)) σ H fun σ2 H2=>tb { D with nx:=Pv (i+1),ct:=Pv (i+1),bk:=D.nx } σ2 H2) (hd:∀ σ H,Pv n σ H->D.nx σ H) :
  ∃ W:Nat->Nat->St->Hp->Prop,(∃ m,W 0 m σ H)/\∀ i m σ H,W i m σ H ->
   ((oN lo n).stop i H/\D.nx σ H)\/((oN lo n).go i H/\∃ N:St->Hp->Prop,(∀ σ' H',N σ' H'->∃ m',m' < m/\W (i+1) m' σ' H')/\∀ x H',(oN lo n).sY i H x H'->g x σ H' fun σ2 H2=>tb { D with nx:=N,ct:=N,bk:=D.nx } σ2 H2):=by
 refine⟨fun i m σ H=>m=n - i/\i<=n/\Pv i σ H,⟨n,by simp,Nat.zero_le _,h0⟩,?_⟩
 rintro i m σ H ⟨rfl,hi,p⟩
 by_cases hlt:i < n
 ·refine .inr ⟨hlt,Pv (i+1),fun σ' H' p'=>⟨n - (i+1),by omega,rfl,hlt,p'⟩,fun x H' y=>?_⟩
  obtain⟨e,y⟩:=y
  subst e y
  exact hs i σ _ hlt p
 ·have e:i=n:=by omega
  subst e
  exact .inl ⟨Nat.le_refl _,hd σ H p⟩
abbrev R2:=V->V->Hp->VK->Prop
def dU (X:Cx) (f:Value->Value->Sem Value) (r:R2):Prop :=
 ∀ (pins:List (Addr × Obj)) (s:Shared) (σ : St) (H:Hp) (x y:V) (v u:Value) (Q:VK),Inv X pins σ H s->RelV x v->RelV y u->r x y H Q ->
  wpAny (model X.prog X.w) X.A (f v u) (EP X pins σ Q) X.xe s
def xU (X:Cx) (f:Value->Sem Value) (r:V->Hp->VK->Prop):Prop :=
 ∀ (pins:List (Addr × Obj)) (s:Shared) (σ : St) (H:Hp) (x:V) (v:Value) (Q:VK),Inv X pins σ H s->RelV x v->r x H Q ->
  wpAny (model X.prog X.w) X.A (f v) (EP X pins σ Q) X.xe s
def dB (X:Cx) (f:Value) (r:List V->Hp->VK->Prop):Prop :=
 ∀ (pins:List (Addr × Obj)) (s:Shared) (σ : St) (H:Hp) (xs:List V) (us:List Value) (Q:VK),Inv X pins σ H s->Vals xs us->r xs H Q ->
  wpAny (model X.prog X.w) X.A (call f us) (EP X pins σ Q) X.xe s
def zQ (X:Cx) (r:V->Hp->(Bool->Hp->Prop)->Prop):Prop :=
 ∀ (pins:List (Addr × Obj)) (s:Shared) (σ : St) (H:Hp) (x:V) (v:Value) (Q:Bool->Hp->Prop),Inv X pins σ H s->RelV x v->r x H Q ->
  wpAny (model X.prog X.w) X.A (truthy v) (TP X pins σ Q) X.xe s
def wb (r:R2) (ta tb:TE):TE:=fun σ H Q=>ta σ H fun x H1=>tb σ H1 fun y H2=>r x y H2 Q
def Ae (r:V->Hp->VK->Prop) (ta:TE):TE:=fun σ H Q=>ta σ H fun x H1=>r x H1 Q
def rI (C:Int->Int->Prop) (g:Int->Int->V):R2:=fun x y H Q=>∃ i j,x=.int i/\y=.int j/\C i j/\Q (g i j) H
def oP (g:Int->Int->V):R2:=fun x y H Q=>∃ i j,x=.int i/\y=.int j/\Q (g i j) H
def rU (g:Int->V):V->Hp->VK->Prop:=fun x H Q=>∃ i,x=.int i/\Q (g i) H
section
variable {X:Cx} {a b c:Expr} {ta tb tc:TE} {pos:Pos}
theorem uP (ha:PE X a ta) (hb:PE X b tb) {pins:List (Addr × Obj)} {s:Shared} {σ : St} {H:Hp} {R:V->V->Hp->Prop} (I:Inv X pins σ H s)
  (h:ta σ H fun x H1=>tb σ H1 fun y H2=>R x y H2) {Q:Value->Shared->Prop} {f:Value->Value->Sem Value}
  (hf:∀ v u s2 x y H2,Inv X pins σ H2 s2->RelV x v->RelV y u->R x y H2->wpAny (model X.prog X.w) X.A (f v u) Q X.xe s2) :
  wpAny (model X.prog X.w) X.A (eval a X.env) (fun v s₁=>wpAny (model X.prog X.w) X.A (eval b X.env) (fun u s₂=>wpAny (model X.prog X.w) X.A (f v u) Q X.xe s₂) X.xe s₁) X.xe s:=by
 refine aJ (ha pins s σ H _ I h) fun v s1 ⟨x,H1,I1,r1,q1⟩=>?_
 refine aJ (hb pins s1 σ H1 _ I1 q1) fun u s2 ⟨y,H2,I2,r2,q2⟩=>?_
 exact hf v u s2 x y H2 I2 r1 r2 q2
theorem aX {op:Operator} {r:R2} (ho:dU X (binaryOp op) r) (ha:PE X a ta) (hb:PE X b tb):PE X (.BinOp a op b pos) (wb r ta tb):=by
 intro pins s σ H Q I h
 exact wpAny_BinOp (uP ha hb I h fun v u s2 x y H2 I2 rx ry q=>ho pins s2 σ H2 x y v u Q I2 rx ry q)
theorem wc {op:UnaryOp} {r:V->Hp->VK->Prop} (ho:xU X (unaryOp op) r) (ha:PE X a ta):PE X (.UnaryOp op a pos) (Ae r ta):=by
 intro pins s σ H Q I h
 exact UnaryOp_ (aJ (ha pins s σ H _ I h) fun v s1 ⟨x,H1,I1,r1,q1⟩=>ho pins s1 σ H1 x v Q I1 r1 q1)
theorem qv {f:Value->Value->Sem Value} {C:Int->Int->Prop} {g:Int->Int->Int}
  (rule:∀ (i j:Int) (t u:Tok) (s:Shared) (Q:Value->Shared->Prop) (E:Value->Shared->Prop),C i j->Q (.int (g i j) s.toks) { s with toks:=s.toks+1 }->wpAny (model X.prog X.w) X.A (f (.int i t) (.int j u)) Q E s) :
  dU X f (rI C fun i j=>.int (g i j)):=by
 intro pins s σ H x y v u Q I rx ry h
 obtain⟨i,j,rfl,rfl,hc,q⟩:=h
 obtain⟨t,rfl⟩:=rx
 obtain⟨t',rfl⟩:=ry
 exact rule i j t t' s _ _ hc ⟨.int (g i j),H,I.tok _,⟨_,rfl⟩,q⟩
theorem xV {f:Value->Value->Sem Value} {g:Int->Int->Int}
  (rule:∀ (i j:Int) (t u:Tok) (s:Shared) (Q:Value->Shared->Prop) (E:Value->Shared->Prop),Q (.int (g i j) s.toks) { s with toks:=s.toks+1 }->wpAny (model X.prog X.w) X.A (f (.int i t) (.int j u)) Q E s) :
  dU X f (oP fun i j=>.int (g i j)):=by
 intro pins s σ H x y v u Q I rx ry h
 obtain⟨i,j,rfl,rfl,q⟩:=h
 obtain⟨t,rfl⟩:=rx
 obtain⟨t',rfl⟩:=ry
 exact rule i j t t' s _ _ ⟨.int (g i j),H,I.tok _,⟨_,rfl⟩,q⟩
theorem uQ {f:Value->Value->Sem Value} {g:Int->Int->Bool}
  (rule:∀ (i j:Int) (t u:Tok) (s:Shared) (Q:Value->Shared->Prop) (E:Value->Shared->Prop),Q (.bool (g i j)) s->wpAny (model X.prog X.w) X.A (f (.int i t) (.int j u)) Q E s) :
  dU X f (oP fun i j=>.bl (g i j)):=by
 intro pins s σ H x y v u Q I rx ry h
 obtain⟨i,j,rfl,rfl,q⟩:=h
 obtain⟨t,rfl⟩:=rx
 obtain⟨t',rfl⟩:=ry
 exact rule i j t t' s _ _ ⟨.bl (g i j),H,I,rfl,q⟩
def zR (i j:Int):Prop:=0 < j/\j < 1073741824
def zS (i j:Int):Prop:=0<=j/\j<=1000000/\i.natAbs < 2 ^ 64
def uR (i j:Int):Prop:=(-(2 ^ 64) < i/\i < 2 ^ 64)\/(-(2 ^ 64) < j/\j < 2 ^ 64)
theorem uR.ok {i j:Int} (h:uR i j):IntMulOk i j:=by
 rcases h with ⟨h1,h2⟩ | ⟨h1,h2⟩
 ·exact .of_left (intBits_le_64 h1 h2)
 ·exact .of_right (intBits_le_64 h1 h2)
theorem dH:dU X (binaryOp .Add) (oP fun i j=>.int (i+j)):=xV fun _ _ _ _ _ _ _ q=>add_int q
theorem fc:dU X (binaryOp .Sub) (oP fun i j=>.int (i - j)):=xV fun _ _ _ _ _ _ _ q=>sub_int q
theorem fI:dU X (binaryOp .Mult) (rI uR fun i j=>.int (i * j)):=qv fun _ _ _ _ _ _ _ hc q=>mul_int q hc.ok
theorem wO:dU X (binaryOp .FloorDiv) (rI zR fun i j=>.int (i / j)):=qv fun i j _ _ _ _ _ hc q=>by
 have h1:(0:Int) < j:=hc.1
 have h2:j < 1073741824:=hc.2
 exact floordiv_int (by omega) (by rw [Int.fdiv_eq_ediv_of_nonneg i (by omega)];exact q) (.inl (PyProof.noPylong_small (by omega)))
theorem gB:dU X (binaryOp .Mod) (rI (fun _ j=>0 < j) fun i j=>.int (i % j)):=qv fun i j _ _ _ _ _ hc q=>by
 have h1:(0:Int) < j:=hc
 exact mod_int' (by omega) (by rw [Int.fmod_eq_emod_of_nonneg i (by omega)];exact q)
theorem oQ:dU X (binaryOp .Pow) (rI zS fun i j=>.int (i ^ j.toNat)):=qv fun _ _ _ _ _ _ _ hc q=>pow_int_small hc.1 hc.2.1 hc.2.2 q
theorem Af {f:Value->Sem Value} {g:Int->Int}
  (rule:∀ (i:Int) (t:Tok) (s:Shared) (Q:Value->Shared->Prop) (E:Value->Shared->Prop),Q (.int (g i) s.toks) { s with toks:=s.toks+1 }->wpAny (model X.prog X.w) X.A (f (.int i t)) Q E s) :
  xU X f (rU fun i=>.int (g i)):=by
 intro pins s σ H x v Q I rx h
 obtain⟨i,rfl,q⟩:=h
 obtain⟨t,rfl⟩:=rx
 exact rule i t s _ _ ⟨.int (g i),H,I.tok _,⟨_,rfl⟩,q⟩
theorem tm:xU X (unaryOp .USub) (rU fun i=>.int (-i)):=Af fun _ _ _ _ _ q=>neg_int q
end
def xW:V->V->Bool
 | .bx,.bx=>true | .bx,.int _=>true | .int _,.bx=>true | .bx,.bl _=>true | .bl _,.bx=>true | .bx,.str _=>true | .str _,.bx=>true
 | .int _,.int _=>true | .bl _,.bl _=>true | .str _,.str _=>true | .ie _,.ie _=>true
 | .int _,.str _=>true | .str _,.int _=>true | .bl _,.str _=>true | .str _,.bl _=>true
 | _,_=>false
def Ag:R2:=fun x y H Q=>xW x y=true/\Q (.bl (decide (x=y))) H
theorem wQ {i j:Int}:decide (V.int i=V.int j)=(i == j):=by
 rw [Bool.eq_iff_iff]
 simp
theorem xX {i j:Bool}:decide (V.bl i=V.bl j)=(i == j):=by
 rw [Bool.eq_iff_iff]
 simp
theorem wR {i j:Str}:decide (V.str i=V.str j)=(i == j):=by
 rw [Bool.eq_iff_iff]
 simp
theorem wU {i j:Array UInt8}:decide (V.ie i=V.ie j)=(i.toList == j.toList):=by
 rw [Bool.eq_iff_iff]
 cases i
 cases j
 simp
section
variable {X:Cx} {a b c:Expr} {ta tb tc:TE} {pos:Pos}
theorem cW {pins:List (Addr × Obj)} {σ : St} {H:Hp} {s:Shared} {Q:VK} {k k':Bool} (I:Inv X pins σ H s) (q:Q (.bl k) H) (e:k=k'):EP X pins σ Q (.bool k') s:=by
 subst e
 exact⟨.bl k,H,I,rfl,q⟩
theorem cX:dU X (compareOp .Eq) Ag:=by
 intro pins s σ H x y v u Q I rx ry h
 obtain⟨hs,q⟩:=h
 cases x with
 | bx =>
  cases rx
  cases y with
  | bx=>cases ry;exact PySem.EqNone.eq_none_none (cW I q (by simp))
  | bl j=>cases ry;exact PySem.EqNone.eq_none_bool (cW I q (by simp))
  | int j=>obtain⟨t',rfl⟩:=ry;exact PySem.EqNone.eq_none_int (cW I q (by simp))
  | str j=>obtain⟨t',rfl⟩:=ry;exact PySem.EqNone.eq_none_str (cW I q (by simp))
  | _=>exact absurd (show false=true from hs) Bool.false_ne_true
 | bl i =>
  cases rx
  cases y with
  | bx=>cases ry;exact PySem.EqNone.eq_bool_none (cW I q (by simp))
  | bl j=>cases ry;exact eq_bool (cW I q xX)
  | str j=>obtain⟨t',rfl⟩:=ry;exact PySem.EqMixed.eq_bool_str (cW I q (by simp))
  | _=>exact absurd (show false=true from hs) Bool.false_ne_true
 | int i =>
  obtain⟨t,rfl⟩:=rx
  cases y with
  | bx=>cases ry;exact PySem.EqNone.eq_int_none (cW I q (by simp))
  | int j=>obtain⟨t',rfl⟩:=ry;exact eq_int (cW I q wQ)
  | str j=>obtain⟨t',rfl⟩:=ry;exact PySem.EqMixed.eq_int_str (cW I q (by simp))
  | _=>exact absurd (show false=true from hs) Bool.false_ne_true
 | str i =>
  obtain⟨t,rfl⟩:=rx
  cases y with
  | bx=>cases ry;exact PySem.EqNone.eq_str_none (cW I q (by simp))
  | bl j=>cases ry;exact PySem.EqMixed.eq_str_bool (cW I q (by simp))
  | int j=>obtain⟨t',rfl⟩:=ry;exact PySem.EqMixed.eq_str_int (cW I q (by simp))
  | str j=>obtain⟨t',rfl⟩:=ry;exact eq_str (cW I q wR)
  | _=>exact absurd (show false=true from hs) Bool.false_ne_true
 | ie i =>
  obtain⟨t,rfl⟩:=rx
  cases y with
  | ie j=>obtain⟨t',rfl⟩:=ry;exact PySem.W.eq_bytes (cW I q wU)
  | _=>exact absurd (show false=true from hs) Bool.false_ne_true
 | _=>cases y <;> exact absurd (show false=true from hs) Bool.false_ne_true
theorem jE:dU X (compareOp .Lt) (oP fun i j=>.bl (decide (i < j))):=uQ fun _ _ _ _ _ _ _ q=>lt_int q
theorem rm:dU X (compareOp .LtE) (oP fun i j=>.bl (decide (i<=j))):=uQ fun _ _ _ _ _ _ _ q=>le_int q
theorem om:dU X (compareOp .Gt) (oP fun i j=>.bl (decide (j < i))):=uQ fun _ _ _ _ _ _ _ q=>gt_int q
theorem bo (b:Expr) {op:CmpOp} (h:op ≠ .In:=by decide) (h2:op ≠ .NotIn:=by decide):behindInMarks op b=false:=by
 have e1:(op == CmpOp.In)=false:=by cases op <;> first | rfl | exact absurd rfl h
 have e2:(op == CmpOp.NotIn)=false:=by cases op <;> first | rfl | exact absurd rfl h2
 cases b <;> simp [behindInMarks,e1,e2]
theorem mn {op:CmpOp} {r:R2} (ho:dU X (compareOp op) r) (ha:PE X a ta) (hb:PE X b tb) (hm:behindInMarks op b=false):PE X (.Compare a [op] [b] pos) (wb r ta tb):=by
 intro pins s σ H Q I h
 exact wpAny_Compare1 (uP ha hb I h fun v u s2 x y H2 I2 rx ry q=>ho pins s2 σ H2 x y v u Q I2 rx ry q) hm
def y7 (t:TE):TT:=fun σ H Q=>t σ H fun x H'=>∃ k,x=.bl k/\Q k H'
theorem aT {op:CmpOp} {r:R2} (ho:dU X (compareOp op) r) (ha:PE X a ta) (hb:PE X b tb) (hm:behindInMarks op b=false):PT X (.Compare a [op] [b] pos) (y7 (wb r ta tb)):=by
 intro pins s σ H Q I h
 refine wpAny_isTrue_Compare1 (aJ (ha pins s σ H _ I h) fun v s1 ⟨x,H1,I1,r1,q1⟩=>aJ (hb pins s1 σ H1 _ I1 q1) fun u s2 ⟨y,H2,I2,r2,q2⟩ =>
  aJ (ho pins s2 σ H2 x y v u _ I2 r1 r2 q2) fun c s3 ⟨z,H3,I3,r3,k,e,q3⟩=>?_) hm
 subst e
 cases r3
 exact wpAny_truthy_bool ⟨H3,I3,q3⟩
def xY (K:PySem.W.Frag) (x:V) (H:Hp) (k:Bool):Prop :=
 match x with
 | .bx=>k=false
 | .bl b=>k=b
 | .int i=>k=(i != 0)
 | .str y=>y.length<=sizeLine/\k=((y.length:Int) != 0)
 | .ie y=>y.size<=sizeLine/\k=((y.size:Int) != 0)
 | .ref p=>(∃ xs,aW K H p xs/\k = !xs.isEmpty)\/(∃ xs,ay K H p xs/\k = !xs.isEmpty)\/∃ kvs,H p=some (.dK kvs)/\k = !kvs.isEmpty
 | _=>False
theorem rn {κ : Type} {kvs:List (κ × V)} {vs:List (κ × Value)} (r:KV kvs vs):(!vs.isEmpty) = !kvs.isEmpty:=by
 cases r <;> rfl
theorem kR {xs:List V} {its:List Value} (r:Vals xs its):(!its.toArray.isEmpty) = !xs.isEmpty:=by
 cases r <;> simp
theorem ik:(sizeLine:Nat) < 2 ^ 63:=by rw [sizeLine_eq];decide
theorem xZ:zQ X (fun x H Q=>∃ k,xY X.K x H k/\Q k H):=by
 intro pins s σ H x v Q I rx h
 obtain⟨k,e,q⟩:=h
 have hl:=ik
 have hs:sizeLine=16777216:=sizeLine_eq
 cases x with
 | bx =>
  cases rx
  have e':k=false:=e
  subst e'
  exact truthy_none ⟨H,I,q⟩
 | bl b =>
  cases rx
  have e':k=b:=e
  subst e'
  exact wpAny_truthy_bool ⟨H,I,q⟩
 | int i =>
  obtain⟨t,rfl⟩:=rx
  have e':k=(i != 0):=e
  subst e'
  exact PySem.P.truthy_int ⟨H,I,q⟩
 | str y =>
  obtain⟨t,rfl⟩:=rx
  obtain⟨hy,e'⟩:y.length<=sizeLine/\k=((y.length:Int) != 0):=e
  subst e'
  exact PySem.P.truthy_str (by omega) ⟨H,I.tok _,q⟩
 | ie y =>
  obtain⟨t,rfl⟩:=rx
  obtain⟨hy,e'⟩:y.size<=sizeLine/\k=((y.size:Int) != 0):=e
  subst e'
  exact PySem.W.truthy_bytes (by omega) ⟨H,I.tok _,q⟩
 | ref p =>
  cases rx
  have e':(∃ xs,aW X.K H p xs/\k = !xs.isEmpty)\/(∃ xs,ay X.K H p xs/\k = !xs.isEmpty)\/∃ kvs,H p=some (.dK kvs)/\k = !kvs.isEmpty:=e
  rcases e' with ⟨xs,hx,e'⟩ | ⟨xs,hx,e'⟩ | ⟨kvs,hx,e'⟩
  ·subst e'
   obtain⟨its,r,pl,hz⟩:=I.list hx
   have hlen:=r.length
   exact wpAny_truthy_list pl.isList (by simp only [List.size_toArray];omega) ⟨H,I.tok _,by rw [kR r];exact q⟩
  ·subst e'
   obtain⟨its,r,pl,hz⟩:=I.tuple hx
   have hlen:=r.length
   exact truthy_tuple pl (by simp only [List.size_toArray];omega) ⟨H,I.tok _,by rw [kR r];exact q⟩
  ·subst e'
   obtain⟨hz,hS,vs,r,m⟩:kvs.length<=sizeLine/\(p == sysModules)=false/\∃ vs,KV kvs vs/\s.heap.DictOf (aB X.prog X.w) p vs:=I.aL p _ hx
   have hlen:kvs.length=vs.length:=Paired.length r
   exact wpAny_truthy_dict hS m (by omega) ⟨H,I.tok _,by rw [rn r];exact q⟩
 | _=>exact (show False from e).elim
theorem uS (ha:PE X a ta) (he:∀ whole,isTrue a X.env whole=(do let v <-whole;standAt a.pos;holding [v] (truthy v))) :
  PT X a (fun σ H Q=>ta σ H fun x H'=>∃ k,xY X.K x H' k/\Q k H'):=by
 intro pins s σ H Q I h
 exact isTrue_plain (aJ (ha pins s σ H _ I h) fun v s1 ⟨x,H1,I1,r1,q1⟩=>xZ pins s1 σ H1 x v Q I1 r1 q1) (he _)
theorem vals1 {x:V} {us:List Value} (r:Vals [x] us):∃ u,us = [u]/\RelV x u:=by
 cases r with
 | cons r1 r2=>cases r2;exact⟨_,rfl,r1⟩
theorem vals2 {x y:V} {us:List Value} (r:Vals [x,y] us):∃ u w',us = [u,w']/\RelV x u/\RelV y w':=by
 cases r with
 | cons r1 r2 =>
  cases r2 with
  | cons r3 r4=>cases r4;exact⟨_,_,rfl,r1,r3⟩
theorem tq (hc:X.calm=true):dB X (.builtin "max") (fun xs H Q=>∃ i j,xs = [.int i,.int j]/\Q (.int (if j > i then j else i)) H):=by
 intro pins s σ H xs us Q I r h
 obtain⟨i,j,rfl,q⟩:=h
 obtain⟨u,w',rfl,⟨t,rfl⟩,⟨t',rfl⟩⟩:=vals2 r
 refine max_two_ints (I.ok.hd hc) fun h' tk k=>⟨_,H,I.kept k,?_,q⟩
 by_cases hj:j > i
 ·rw [if_pos hj,if_pos hj];exact⟨_,rfl⟩
 ·rw [if_neg hj,if_neg hj];exact⟨_,rfl⟩
theorem fJ (hc:X.calm=true):dB X (.builtin "min") (fun xs H Q=>∃ i j,xs = [.int i,.int j]/\Q (.int (if j < i then j else i)) H):=by
 intro pins s σ H xs us Q I r h
 obtain⟨i,j,rfl,q⟩:=h
 obtain⟨u,w',rfl,⟨t,rfl⟩,⟨t',rfl⟩⟩:=vals2 r
 refine min_two_ints (I.ok.hd hc) fun h' tk k=>⟨_,H,I.kept k,?_,q⟩
 by_cases hj:j < i
 ·rw [if_pos hj,if_pos hj];exact⟨_,rfl⟩
 ·rw [if_neg hj,if_neg hj];exact⟨_,rfl⟩
theorem tu:dB X (.type "int") (fun xs H Q=>(∃ i,xs = [.int i]/\Q (.int i) H)\/∃ k,xs = [.bl k]/\Q (.int (if k then 1 else 0)) H):=by
 intro pins s σ H xs us Q I r h
 rcases h with ⟨i,rfl,q⟩ | ⟨k,rfl,q⟩
 ·obtain⟨u,rfl,t,rfl⟩:=vals1 r
  exact call_int_int ⟨.int i,H,I,⟨_,rfl⟩,q⟩
 ·obtain⟨u,rfl,r1⟩:=vals1 r
  cases r1
  exact call_int_bool ⟨.int (if k then 1 else 0),H,I.tok _,⟨_,rfl⟩,q⟩
end
structure ke (h:Heap) (x dx C:Addr) (mA:Str->Option Value):Prop where
 obj:h.get? x=some (PySem.W.instObj C dx)
 ns:h.Ns1 dx mA
 ne:dx ≠ x
theorem tw {h:Heap} {dx:Addr} {mA:Str->Option Value} (n:h.Ns1 dx mA):∃ od,h.get? dx=some od/\∀ name,PySem.W.lookIn name od=some (mA name):=by
 obtain⟨o,es,ep,ho,hd,hk,_,hm⟩:=n
 refine⟨o,ho,fun name=>?_⟩
 have e:=hm name
 unfold nsFind findBy at e
 rw [<-Array.find?_toList] at e
 unfold PySem.W.lookIn
 rw [hd]
 dsimp only
 split
 ·rename_i y q
  rw [q] at e
  exact congrArg some e
 ·rename_i q
  rw [q] at e
  have a:es.toList.any (·.refKey)=false:=by
   rw [List.any_eq_false]
   intro y hy
   obtain⟨z,t,hkey⟩:=hk y (Array.mem_toList_iff.mp hy)
   simp [DictEntry.refKey,hkey]
  have a':¬ es.toList.any (·.refKey)=true:=by rw [a];exact Bool.false_ne_true
  rw [if_neg a']
  exact congrArg some e
theorem ke.look {h:Heap} {x dx C:Addr} {mA:Str->Option Value} (I:ke h x dx C mA):∃ od,PySem.W.InstAt h x (PySem.W.instObj C dx) C (some od)/\∀ name,PySem.W.lookIn name od=some (mA name) :=
 let ⟨od,ho,hl⟩:=tw I.ns
 ⟨od,⟨I.obj,rfl,rfl,ho⟩,hl⟩
section
variable {prog:Program} {w:World} {A:Around} {E:Value->Shared->Prop} {s:Shared} {K:PySem.W.Frag} {x dx C f:Addr} {mA:Str->Option Value} {name:Str} {v:Value}
theorem get_map {expr:Bool} {Q:Value->Shared->Prop} (X:K.In s.heap) (I:ke s.heap x dx C mA) (hg:PySem.W.plainGet K C name=true) (hh:PySem.W.hasDictIn K C=true)
  (ha:PySem.W.findIn K (.ref C) name=some none) (hv:mA name=some v) (hv':PySem.W.handedIn v=true) (h:Q v { s with toks:=s.toks+1 }) :
  wpAny (model prog w) A (getAttr (.ref x) name expr) Q E s:=by
 obtain⟨od,J,hl⟩:=I.look
 exact PySem.W.get_value X J (PySem.W.plainGet_of hg).1 (PySem.W.findObj_own hh ha rfl (by rw [hl,hv])) hv' h
theorem uT {pl:Sem Bool} {Q:Value × List Value->Shared->Prop} (X:K.In s.heap) (I:ke s.heap x dx C mA) (hg:PySem.W.plainGet K C name=true)
  (hf:PySem.W.findIn K (.ref C) name=some (some (.ref f))) (ht:PySem.W.isFn K (.ref f)=true) (hv:mA name=none) (h:Q (.ref f,[.ref x]) s) :
  wpAny (model prog w) A (getMethod (.ref x) name pl) Q E s:=by
 obtain⟨od,J,hl⟩:=I.look
 exact PySem.W.method_fn X J (PySem.W.plainGet_of hg).1 (PySem.W.plainGet_of hg).2 hf (beq_iff_eq.mp ht) (by show (PySem.W.lookIn name od).map (·.isSome)=some false;rw [hl,hv];rfl) h
theorem wV {ns:List Str} {Q:Unit->Shared->Prop} (X:K.In s.heap) (I:ke s.heap x dx C mA)
  (hs:PySem.W.findIn K (.ref C) "__setattr__" = some (some (.builtin "object.__setattr__"))) (hp:PySem.W.plainOver K C=true) (ht:PySem.W.takerIn K C name=some none) (hh:PySem.W.hasDictIn K C=true)
  (hw:PySem.Within mA ns) (hsz:ns.length<=sizeLine)
  (h:∀ h',ke h' x dx C (fun y=>if y=name then some v else mA y)->Heap.SameBut dx s.heap h'->Q () { s with heap:=h',toks:=s.toks+2 }) :
  wpAny (model prog w) A (setAttr (.ref x) name v) Q E s:=by
 obtain⟨od,J,hl⟩:=I.look
 refine PySem.W.set_plain X J hs (PySem.W.osa_open (s:={ s with toks:=s.toks+1 }) (r:=none) X J hp ht fun b=>?_)
 obtain⟨cd,hc,hd'⟩:=PySem.W.any_some hh
 have hx:s.heap.get? x=some ⟨.ref C,some dx,.plain,#[]⟩:=I.obj
 refine wpAny_bind (wpAny_pure (wpAny_bind (wpAny_bind (wpAny_loadPart hx (wpAny_bind (PySem.W.Looks.here (s:={ s with toks:=s.toks+1 }) (PySem.W.looks_clsIn X hc) ?_))))))
 rw [hd']
 refine wpAny_pure (a:=some dx) (wpAny_bind (wpAny_pure (wpAny_bind ?_)))
 refine wpAny_nsSet1 (s:={ s with toks:=s.toks+1 }) I.ns fun h' hn2 hs2=>?_
 obtain⟨oD,esD,epD,hoD,hdD,hcD⟩:=hn2.count (PySem.Within.cons name v hw)
 refine wpAny_bind (wpAny_lookBehind hoD (by rw [hdD];exact pastItsLine_dict (Nat.le_trans hcD (by rw [List.length_cons];omega))) ?_)
 exact wpAny_pure (h _ ⟨(hs2.2 _ (Ne.symm I.ne)).trans I.obj,hn2,I.ne⟩ hs2)
theorem uU {R:Result->Shared->Prop} {vs:List Value} {kw:List (Str × Value)} (X:K.In s.heap) (hm:PySem.W.makesIn K C=true)
  (hi:PySem.W.findIn K (.ref C) "__init__" = some (some (.ref f))) (hf:PySem.W.typeIn K (.ref f)=some (.type "function"))
  (h:codeAny (model prog w) (A.under (.builtin "type.__call__" ⟨.ref C :: vs,kw⟩)) (.call (.ref f) ⟨.ref (s.heap.objs.size+1) :: vs,kw⟩) (PySem.W.InitBack (s.heap.objs.size+1) R)
   { s with heap:=(s.heap.push PySem.W.emptyDict).push (PySem.W.instObj C s.heap.objs.size) }) :
  codeAny (model prog w) A (.call (.ref C) ⟨vs,kw⟩) R s:=by
 obtain⟨hh,g,d,t,os⟩:=s
 exact PySem.W.make_core (PySem.W.makes_of X hm) (PySem.W.looks_findIn X hi) (fun self=>PySem.W.bind_fn X self hf) (.inl rfl) h
end
def cZ (f:Str) (v:V):List (Str × V)->List (Str × V)
 | []=>[(f,v)]
 | (g,x) :: r=>if g=f then (g,v) :: r else (g,x) :: cZ f v r
theorem jT (f g:Str) (v:V):∀ fs:List (Str × V),(cZ f v fs).lookup g=if g=f then some v else fs.lookup g
 | []=>by
  show List.lookup g [(f,v)] = _
  by_cases h:g=f
  ·have hb:(g == f)=true:=beq_iff_eq.mpr h
   simp only [List.lookup,hb,if_pos h]
  ·have hb:(g == f)=false:=beq_eq_false_iff_ne.mpr h
   simp only [List.lookup,hb,if_neg h]
 | (k,x) :: r=>by
  have ih:=jT f g v r
  rw [show cZ f v ((k,x) :: r)=(if k=f then (k,v) :: r else (k,x) :: cZ f v r) from rfl]
  by_cases hk:k=f
  ·rw [if_pos hk]
   by_cases h:g=k
   ·have hb:(g == k)=true:=beq_iff_eq.mpr h
    simp only [List.lookup,hb,if_pos (h.trans hk)]
   ·have hb:(g == k)=false:=beq_eq_false_iff_ne.mpr h
    simp only [List.lookup,hb,if_neg (fun e:g=f=>h (e.trans hk.symm))]
  ·rw [if_neg hk]
   by_cases h:g=k
   ·have hb:(g == k)=true:=beq_iff_eq.mpr h
    simp only [List.lookup,hb,if_neg (fun e:g=f=>hk (h.symm.trans e))]
   ·have hb:(g == k)=false:=beq_eq_false_iff_ne.mpr h
    simp only [List.lookup,hb]
    exact ih
theorem i8 (f:Str) (v:V):∀ fs:List (Str × V),f ∈ (cZ f v fs).map (·.1)/\∀ g,g ∈ fs.map (·.1)->g ∈ (cZ f v fs).map (·.1)
 | []=>⟨by simp [cZ],fun g h=>by simp at h⟩
 | (k,x) :: r=>by
  obtain⟨i1,i2⟩:=i8 f v r
  rw [show cZ f v ((k,x) :: r)=(if k=f then (k,v) :: r else (k,x) :: cZ f v r) from rfl]
  by_cases hk:k=f
  ·rw [if_pos hk]
   subst hk
   exact⟨by simp,fun g h=>by simpa using h⟩
  ·rw [if_neg hk]
   refine⟨?_,fun g h=>?_⟩
   ·rw [List.map_cons]
    exact List.mem_cons_of_mem _ i1
   ·rw [List.map_cons] at h ⊢
    rcases List.mem_cons.mp h with e | e
    ·exact List.mem_cons.mpr (.inl e)
    ·exact List.mem_cons_of_mem _ (i2 g e)
theorem jU (f:Str) (v:V):∀ fs:List (Str × V),(cZ f v fs).length<=fs.length+1
 | []=>by simp [cZ]
 | (k,x) :: r=>by
  have ih:=jU f v r
  rw [show cZ f v ((k,x) :: r)=(if k=f then (k,v) :: r else (k,x) :: cZ f v r) from rfl]
  by_cases hk:k=f
  ·rw [if_pos hk,List.length_cons,List.length_cons];omega
  ·rw [if_neg hk,List.length_cons,List.length_cons];omega
theorem dP.some_of {v:V} {o:Option Value} (r:dP (some v) o):∃ u,o=some u/\RelV v u:=by
 cases o with
 | none=>exact (show False from r).elim
 | some u=>exact⟨u,rfl,r⟩
theorem dP.none_of {o:Option Value} (r:dP none o):o=none:=by
 cases o with
 | none=>rfl
 | some u=>exact (show False from r).elim
theorem tD {v:V} {u:Value} (r:RelV v u):PySem.W.handedIn u=true:=by
 cases v with
 | bx=>cases (show u=Value.none from r);rfl
 | bl b=>cases (show u=Value.bool b from r);rfl
 | int i=>obtain⟨t,e⟩:=(show ∃ t,u=Value.int i t from r);cases e;rfl
 | str x=>obtain⟨t,e⟩:=(show ∃ t,u=Value.str x t from r);cases e;rfl
 | ie b=>obtain⟨t,e⟩:=(show ∃ t,u=Value.bytes b t from r);cases e;rfl
 | sS b=>obtain⟨t,e⟩:=(show ∃ t,u=Value.float b t from r);cases e;rfl
 | ref a=>cases (show u=Value.ref a from r);rfl
 | ty n=>cases (show u=Value.type n from r);rfl
section
variable {P:Program} {w:World} {H H':Hp} {h h':Heap} {a C dx:Addr} {fs fs':List (Str × V)}
theorem mq (aL:cQ P w H h) (e:H a=some (.ins C dx fs)):∃ mA,ke h a dx C mA/\(∀ f,dP (fs.lookup f) (mA f))/\PySem.Within mA (fs.map (·.1))/\fs.length<=1000/\H dx=some (.own a):=by
 obtain⟨d,z,ne,ob,mA,n,r,q⟩:=(show bI P w H h a (.ins C dx fs) from aL a _ e)
 exact⟨mA,⟨ob,n,ne⟩,r,q,z,d⟩
end
structure jV (K:PySem.W.Frag) (C:Addr):Prop where
 pg:PySem.W.plainGet K C Str.empty=true
 hd:PySem.W.hasDictIn K C=true
 po:PySem.W.plainOver K C=true
 sa:PySem.W.findIn K (.ref C) "__setattr__" = some (some (.builtin "object.__setattr__"))
theorem jV.get {K:PySem.W.Frag} {C:Addr} (c:jV K C) (f:Str):PySem.W.plainGet K C f=true:=c.pg
def fK (K:PySem.W.Frag) (C:Addr) (f:Str):Prop:=PySem.W.findIn K (.ref C) f=some none
theorem fK.y8 {K:PySem.W.Frag} {C:Addr} {f:Str} (n:fK K C f):PySem.W.takerIn K C f=some none:=by
 unfold PySem.W.takerIn
 rw [show PySem.W.findIn K (.ref C) f=some none from n]
 rfl
structure Meth (K:PySem.W.Frag) (C:Addr) (m:Str) (f:Addr):Prop where
 at_:PySem.W.findIn K (.ref C) m=some (some (.ref f))
 fn:PySem.W.isFn K (.ref f)=true
 kp:PySem.W.keepIn K (.ref f)=true
section
variable {X:Cx} {pins:List (Addr × Obj)} {σ : St} {H:Hp} {s:Shared} {a C dx:Addr} {fs:List (Str × V)} {f:Str} {v:V} {A:Around} {E:Value->Shared->Prop}
theorem rA {b:Bool} {Q:Value->Shared->Prop} (I:Inv X pins σ H s) (e:H a=some (.ins C dx fs)) (c:jV X.K C) (n:fK X.K C f) (l:fs.lookup f=some v)
  (h:∀ u s',Inv X pins σ H s'->RelV v u->Q u s'):wpAny (model X.prog X.w) A (getAttr (.ref a) f b) Q E s:=by
 obtain⟨mA,O,r,_,_,_⟩:=mq I.aL e
 obtain⟨u,hu,ru⟩:=dP.some_of (v:=v) (o:=mA f) (by rw [<-l];exact r f)
 exact get_map I.fR O (c.get f) c.hd n hu (tD ru) (h u _ (I.tok _) ru)
theorem rB {m:Str} {g:Addr} {pl:Sem Bool} {Q:Value × List Value->Shared->Prop} (I:Inv X pins σ H s) (e:H a=some (.ins C dx fs)) (c:jV X.K C) (k:Meth X.K C m g) (l:fs.lookup m=none)
  (h:Q (.ref g,[.ref a]) s):wpAny (model X.prog X.w) A (getMethod (.ref a) m pl) Q E s:=by
 obtain⟨mA,O,r,_,_,_⟩:=mq I.aL e
 have hn:mA m=none:=dP.none_of (by rw [<-l];exact r m)
 exact uT I.fR O (c.get m) k.at_ k.fn hn h
theorem rC {y:V} {u:Value} {Q:Unit->Shared->Prop} (I:Inv X pins σ H s) (e:H a=some (.ins C dx fs)) (c:jV X.K C) (n:fK X.K C f) (hl:fs.length < 1000) (ry:RelV y u)
  (h:∀ s',Inv X pins σ (upd H a (.ins C dx (cZ f y fs))) s'->Q () s'):wpAny (model X.prog X.w) A (setAttr (.ref a) f u) Q E s:=by
 obtain⟨mA,O,r,wi,_,ho⟩:=mq I.aL e
 have hz:(fs.map (·.1)).length<=sizeLine:=by rw [List.length_map,sizeLine_eq];omega
 refine wV I.fR O c.sa c.po n.y8 c.hd wi hz fun h' O' sb=>h _ ?_
 have hd:∃ o,h'.get? dx=some o:=let ⟨o,_,_,e',_⟩:=O'.ns;⟨o,e'⟩
 refine I.write (x:=a) (e:=dx) (by rw [e];exact True.intro) (.inr ho) (fun b q hb z=>(sb.2 b hb).trans z) hd ?_
 refine⟨by rw [av O.ne];exact ho,?_,O.ne,O'.obj,_,O'.ns,fun g=>?_,fun g hg=>?_⟩
 ·have:=jU f y fs;omega
 ·show dP ((cZ f y fs).lookup g) (if g=f then some u else mA g)
  rw [jT]
  by_cases q:g=f
  ·rw [if_pos q,if_pos q];exact ry
  ·rw [if_neg q,if_neg q];exact r g
 ·by_cases q:g=f
  ·rw [q];exact (i8 f y fs).1
  ·refine (i8 f y fs).2 g (wi g fun z=>hg ?_)
   show (if g=f then some u else mA g)=none
   rw [if_neg q];exact z
theorem Inv.made (I:Inv X pins σ H s):Inv X pins σ (upd (upd H s.heap.objs.size (.own (s.heap.objs.size+1))) (s.heap.objs.size+1) (.ins C s.heap.objs.size []))
  { s with heap:=(s.heap.push PySem.W.emptyDict).push (PySem.W.instObj C s.heap.objs.size) }:=by
 have e1:(s.heap.push PySem.W.emptyDict).get? s.heap.objs.size=some PySem.W.emptyDict:=Heap.get?_push_size s.heap rfl
 have e2:((s.heap.push PySem.W.emptyDict).push (PySem.W.instObj C s.heap.objs.size)).get? (s.heap.objs.size+1)=some (PySem.W.instObj C s.heap.objs.size):=by
  have:=Heap.get?_push_size (s.heap.push PySem.W.emptyDict) (o:=PySem.W.instObj C s.heap.objs.size) rfl
  rwa [Heap.size_push] at this
 have e3:(s.heap.push PySem.W.emptyDict).Ns s.heap.objs.size (fun _=>none):=⟨PySem.W.emptyDict,#[],_,e1,rfl,(fun e he=>absurd he (by simp)),fun _=>rfl⟩
 have I1:=I.laid (a:=s.heap.objs.size) (o:=.own (s.heap.objs.size+1)) (h':=s.heap.push PySem.W.emptyDict) (t':=s.toks) (fun b u q=>Heap.get?_push_of_some _ q) (Nat.le_refl _) ⟨_,e1⟩
 refine I1.laid (a:=s.heap.objs.size+1) (o:=.ins C s.heap.objs.size []) (t':=s.toks) (fun b u q=>Heap.get?_push_of_some _ q) (Nat.le_of_eq (Heap.size_push _ _)) ?_
 have ne:s.heap.objs.size ≠ s.heap.objs.size+1:=Nat.ne_of_lt (Nat.lt_succ_self _)
 refine⟨by rw [av ne,ae],Nat.zero_le _,ne,e2,fun _=>none,(Heap.Ns1.of_empty e3).at fun o q=>Heap.get?_push_of_some _ q,fun _=>True.intro,fun y hy=>absurd rfl hy⟩
theorem wW {prog:Program} {w:World} {env:Env} {e:Expr} {f:Str} {pos:Pos} {s:Shared} {Q:Value->Shared->Prop} (hb:attributeBase e f env (eval e env)=eval e env)
  (h:wpAny (model prog w) A (eval e env) (fun o s₁=>wpAny (model prog w) A (getAttr o f true) Q E s₁) E s):wpAny (model prog w) A (eval (.Attribute e f pos) env) Q E s :=
 Attribute_any_ h (by rw [arm_eval_Attribute,hb])
end
def x6 (K:PySem.W.Frag) (ta:TE) (f:Str):TE:=fun σ H Q=>ta σ H fun x H1=>∃ a C dx fs v,x=.ref a/\H1 a=some (.ins C dx fs)/\jV K C/\fK K C f/\fs.lookup f=some v/\Q v H1
def zT (K:PySem.W.Frag) (ta tv:TE) (f:Str):TS:=fun D σ H=>tv σ H fun y H1=>ta σ H1 fun x H2=>∃ a C dx fs,x=.ref a/\H2 a=some (.ins C dx fs)/\jV K C/\fK K C f/\fs.length < 1000 /\
 D.nx σ (upd H2 a (.ins C dx (cZ f y fs)))
section
variable {X:Cx} {o e value:Expr} {f:Str} {pos pos' tpos:Pos} {ta tv:TE}
theorem fe (he:PE X e ta) (hb:attributeBase e f X.env (eval e X.env)=eval e X.env):PE X (.Attribute e f pos) (x6 X.K ta f):=by
 intro pins s σ H Q I h
 refine wW hb (aJ (he pins s σ H _ I h) fun u s1 ⟨x,H1,I1,rx,a,C,dx,fs,v,ex,ea,c,n,l,q⟩=>?_)
 subst ex
 obtain rfl:u=Value.ref a:=rx
 exact rA I1 ea c n l fun u' s2 I2 ru=>⟨v,H1,I2,ru,q⟩
theorem tE (ha:PE X o ta) (hv:PE X value tv) (hs:swapsWith value (some (.Attribute o f pos')) pos.line X.env=pure false):PS X (.Assign [.Attribute o f pos'] value pos) (zT X.K ta tv f):=by
 intro pins s σ H D I h
 refine plainObj_wpAny_Assign_Attribute (aJ (hv pins s σ H _ I h) fun u s1 ⟨y,H1,I1,ry,q⟩=>aJ (ha pins s1 σ H1 _ I1 q) fun ov s2 ⟨x,H2,I2,rx,a,C,dx,fs,ex,ea,c,n,l,q2⟩=>?_) hs
 subst ex
 obtain rfl:ov=Value.ref a:=rx
 exact rC I2 ea c n l ry fun s3 I3=>⟨σ,_,I3,q2⟩
end
section
variable {X:Cx} {pins:List (Addr × Obj)} {σ : St} {H:Hp} {s:Shared} {A:Around} {E:Value->Shared->Prop} {Q:Value->Shared->Prop} {c:Value} {b:Bool}
end
structure cg (k:Nat) (A:Around):Prop where
 hd:A.handled=none
 dp:A.depth+3 * k+5 < recursionLimit
 un:A.units+16 * k+200 < cLine
theorem cg.mono {j k:Nat} {A:Around} (r:cg k A) (h:j<=k):cg j A:=⟨r.hd,by have:=r.dp;omega,by have:=r.un;omega⟩
theorem cg.deeper {k:Nat} {A:Around} (r:cg (k+1) A) (env:Env):cg k (A.deeper env) :=
 ⟨r.hd,by have:=r.dp;show A.depth+1+3 * k+5 < _;omega,by have:=r.un;show A.units+3+16 * k+200 < _;omega⟩
theorem rD {A:Around} {C:Addr} {us:List Value} {kw:List (Str × Value)}:(A.under (.builtin "type.__call__" ⟨.ref C :: us,kw⟩)).depth=A.depth+1:=by
 first | rfl | simp [Around.under,Code.weight,Code.isCreation,Code.isGuard,Code.isCaller,Code.frames,Code.isFrame,guardIds]
theorem rE {A:Around} {C:Addr} {us:List Value} {kw:List (Str × Value)}:(A.under (.builtin "type.__call__" ⟨.ref C :: us,kw⟩)).units=A.units+1:=by
 first | rfl | simp [Around.under,Code.cUnits,Code.frames,Code.isFrame]
theorem cg.make {k:Nat} {A:Around} (r:cg (k+1) A) (C:Addr) (us:List Value) (kw:List (Str × Value)):cg k (A.under (.builtin "type.__call__" ⟨.ref C :: us,kw⟩)) :=
 ⟨r.hd,by have:=r.dp;rw [rD];omega,by have:=r.un;rw [rE];omega⟩
theorem cg.depth {k:Nat} {A:Around} (r:cg k A):A.depth < recursionLimit:=by have:=r.dp;omega
theorem cg.units {k:Nat} {A:Around} (r:cg k A):A.units+64 < cLine:=by have:=r.un;omega
def x8:TA:=fun _ H Q=>Q [] H
def y9 (ta:TE) (tr:TA):TA:=fun σ H Q=>ta σ H fun x H1=>tr σ H1 fun xs H2=>Q (x :: xs) H2
section
variable {X:Cx} {e:Expr} {es:List Expr} {te:TE} {t:TA} {pos:Pos}
theorem af:PA X [] x8:=fun _ _ _ _ H Q I h=>Calls.spliced_nil ⟨[],H,I,.nil,h⟩
theorem aa (ha:PE X e te) (hr:PA X es t) (hs:starEach (e :: es) X.env=(false,eval e X.env) :: starEach es X.env:=by rfl):PA X (e :: es) (y9 te t):=by
 intro pos pins s σ H Q I h
 rw [hs]
 show wpAny _ _ (spliced ((false,eval e X.env) :: backTo pos (starEach es X.env))) _ _ s
 refine Calls.spliced_cons (aJ (ha pins s σ H _ I h) fun u s1 ⟨x,H1,I1,r1,q1⟩=>?_)
 exact aJ (hr pos pins s1 σ H1 _ I1 q1) fun us s2 ⟨xs,H2,I2,r2,q2⟩=>⟨x :: xs,H2,I2,.cons r1 r2,q2⟩
def zU (t:TA):TE:=fun σ H Q=>t σ H fun xs H1=>xs.length<=sizeLine/\∀ p,H1 p=none->Q (.ref p) (upd H1 p (.tup xs))
def zV (t:TA):TE:=fun σ H Q=>t σ H fun xs H1=>xs.length<=sizeLine/\∀ p,H1 p=none->Q (.ref p) (upd H1 p (.lst xs))
theorem aQ {x1} (h:PA X es t):PE X (.Tuple es x1 pos) (zU t):=by
 intro pins s σ H Q I hq
 refine wpAny_Tuple_spliced (aJ (h pos pins s σ H _ I hq) fun us s1 ⟨xs,H1,I1,r,z,q⟩=>⟨by rw [<-r.length];exact z,?_⟩)
 have hf:H1 s1.heap.objs.size=none:=I1.aL.fresh (Nat.le_refl _)
 refine⟨.ref s1.heap.objs.size,upd H1 s1.heap.objs.size (.tup xs),I1.laid (t':=s1.toks) (fun b u e=>Heap.get?_push_of_some _ e) (Nat.le_refl _) ?_,rfl,q _ hf⟩
 exact⟨z,us,r,⟨_,Heap.get?_push_size _ rfl,rfl,_,rfl,rfl⟩⟩
theorem gC (h:PA X es t):PE X (.List es pos) (zV t):=by
 intro pins s σ H Q I hq
 refine wpAny_List_spliced (aJ (h pos pins s σ H _ I hq) fun us s1 ⟨xs,H1,I1,r,z,q⟩=>⟨by rw [<-r.length];exact z,?_⟩)
 have hf:H1 s1.heap.objs.size=none:=I1.aL.fresh (Nat.le_refl _)
 refine⟨.ref s1.heap.objs.size,upd H1 s1.heap.objs.size (.lst xs),I1.laid (t':=s1.toks) (fun b u e=>Heap.get?_push_of_some _ e) (Nat.le_refl _) ?_,rfl,q _ hf⟩
 exact⟨z,us,0,r,Heap.get?_push_size _ rfl⟩
end
abbrev Sp:=List V->Hp->VK->XK->Prop
abbrev i9:=List Env->Hp->Shared->XK->Value->Shared->Prop
structure kf (P:Program) (w:World) (K:PySem.W.Frag) (mg:Str->Option Value) (base:Heap) (A:Around) (outer:List Env) (s:Shared) (H:Hp):Prop where
 frames:A.frames=some outer
 mod:Mod K mg base
 bs:∀ b o,base.get? b=some o->s.heap.get? b=some o/\H b=none
 kO:base.objs.size<=s.heap.objs.size
 fN:s.heap.FunFrames base outer
 oB:∀ b ∈ iZ outer,H b=none
 aL:cQ P w H s.heap
 bare:AllBare s.gens
def CE (outer:List Env) (P:Program) (w:World) (H:Hp) (s:Shared) (Q:VK) (u:Value) (s':Shared):Prop :=
 ∃ v H',s'.os=s.os/\AllBare s'.gens/\Un (iZ outer) [] H H' s.heap s'.heap/\cQ P w H' s'.heap/\RelV v u/\Q v H'
def CR (CX:i9) (outer:List Env) (P:Program) (w:World) (H:Hp) (s:Shared) (Q:VK) (E:XK) (r:Result) (s':Shared):Prop :=
 match r with
 | .ok (.ret u)=>CE outer P w H s Q u s'
 | .ok _=>False
 | .error e=>CX outer H s E e s'
structure br (P:Program) (w:World) (K:PySem.W.Frag) (mg:Str->Option Value) (base:Heap) (CX:i9) (k:Nat) (f:Addr) (fd:FuncData) (ps:List Str) (sp:Sp):Prop where
 len:∀ vs H Q E,sp vs H Q E->vs.length=ps.length
 run:∀ (A:Around) (outer:List Env) (s:Shared) (H:Hp) (args:Args) (us:List Value) (vs:List V) (Q:VK) (E:XK),cg k A->kf P w K mg base A outer s H->BindsTo s fd args (ps.zip us)->Vals vs us->sp vs H Q E ->
  codeAny (model P w) A (.call (.ref f) args) (CR CX outer P w H s Q E) s
theorem kf.make {P:Program} {w:World} {K:PySem.W.Frag} {mg:Str->Option Value} {base:Heap} {A:Around} {outer:List Env} {s:Shared} {H:Hp} (e:kf P w K mg base A outer s H) (C:Addr) (us:List Value) (kw:List (Str × Value)) :
  kf P w K mg base (A.under (.builtin "type.__call__" ⟨.ref C :: us,kw⟩)) outer s H:=⟨by first | exact e.frames | (simpa [Around.under,Code.envs,Code.isFrame,pushEnvs] using e.frames),e.mod,e.bs,e.kO,e.fN,e.oB,e.aL,e.bare⟩
section
variable {X:Cx} {pins:List (Addr × Obj)} {σ : St} {H:Hp} {s s':Shared}
theorem Inv.x9 (I:Inv X pins σ H s):kf X.prog X.w X.K X.mg X.base X.A X.stack s H :=
 ⟨I.ok.frames,I.ok.mod,I.bs,Nat.le_trans I.ok.kO I.sz,I.stack,I.qq,I.aL,I.bare⟩
theorem Inv.after {Q:VK} {u:Value} (I:Inv X pins σ H s) (h:CE X.stack X.prog X.w H s Q u s'):EP X pins σ Q u s':=by
 obtain⟨v,H',os,bare,un,aL,r,q⟩:=h
 obtain⟨hh,g,d,t,os'⟩:=s'
 obtain rfl:os' = s.os:=os
 exact⟨v,H',I.call (h':=hh) (g':=g) (d':=d) (t':=t) (ch:=[]) un aL bare (fun b z=>absurd z (by simp)),r,q⟩
end
def we (sp:Sp) (dvs:List V) (E:XK) (t:TA):TE:=fun σ H Q=>t σ H fun vs H1=>sp (vs++dvs) H1 Q E
def wg (C:Addr) (m:Str) (sp:Sp) (dvs:List V) (E:XK) (ta:TE) (t:TA):TE:=fun σ H Q=>ta σ H fun x H1=>∃ a dx fs,x=.ref a/\H1 a=some (.ins C dx fs)/\fs.lookup m=none /\
 t σ H1 fun vs H2=>sp (x :: (vs++dvs)) H2 Q E
def wj (C:Addr) (sp:Sp) (dvs:List V) (E:XK) (t:TA):TE:=fun σ H Q=>t σ H fun vs H1=>∀ x dx,H1 x=none->H1 dx=none->dx ≠ x ->
 sp (.ref x :: (vs++dvs)) (upd (upd H1 dx (.own x)) x (.ins C dx [])) (fun v H2=>v=.bx/\Q (.ref x) H2) E
def Binds (K:PySem.W.Frag) (fd:FuncData) (ps:List Str) (ds:List Value):Prop :=
 ∀ (s:Shared) (us:List Value),K.In s.heap->(us++ds).length=ps.length->BindsTo s fd ⟨us,[]⟩ (ps.zip (us++ds))
theorem Binds.all {K:PySem.W.Frag} {fd:FuncData} {ps:List Str} (h:∀ us:List Value,us.length=ps.length->bindArgs fd ⟨us,[]⟩=pure (ps.zip us)):Binds K fd ps []:=fun s us _ hl=>by
 rw [List.append_nil] at hl ⊢
 exact .of_eq (h us hl)
def Passes (CX:i9) (X:Cx) (E:XK):Prop:=∀ (pins:List (Addr × Obj)) (σ : St) (H:Hp) (s:Shared) (e:Value) (s':Shared),Inv X pins σ H s->CX X.stack H s E e s'->X.xe e s'
section
variable {X:Cx} {CX:i9} {k:Nat} {f C:Addr} {fd:FuncData} {ps:List Str} {sp:Sp} {dvs:List V} {ds:List Value} {E:XK} {x m:Str} {p pos apos:Pos} {e o:Expr} {es:List Expr} {ta:TE} {t:TA}
theorem tF {pins:List (Addr × Obj)} {σ : St} {H:Hp} {s:Shared} {Q:VK} {us:List Value} {vs:List V} (F:br X.prog X.w X.K X.mg X.base CX k f fd ps sp) (hr:cg k X.A) (hb:Binds X.K fd ps ds) (hd:Vals dvs ds) (hx:Passes CX X E)
  (I:Inv X pins σ H s) (r:Vals vs us) (h:sp (vs++dvs) H Q E):wpAny (model X.prog X.w) X.A (call (.ref f) us) (EP X pins σ Q) X.xe s:=by
 have r2:Vals (vs++dvs) (us++ds):=r.append hd
 have hl:(us++ds).length=ps.length:=by rw [<-r2.length];exact F.len _ _ _ _ h
 refine wpAny_call (codeAny_mono (F.run X.A X.stack s H ⟨us,[]⟩ (us++ds) (vs++dvs) Q E hr I.x9 (hb s us I.fR hl) r2 h) fun r s' hq=>?_)
 cases r with
 | error e=>exact hx pins σ H s e s' I hq
 | ok fl =>
  cases fl with
  | ret u=>exact I.after hq
  | next=>exact False.elim hq
  | brk=>exact False.elim hq
  | cont=>exact False.elim hq
theorem wX (F:br X.prog X.w X.K X.mg X.base CX k f fd ps sp) (hr:cg k X.A) (hg:Gl X x) (hm:X.mg x=some (.ref f)) (hk:PySem.W.keepIn X.K (.ref f)=true) (hb:Binds X.K fd ps ds) (hd:Vals dvs ds) (hx:Passes CX X E)
  (ha:PA X (e :: es) t) (hdb:(x == ("__debug__" : Str))=false:=by decide) (he:starEach (e :: es) X.env=(false,eval e X.env) :: starEach es X.env:=by rfl) (hpl:(backTo pos (starEach es X.env)).any (·.1)=false:=by rfl) :
  PE X (.Call (.Name x p) (e :: es) [] pos) (we sp dvs E t):=by
 intro pins s σ H Q I h
 refine wpAny_Call_Name_kw (mi I hg hm ?_ hdb)
 refine PySem.W.callWith_K (h₀:=X.base) I.ok.mod.ig hk (aJ (ha pos pins s σ H _ I h) fun us s1 ⟨vs,H1,I1,r,q⟩=>⟨I1.fR,?_⟩) he hpl
 exact tF F hr hb hd hx I1 r q
theorem wY {pl:Sem Bool} (he:PE X o ta) (c:jV X.K C) (hm:Meth X.K C m f) (F:br X.prog X.w X.K X.mg X.base CX k f fd ps sp) (hr:cg k X.A) (hb:Binds X.K fd ps ds) (hd:Vals dvs ds) (hx:Passes CX X E) (ha:PA X (e :: es) t)
  (hst:starEach (e :: es) X.env=(false,eval e X.env) :: starEach es X.env:=by rfl) (hpl:(backTo pos (starEach es X.env)).any (·.1)=false:=by rfl)
  (ht:eval (.Call (.Attribute o m apos) (e :: es) [] pos) X.env=(do
   let ov <-eval o X.env
   standAt apos.atName
   let (f,first) <-holding [ov] (getMethod ov m pl)
   callWith pos f first (backTo pos (starEach (e :: es) X.env)) (backToKw pos (keywordEach [] X.env))):=by rfl) :
  PE X (.Call (.Attribute o m apos) (e :: es) [] pos) (wg C m sp dvs E ta t):=by
 intro pins s σ H Q I h
 refine PySem.W.methodCall_KW (pl:=pl) (aJ (he pins s σ H _ I h) fun u s1 ⟨x,H1,I1,rx,a,dx,fs,ex,ea,l,q⟩=>?_) ht
 subst ex
 obtain rfl:u=Value.ref a:=rx
 refine rB I1 ea c hm l ?_
 refine PySem.W.callWith_K (first:=[.ref a]) (h₀:=X.base) I.ok.mod.ig hm.kp (aJ (ha pos pins s1 σ H1 _ I1 q) fun us s2 ⟨vs,H2,I2,r,q2⟩=>⟨I2.fR,?_⟩) hst hpl
 exact tF (us:=.ref a :: us) (vs:=.ref a :: vs) F hr hb hd hx I2 (.cons rfl r) q2
structure Mk (K:PySem.W.Frag) (C f:Addr):Prop where
 makes:PySem.W.makesIn K C=true
 init:PySem.W.findIn K (.ref C) "__init__" = some (some (.ref f))
 fn:PySem.W.isFn K (.ref f)=true
 kp:PySem.W.keepIn K (.ref C)=true
theorem uV {pins:List (Addr × Obj)} {σ : St} {H:Hp} {s:Shared} {Q:VK} {us:List Value} {vs:List V} (M:Mk X.K C f) (F:br X.prog X.w X.K X.mg X.base CX k f fd ps sp) (hr:cg (k+1) X.A) (hb:Binds X.K fd ps ds) (hd:Vals dvs ds)
  (hx:Passes CX X E) (I:Inv X pins σ H s) (r:Vals vs us)
  (h:∀ x dx,H x=none->H dx=none->dx ≠ x->sp (.ref x :: (vs++dvs)) (upd (upd H dx (.own x)) x (.ins C dx [])) (fun v H2=>v=.bx/\Q (.ref x) H2) E) :
  wpAny (model X.prog X.w) X.A (call (.ref C) us) (EP X pins σ Q) X.xe s:=by
 have hq:=h (s.heap.objs.size+1) s.heap.objs.size (I.aL.fresh (Nat.le_succ _)) (I.aL.fresh (Nat.le_refl _)) (Nat.ne_of_lt (Nat.lt_succ_self _))
 have I2:=Inv.made (C:=C) I
 have r2:Vals (V.ref (s.heap.objs.size+1) :: (vs++dvs)) (Value.ref (s.heap.objs.size+1) :: (us++ds)):=.cons rfl (r.append hd)
 have hl:(Value.ref (s.heap.objs.size+1) :: us++ds).length=ps.length:=by
  have e:=r2.length
  rw [F.len _ _ _ _ hq] at e
  exact e.symm
 refine wpAny_call (uU (f:=f) I.fR M.makes M.init (beq_iff_eq.mp M.fn) (codeAny_mono (F.run _ X.stack _ _ ⟨Value.ref (s.heap.objs.size+1) :: us,[]⟩ (Value.ref (s.heap.objs.size+1) :: (us++ds)) _ _ E (hr.make C us [])
  (I2.x9.make C us []) (hb _ (Value.ref (s.heap.objs.size+1) :: us) I2.fR hl) r2 hq) fun r s' hq'=>?_))
 cases r with
 | error e=>exact hx pins σ _ _ e s' I2 hq'
 | ok fl =>
  cases fl with
  | ret u =>
   obtain⟨v,H',I3,rv,ev,q3⟩:=I2.after hq'
   subst ev
   exact⟨rv,⟨V.ref (s.heap.objs.size+1),H',I3,rfl,q3⟩⟩
  | next=>exact False.elim hq'
  | brk=>exact False.elim hq'
  | cont=>exact False.elim hq'
theorem wZ (M:Mk X.K C f) (F:br X.prog X.w X.K X.mg X.base CX k f fd ps sp) (hr:cg (k+1) X.A) (hg:Gl X x) (hm:X.mg x=some (.ref C)) (hb:Binds X.K fd ps ds) (hd:Vals dvs ds) (hx:Passes CX X E)
  (ha:PA X (e :: es) t) (hdb:(x == ("__debug__" : Str))=false:=by decide) (he:starEach (e :: es) X.env=(false,eval e X.env) :: starEach es X.env:=by rfl) (hpl:(backTo pos (starEach es X.env)).any (·.1)=false:=by rfl) :
  PE X (.Call (.Name x p) (e :: es) [] pos) (wj C sp dvs E t):=by
 intro pins s σ H Q I h
 refine wpAny_Call_Name_kw (mi I hg hm ?_ hdb)
 refine PySem.W.callWith_K (h₀:=X.base) I.ok.mod.ig M.kp (aJ (ha pos pins s σ H _ I h) fun us s1 ⟨vs,H1,I1,r,q⟩=>⟨I1.fR,?_⟩) he hpl
 exact uV M F hr hb hd hx I1 r q
end
section
variable {X:Cx} {CX:i9} {k:Nat} {f C:Addr} {fd:FuncData} {ps ks:List Str} {sp:Sp} {E:XK} {x m:Str} {p pos apos kpos:Pos} {e o:Expr} {es:List Expr} {kws:List Keyword} {te ta:TE} {t tk:TA} {nm:Option Str}
variable {g:List Value->List Value->List Value} {gV:List V->List V->List V}
end
structure aO (N P:List Str) (sc:Scope):Prop where
 kind:sc.kind=.function
 co:sc.isCoroutine=false
 gen:sc.isGenerator=false
 nd:N.Nodup
 pre:N.take P.length=P
 par:∀ x ∈ P,sc.names.lookup x=some .local\/sc.names.lookup x=some .cell
 ya:∀ y ∈ sc.names,y.2 ≠ .free
theorem ng {kindOf:Str->Option NameKind} {x:Str}:∀ {binds:List (Str × Value)} {m:Str->Option Value},(∀ v,(x,v) ∉ binds)->bindL kindOf binds m x=m x
 | [],_,_=>rfl
 | (n,v) :: r,m,h=>by
  unfold bindL
  rw [ng fun w hw=>h w (List.mem_cons_of_mem _ hw)]
  split
  ·have:x ≠ n:=by rintro rfl;exact h v List.mem_cons_self
   simp [this]
  ·rfl
theorem ni {kindOf:Str->Option NameKind} {x:Str}:∀ {binds:List (Str × Value)} {m:Str->Option Value},(∀ v,(x,v) ∉ binds)->bindC kindOf binds m x=m x
 | [],_,_=>rfl
 | (n,v) :: r,m,h=>by
  unfold bindC
  rw [ni fun w hw=>h w (List.mem_cons_of_mem _ hw)]
  split
  ·rfl
  ·have:x ≠ n:=by rintro rfl;exact h v List.mem_cons_self
   simp [this]
theorem nj {kindOf:Str->Option NameKind} {x:Str} {v:Value}:∀ {P:List Str} {vs:List Value} {i:Nat} {m:Str->Option Value},P.Nodup->P[i]? = some x->vs[i]? = some v->kindOf x=some .local ->
  bindL kindOf (P.zip vs) m x=some v
 | [],_,_,_,_,h,_,_=>by simp at h
 | _ :: _,[],_,_,_,_,h,_=>by simp at h
 | p :: P,w :: vs,0,m,nd,h1,h2,hk=>by
  simp at h1 h2;subst h1;subst h2
  show bindL kindOf ((p,w) :: P.zip vs) m p=_
  unfold bindL
  rw [ng fun v hv=>(List.nodup_cons.mp nd).1 (List.of_mem_zip hv).1,if_pos hk]
  simp
 | p :: P,w :: vs,i+1,m,nd,h1,h2,hk=>by
  show bindL kindOf ((p,w) :: P.zip vs) m x=_
  unfold bindL
  exact nj (i:=i) (List.nodup_cons.mp nd).2 (by simpa using h1) (by simpa using h2) hk
theorem nk {kindOf:Str->Option NameKind} {x:Str} {v:Value}:∀ {P:List Str} {vs:List Value} {i:Nat} {m:Str->Option Value},P.Nodup->P[i]? = some x->vs[i]? = some v->kindOf x ≠ some .local ->
  bindC kindOf (P.zip vs) m x=some v
 | [],_,_,_,_,h,_,_=>by simp at h
 | _ :: _,[],_,_,_,_,h,_=>by simp at h
 | p :: P,w :: vs,0,m,nd,h1,h2,hk=>by
  simp at h1 h2;subst h1;subst h2
  show bindC kindOf ((p,w) :: P.zip vs) m p=_
  unfold bindC
  rw [ni fun v hv=>(List.nodup_cons.mp nd).1 (List.of_mem_zip hv).1,if_neg hk]
  simp
 | p :: P,w :: vs,i+1,m,nd,h1,h2,hk=>by
  show bindC kindOf ((p,w) :: P.zip vs) m x=_
  unfold bindC
  exact nk (i:=i) (List.nodup_cons.mp nd).2 (by simpa using h1) (by simpa using h2) hk
def start (N:List Str) (vs:List V):St:=vs.map some++List.replicate (N.length - vs.length) none
def kh (CX:i9) (P:Program) (w:World) (K:PySem.W.Frag) (mg:Str->Option Value) (base:Heap) (N:List Str) (qual:Str) (scope:Scope) (f:Addr) (cd:Value) (A:Around) (outer:List Env) (s:Shared) (H:Hp) (E:XK):Cx where
 prog:=P
 w:=w
 K:=K
 mg:=mg
 base:=base
 A:=A.deeper (envOfC qual scope s.heap.objs.size f cd)
 N:=N
 cV:=s
 oz:=H
 env:=envOfC qual scope s.heap.objs.size f cd
 outer:=outer
 stack:=envOfC qual scope s.heap.objs.size f cd :: outer
 ex:=[]
 calm:=true
 fn:=fun _=>true
 pn:=[]
 xe:=fun e s'=>wpAny (model P w) (A.deeper (envOfC qual scope s.heap.objs.size f cd)) (leaving (envOfC qual scope s.heap.objs.size f cd) e) (fun _ s''=>CX outer H s E e s'') (fun e' s''=>CX outer H s E e' s'') s'
theorem oR {sc:Scope} {n:Nat} {x:Str} (h:sc.names.lookup x=some .cell):∃ c,(cellsFrom n sc.names []).lookup x=some c:=by
 have q:=PySem.W.cellsFrom_some sc.names n [] (.inl h)
 exact Option.isSome_iff_exists.mp q
theorem tG {CX:i9} {P:Program} {w:World} {K:PySem.W.Frag} {mg:Str->Option Value} {base:Heap} {N ps:List Str} {qual:Str} {scope:Scope} {f:Addr} {cd:Value} {A:Around} {outer:List Env} {s s1:Shared} {H:Hp} {E:XK} {us:List Value} {vs:List V}
  (S:aO N ps scope) (hd:A.handled=none) (e0:kf P w K mg base A outer s H) (hl:vs.length=ps.length) (r:Vals vs us)
  (x:InCallC s s.heap.objs.size (bindL (envOfC qual scope s.heap.objs.size f cd).kindOf (ps.zip us) fun _=>none) (cellsFrom (s.heap.objs.size+1) scope.names []) (bindC (envOfC qual scope s.heap.objs.size f cd).kindOf (ps.zip us) fun _=>none) s1) :
  Inv (kh CX P w K mg base N qual scope f cd A outer s H E) [] (start N vs) H s1:=by
 have hpl:ps.length<=N.length:=by have:=congrArg List.length S.pre;rw [List.length_take] at this;omega
 obtain⟨h1,tk,rfl,hk⟩:=x.done
 have noA:∀ b:Addr,b ∉ (kh CX P w K mg base N qual scope f cd A outer s H E).ex:=fun b z=>absurd (show b ∈ ([]:List Addr) from z) (by simp)
 refine⟨⟨e0.mod,S.kind,rfl,rfl,Nat.le_refl _,fun y z c h1 h2=>?_,fun y hy=>?_,fun y c _ h=>?_,fun _=>hd,Around.frames_deeper e0.frames,.inr ⟨rfl,rfl⟩,fun b z=>absurd z (noA b),e0.bs,e0.kO,fun b _ _=>noA b,fun b z=>absurd z (noA b),e0.fN,e0.oB⟩,
  rfl,e0.bare,Un.kept hk,⟨_,x.toInCall.ns,fun i y v h1 h2 h3=>?_⟩,fun y c h=>⟨_,x.cell y c h⟩,e0.aL.fresh (Nat.le_refl _),fun y c h=>?_,fun p hp=>absurd (show p ∈ ([]:List (Addr × Obj)) from hp) (by simp),e0.aL.kept hk,?_⟩
 ·exact name_of_addr x.apart (PySem.mem_of_lookup h1) (PySem.mem_of_lookup h2)
 ·have hy:scope.names.lookup y=some .cell\/scope.names.lookup y=some .free:=hy
  rcases hy with hy | hy
  ·exact oR hy
  ·exact absurd rfl (S.ya _ (PySem.mem_of_lookup hy))
 ·exact Nat.le_of_lt (x.above y c (PySem.mem_of_lookup h))
 ·have hi:i < vs.length:=by
   unfold start at h2
   by_cases hi:i < vs.length
   ·exact hi
   ·rw [List.getElem?_append_right (by simpa using hi)] at h2
    rw [List.getElem?_replicate] at h2
    split at h2 <;> cases h2
  have ha:vs[i]? = some v:=by
   unfold start at h2
   rw [List.getElem?_append_left (by simpa using hi),List.getElem?_map] at h2
   cases e:vs[i]? with
   | none=>rw [e] at h2;cases h2
   | some a=>rw [e] at h2;cases h2;rfl
  obtain⟨u,hu,rv⟩:=r.get ha
  have hp:ps[i]? = some y:=by
   rw [<-S.pre,List.getElem?_take_of_lt (by omega)];exact h1
  have ndP:ps.Nodup:=by rw [<-S.pre];exact S.nd.sublist (List.take_sublist _ _)
  refine⟨u,rv,?_⟩
  rcases S.par y (List.mem_of_getElem? hp) with k | k
  ·exact .inl ⟨k,nj ndP hp hu k⟩
  ·obtain⟨c,e⟩:=oR (n:=s.heap.objs.size+1) k
   refine .inr ⟨.inl k,c,e,?_⟩
   have q:=x.cell y c e
   rw [nk ndP hp hu (by show scope.names.lookup y ≠ _;rw [k];decide)] at q
   exact q
 ·exact e0.aL.fresh (Nat.le_of_lt (x.above y c (PySem.mem_of_lookup h)))
 ·unfold start
  show _=N.length
  rw [List.length_append,List.length_map,List.length_replicate]
  omega
theorem wm {CX:i9} {P:Program} {w:World} {K:PySem.W.Frag} {mg:Str->Option Value} {base:Heap} {k:Nat} {f:Addr} {name qual:Str} {params:Arguments} {body:List Stmt} {scope:Scope} {dV kV doc pm cdv ct oc:Value} {an od:Option Addr}
  {osl:Array (Option Value)} {N ps:List Str} {sp:Sp} (lk:K.lookup f=some ⟨oc,od,.func (PySem.W.fnOf name qual params body scope dV kV doc pm an cdv ct),osl⟩) (hcd:PySem.W.codeIn K cdv qual=true) (S:aO N ps scope)
  (len:∀ vs H Q E,sp vs H Q E->vs.length=ps.length)
  (hbody:∀ (A:Around) (outer:List Env) (s:Shared) (H:Hp) (vs:List V) (Q:VK) (E:XK),cg k (A.deeper (envOfC qual scope s.heap.objs.size f cdv))->sp vs H Q E ->
   ∃ t,gU (kh CX P w K mg base N qual scope f cdv A outer s H E) body t/\t { nx:=fun _ H'=>Q .bx H',rt:=Q } (start N vs) H) :
  br P w K mg base CX (k+1) f (PySem.W.fnOf name qual params body scope dV kV doc pm an cdv ct) ps sp:=by
 refine⟨len,fun A outer s H args us vs Q E hr e0 hb r hsp=>?_⟩
 have hl:=len _ _ _ _ hsp
 have KX:K.In s.heap:=e0.mod.ig.keeps fun b o e=>(e0.bs b o e).1
 have lim:s.heap.NoLimit:=e0.mod.nolimit.keeps fun b o e=>(e0.bs b o e).1
 have hkind:∀ y ∈ ps.zip us,scope.names.lookup y.1=some .local\/(scope.names.lookup y.1=some .cell/\((cellsFrom (s.heap.objs.size+1) scope.names []).lookup y.1).isSome=true):=fun ⟨n,v⟩ hy=>by
  rcases S.par n (List.of_mem_zip hy).1 with q | q
  ·exact .inl q
  ·exact .inr ⟨q,PySem.W.cellsFrom_some _ _ _ (.inl q)⟩
 refine codeAny_call_function hr.depth (KX _ _ lk) rfl S.co S.gen rfl (PySem.W.codeRec_of KX hcd) (hb _ _ _ _ ?_)
 refine wpAny_newFunctionEnv_cells S.kind hkind fun env he s1 x=>?_
 subst he
 refine⟨lim.keeps x.toInCall.keep,codeAny_func ?_⟩
 obtain⟨t,ht,hq⟩:=hbody A outer s H vs Q E (hr.deeper _) hsp
 have I:Inv (kh CX P w K mg base N qual scope f cdv A outer s H E) [] (start N vs) H s1:=tG S hr.hd e0 hl r x
 refine wpAny_mono (ht [] s1 (start N vs) H _ I hq) (fun fl s' hs=>?_) fun e s' hs=>hs
 have fin:∀ {σ':St} {H':Hp} {v:V} {u:Value},Inv (kh CX P w K mg base N qual scope f cdv A outer s H E) [] σ' H' s'->RelV v u->Q v H'->CE outer P w H s Q u s' :=
  fun {σ' H' v u} J rv q=>⟨v,H',J.os,J.bare,J.base,J.aL,rv,q⟩
 cases fl with
 | ret u =>
  obtain⟨v,σ',H',J,rv,q⟩:=hs
  exact fin J rv q
 | next =>
  obtain⟨σ',H',J,q⟩:=hs
  exact fin (v:=V.bx) (u:=Value.none) J rfl q
 | brk =>
  obtain⟨_,_,_,q⟩:=hs
  exact False.elim q
 | cont =>
  obtain⟨_,_,_,q⟩:=hs
  exact False.elim q
section
variable {X:Cx} {x:Str} {p pos:Pos} {e:Expr} {es:List Expr} {t:TA} {id T:String} {r:List V->Hp->VK->Prop}
def yb (r:List V->Hp->VK->Prop) (t:TA):TE:=fun σ H Q=>t σ H fun vs H1=>r vs H1 Q
theorem aY (hc:dB X (.builtin id) r) (hg:Gl X x) (hm:X.mg x=none) (hv:bootBuiltins x=some (.builtin id)) (ha:PA X (e :: es) t) (hn:x ≠ "__name__" := by decide) (hdb:(x == ("__debug__" : Str))=false:=by decide)
  (he:starEach (e :: es) X.env=(false,eval e X.env) :: starEach es X.env:=by rfl) (hpl:(backTo pos (starEach es X.env)).any (·.1)=false:=by rfl):PE X (.Call (.Name x p) (e :: es) [] pos) (yb r t):=by
 intro pins s σ H Q I h
 refine wpAny_Call_Name_kw (fF I hg hm hv ?_ hn hdb)
 exact PyProof.Rows.callWith_builtin1 (aJ (ha pos pins s σ H _ I h) fun us s1 ⟨vs,H1,I1,r1,q1⟩=>hc pins s1 σ H1 vs us Q I1 r1 q1) he hpl
theorem bF (hc:dB X (.type T) r) (hg:Gl X x) (hm:X.mg x=none) (hv:bootBuiltins x=some (.type T)) (ha:PA X (e :: es) t) (hn:x ≠ "__name__" := by decide) (hdb:(x == ("__debug__" : Str))=false:=by decide)
  (he:starEach (e :: es) X.env=(false,eval e X.env) :: starEach es X.env:=by rfl) (hpl:(backTo pos (starEach es X.env)).any (·.1)=false:=by rfl):PE X (.Call (.Name x p) (e :: es) [] pos) (yb r t):=by
 intro pins s σ H Q I h
 refine wpAny_Call_Name_kw (fF I hg hm hv ?_ hn hdb)
 exact PyProof.Rows.callWith_type1 (aJ (ha pos pins s σ H _ I h) fun us s1 ⟨vs,H1,I1,r1,q1⟩=>hc pins s1 σ H1 vs us Q I1 r1 q1) he hpl
theorem rF (hc:dB X (.type T) r) (hg:Gl X x) (hm:X.mg x=none) (hv:bootBuiltins x=some (.type T)) (hn:x ≠ "__name__" := by decide) (hdb:(x == ("__debug__" : Str))=false:=by decide) :
  PE X (.Call (.Name x p) [] [] pos) (yb r x8):=by
 intro pins s σ H Q I h
 refine wpAny_Call_Name_kw (fF I hg hm hv ?_ hn hdb)
 exact PyProof.Rows.callWith_type0 (hc pins s σ H [] [] Q I .nil h)
end
end L2
namespace HT
open PySem PyProof.Rows
section
open PySem.SeqAt
open PySem.AutoSeq1 (wpAny_loadPart')
open PySem.MeetsSeq PySem.MeetsSeq2 PySem.MeetsSeq3
end
section
variable {prog:Program} {w:World} {A:Around} {E:Value->Shared->Prop} {s:Shared}
theorem w4 {t b:Addr} {vs ws:List Value} {Q:Value->Shared->Prop} (ht:IsTup s.heap t vs.toArray) (hb:IsTup s.heap b ws.toArray) (hv:vs ≠ [])
  (h1:ws = []->Q (.ref t) s) (h2:ws ≠ []->Q (.ref s.heap.objs.size) { s with heap:=s.heap.push { cls:=.type "tuple",data:=.seq (vs++ws).toArray } })
  (hsz:vs.length+ws.length<=sizeLine):wpAny (model prog w) A (binaryOp .Add (.ref t) (.ref b)) Q E s:=by
 obtain⟨⟨cls,dd,data,sl⟩,ho,hc,n,hd⟩:=id ht
 obtain⟨⟨cls2,dd2,data2,sl2⟩,ho2,hc2,n2,hd2⟩:=id hb
 simp only at hc hd hc2 hd2
 subst hc hd hc2 hd2
 have e:vs.toArray++ws.toArray=(vs++ws).toArray:=by simp
 by_cases hw:ws = []
 ·exact concat_meets ⟨_,ho,rfl⟩ ⟨_,ho2,rfl⟩ noFill_tuple_add seq_tuple_add PySem.F.slot_tuple_add PySem.F.entry_tuple_add (PySem.F.args_tuple_add_2 _ _)
   (tuple_addW1 t b vs.toArray ws.toArray n n2 dd dd2 sl sl2 (by simpa using hv) (by simp [hw])) ⟨ho,ho2,h1 hw⟩
 ·refine concat_meets ⟨_,ho,rfl⟩ ⟨_,ho2,rfl⟩ noFill_tuple_add seq_tuple_add PySem.F.slot_tuple_add PySem.F.entry_tuple_add (PySem.F.args_tuple_add_2 _ _)
   (tuple_addW2 t b vs.toArray ws.toArray n n2 dd dd2 sl sl2 (by simpa using hv) (by simpa using hw) (by rw [List.size_toArray,List.size_toArray];exact hsz)) ⟨ho,ho2,?_⟩
  rw [e]
  exact h2 hw
def bC (n d:Nat):Option Int->Nat
 | none=>d
 | some v=>if v < 0 then (v+(n:Int)).toNat else min v.toNat n
theorem oS (n d:Nat):bC n d none=d:=rfl
theorem qw (n d k:Nat):bC n d (some (k:Int))=min k n:=by
 show (if (k:Int) < 0 then ((k:Int)+(n:Int)).toNat else min (k:Int).toNat n)=min k n
 rw [if_neg (by omega),Int.toNat_natCast]
theorem yc (n d:Nat) (hd:d<=n) (o:Option Int):bC n d o<=n:=by
 cases o with
 | none=>exact hd
 | some v =>
  show (if v < 0 then (v+(n:Int)).toNat else min v.toNat n)<=n
  by_cases hv:v < 0
  ·rw [if_pos hv];omega
  ·rw [if_neg hv];exact Nat.min_le_right _ _
theorem qx (v:Int) (n d:Nat):(if v < 0 then max (v+(n:Int)) 0 else min v (n:Int))=((bC n d (some v):Nat):Int):=by
 show (if v < 0 then max (v+(n:Int)) 0 else min v (n:Int))=(((if v < 0 then (v+(n:Int)).toNat else min v.toNat n):Nat):Int)
 by_cases hv:v < 0
 ·simp only [if_pos hv];omega
 ·simp only [if_neg hv];omega
theorem rG (lo hi:Option Int) (n:Nat):Builtin.Slice.sliceAdjust lo hi 1 (n:Int)=(((bC n 0 lo:Nat):Int),((bC n n hi:Nat):Int)):=by
 have h1:¬ ((1:Int) < 0):=by omega
 unfold Builtin.Slice.sliceAdjust
 simp only [h1,if_false]
 refine Prod.ext ?_ ?_
 ·cases lo with
  | none=>rfl
  | some v=>exact qx v n 0
 ·cases hi with
  | none=>rfl
  | some v=>exact qx v n n
theorem rH (i j:Nat):Builtin.Slice.slicePlaces (i:Int) (j:Int) 1=j - i:=by
 unfold Builtin.Slice.slicePlaces
 have h1:(1:Int) > 0:=by omega
 simp only [h1,if_true,Int.ediv_one]
 split <;> omega
theorem kS {v:Value} {o:Option Int} {Q:Option Int->Shared->Prop} (p:IsPart v o) (h:Q o s):wpAny (model prog w) A (Builtin.Slice.slicePartIndex v) Q E s:=by
 cases p with
 | none=>exact slicePart_none h
 | int i t=>exact slicePart_int h
theorem gF {sl:Addr} {vl vu:Value} {lo hi:Option Int} {n:Nat} {Q:Int × Int × Nat->Shared->Prop} (hs:s.heap.IsSliceOf sl vl vu .none) (pl:IsPart vl lo) (pu:IsPart vu hi)
  (h:Q (((bC n 0 lo:Nat):Int),1,bC n n hi - bC n 0 lo) s):wpAny (model prog w) A (Builtin.Slice.sliceApplied (.ref sl) (pure (n:Int))) Q E s:=by
 obtain⟨os,hos,hcs,hds⟩:=id hs
 unfold Builtin.Slice.sliceApplied Builtin.Slice.sliceFields
 refine wpAny_bind (wpAny_bind (wpAny_field hos hds (x:=vl) rfl (wpAny_bind (wpAny_field hos hds (x:=vu) rfl (wpAny_bind (wpAny_field hos hds (x:=.none) rfl (wpAny_pure ?_)))))))
 refine wpAny_bind (slicePart_none ?_)
 show wpAny _ _ (if ((1:Int) == 0)=true then _ else _) _ _ s
 rw [if_neg (by decide)]
 refine wpAny_bind (kS pl (wpAny_bind (kS pu (wpAny_bind (wpAny_pure ?_)))))
 show wpAny _ _ (match Builtin.Slice.sliceAdjust lo hi 1 (n:Int) with | (lo,hi)=>pure (lo,(1:Int),Builtin.Slice.slicePlaces lo hi 1)) _ _ s
 rw [rG lo hi n]
 show wpAny _ _ (pure (((bC n 0 lo:Nat):Int),(1:Int),Builtin.Slice.slicePlaces ((bC n 0 lo:Nat):Int) ((bC n n hi:Nat):Int) 1)) _ _ s
 rw [rH]
 exact wpAny_pure h
theorem uW (xs:Array Value) (i k:Nat):((List.range k).filterMap fun (m:Nat)=>xs[((i:Int)+(m:Int) * 1).toNat]?).toArray=((xs.toList.drop i).take k).toArray:=by
 have e:(fun (m:Nat)=>xs[((i:Int)+(m:Int) * 1).toNat]?)=fun m=>xs[i+m]?:=by
  funext m
  have:((i:Int)+(m:Int) * 1).toNat=i+m:=by omega
  rw [this]
 rw [e]
 have:=pick_run xs i k
 rw [List.filterMap_map] at this
 have e2:((fun x=>xs[x]?) ∘ fun x=>i+x)=fun m=>xs[i+m]?:=rfl
 rw [e2] at this
 rw [this]
theorem jM {t sl:Addr} {items:Array Value} {vl vu:Value} {lo hi:Option Int} {Q:Value->Shared->Prop} (ht:IsTup s.heap t items) (hs:s.heap.IsSliceOf sl vl vu .none) (pl:IsPart vl lo) (pu:IsPart vu hi)
  (hw:¬ (bC items.size 0 lo=0/\bC items.size items.size hi=items.size))
  (h:Q (.ref s.heap.objs.size) { s with heap:=s.heap.push { cls:=.type "tuple",data:=.seq ((items.toList.drop (bC items.size 0 lo)).take (bC items.size items.size hi - bC items.size 0 lo)).toArray } })
  (hsz:items.size<=sizeLine):wpAny (model prog w) A (getItem (.ref t) (.ref sl)) Q E s:=by
 have htake:sizeOk (.seq ((items.toList.drop (bC items.size 0 lo)).take (bC items.size items.size hi - bC items.size 0 lo)).toArray):=by
  show ((items.toList.drop (bC items.size 0 lo)).take (bC items.size items.size hi - bC items.size 0 lo)).toArray.size<=sizeLine
  rw [List.size_toArray,List.length_take,List.length_drop,Array.length_toList]
  omega
 have hj:bC items.size items.size hi<=items.size:=yc _ _ (Nat.le_refl _) hi
 obtain⟨os,hos,hcs,hds⟩:=id hs
 have hTs:s.TypeIs (.ref sl) "slice" := ⟨os,hos,hcs⟩
 unfold getItem
 try with_reducible refine wpAny_holding ?_
 first | refine wpAny_bind (wpAny_pure ?_) | skip
 refine wpAny_bind (wpAny_sequenceKey ht.typeIs (by decide) ?_)
 refine wpAny_bind (wpAny_callSpecial?_slot (name:=Str.ofString "__getitem__") ht.typeIs PyProof.Rows.slot_tuple_getitem
  (wpAny_call_entry PyProof.Rows.slot_tuple_getitem ht.typeIs entry_tuple_getitem ?_ (args_tuple_getitem _ _)))
 show wpAny _ _ (Builtin.Tuple.tupleItemsOf (.ref t) >>= _) _ _ s
 refine wpAny_bind (tupleItemsOf_ ht ?_)
 refine wpAny_bind (wpAny_typeOf hTs ?_)
 rw [if_pos (by decide)]
 refine wpAny_bind (gF hs pl pu ?_)
 have hno:¬ ((((bC items.size 0 lo:Nat):Int) == 0 && (1:Int) == 1 && (bC items.size items.size hi - bC items.size 0 lo) == items.size)=true):=by
  intro q
  rw [Bool.and_eq_true,Bool.and_eq_true] at q
  have q1:((bC items.size 0 lo:Nat):Int)=0:=eq_of_beq q.1.1
  have q2:bC items.size items.size hi - bC items.size 0 lo=items.size:=eq_of_beq q.2
  exact hw ⟨by omega,by omega⟩
 show wpAny _ _ (if (((bC items.size 0 lo:Nat):Int) == 0 && (1:Int) == 1 && (bC items.size items.size hi - bC items.size 0 lo) == items.size)=true then _ else _) _ _ s
 rw [if_neg hno,uW]
 first
  | exact wpAny_bind (m:=Builtin.Tuple.tupleExact _) (wpAny_newObj_type (wpAny_pure ⟨_,rfl,wpAny_pure h⟩) htake)
  | exact wpAny_bind (m:=Builtin.Tuple.tupleExact _) (wpAny_newObj_type (wpAny_bind (wpAny_pure (wpAny_pure ⟨_,rfl,wpAny_pure h⟩))) htake)
  | exact wpAny_bind (wpAny_bind (m:=Builtin.Tuple.tupleExact _) (wpAny_newObj_type (wpAny_pure (wpAny_pure ⟨_,rfl,wpAny_pure h⟩)) htake))
  | exact wpAny_bind (wpAny_bind (m:=Builtin.Tuple.tupleExact _) (wpAny_newObj_type (wpAny_pure ⟨_,rfl,wpAny_pure h⟩) htake))
end
end HT
namespace L2
open PySem PySem.Spec PyProof.Rows
abbrev TO:=St->Hp->(Option Int->Hp->Prop)->Prop
def PO (X:Cx) (e:Option Expr) (t:TO):Prop :=
 ∀ (pins:List (Addr × Obj)) (s:Shared) (σ : St) (H:Hp) (Q:Option Int->Hp->Prop),Inv X pins σ H s->t σ H Q ->
  wpAny (model X.prog X.w) X.A (evalPart e X.env) (fun u s'=>∃ o H',Inv X pins σ H' s'/\IsPart u o/\Q o H') X.xe s
def w5:TO:=fun _ H Q=>Q none H
def za (t:TE):TO:=fun σ H Q=>t σ H fun x H1=>∃ i,x=.int i/\Q (some i) H1
section
variable {X:Cx} {e:Expr} {te:TE} {lo hi:Option Expr} {tl th:TO} {pos p2:Pos}
theorem mr:PO X none w5:=by
 intro pins s σ H Q I h
 rw [evalPart_none]
 exact wpAny_pure ⟨none,H,I,.none,h⟩
theorem mw (h:PE X e te):PO X (some e) (za te):=by
 intro pins s σ H Q I hw
 rw [evalPart_some]
 refine aJ (h pins s σ H _ I hw) fun u s1 ⟨x,H1,I1,r1,q1⟩=>?_
 obtain⟨i,rfl,q⟩:=q1
 obtain⟨t,rfl⟩:=r1
 exact⟨some i,H1,I1,.int i t,q⟩
def yd (X:Cx) (r:V->Option Int->Option Int->Hp->VK->Prop):Prop :=
 ∀ (pins:List (Addr × Obj)) (s:Shared) (σ : St) (H:Hp) (x:V) (v vl vu:Value) (lo hi:Option Int) (sl:Addr) (Q:VK),Inv X pins σ H s->RelV x v->s.heap.IsSliceOf sl vl vu .none->IsPart vl lo->IsPart vu hi->r x lo hi H Q ->
  ∃ T id,typeLookup (.type T) "__getitem__" = pure (some (.builtin id))/\s.TypeIs v T/\wpAny (model X.prog X.w) X.A (getItem v (.ref sl)) (EP X pins σ Q) X.xe s
def Ah (r:V->Option Int->Option Int->Hp->VK->Prop) (te:TE) (tl th:TO):TE:=fun σ H Q=>te σ H fun x H1=>tl σ H1 fun l H2=>th σ H2 fun u H3=>r x l u H3 Q
theorem ki {r:V->Option Int->Option Int->Hp->VK->Prop} (hr:yd X r) (he:PE X e te) (hl:PO X lo tl) (hu:PO X hi th):PE X (.Subscript e (.Slice lo hi none p2) pos) (Ah r te tl th):=by
 intro pins s σ H Q I h
 refine Subscript_ (aJ (he pins s σ H _ I h) fun v s1 ⟨x,H1,I1,r1,q1⟩=>?_)
 refine wpAny_Slice (aJ (hl pins s1 σ H1 _ I1 q1) fun vl s2 ⟨l,H2,I2,pl,q2⟩=>aJ (hu pins s2 σ H2 _ I2 q2) fun vu s3 ⟨u,H3,I3,pu,q3⟩=>?_)
 rw [evalPart_none]
 refine wpAny_pure ?_
 have I4:Inv X pins σ H3 { s3 with heap:=s3.heap.push { cls:=.type "slice",data:=.fields #[vl,vu,.none] } }:=I3.kept (t':=s3.toks) fun b ob q=>Heap.get?_push_of_some _ q
 obtain⟨T,id,hT,ht,hg⟩:=hr pins { s3 with heap:=s3.heap.push { cls:=.type "slice",data:=.fields #[vl,vu,.none] } } σ H3 x v vl vu l u s3.heap.objs.size Q I4 r1 (Heap.IsSliceOf.new ..) pl pu q3
 show wpAny (model X.prog X.w) X.A (subscriptTail e (.Slice lo hi none p2) v (.ref s3.heap.objs.size)) (EP X pins σ Q) X.xe { s3 with heap:=s3.heap.push { cls:=.type "slice",data:=.fields #[vl,vu,.none] } }
 exact tail_any (ops:=[.ref s3.heap.objs.size,v]) ht hT hg (by with_unfolding_all rfl)
def ft (xs:List V) (lo hi:Option Int):List V:=(xs.drop (HT.bC xs.length 0 lo)).take (HT.bC xs.length xs.length hi - HT.bC xs.length 0 lo)
theorem pX (xs:List V) (lo hi:Option Int):(ft xs lo hi).length<=xs.length:=by
 unfold ft
 rw [List.length_take,List.length_drop]
 omega
def zW (K:PySem.W.Frag):V->Option Int->Option Int->Hp->VK->Prop:=fun x lo hi H Q=>∃ a xs,x=.ref a/\ay K H a xs /\
 ¬ (HT.bC xs.length 0 lo=0/\HT.bC xs.length xs.length hi=xs.length)/\∀ p,H p=none->Q (.ref p) (upd H p (.tup (ft xs lo hi)))
theorem ye:yd X (zW X.K):=by
 intro pins s σ H x v vl vu lo hi sl Q I rx hs pl pu h
 obtain⟨a,xs,rfl,hx,hw,q⟩:=h
 cases rx
 obtain⟨its,r,ht,hz⟩:=I.tuple hx
 have hlen:its.toArray.size=xs.length:=by rw [List.size_toArray];exact r.length.symm
 refine⟨"tuple",_,PyProof.Rows.slot_tuple_getitem.lookup,ht.typeIs,?_⟩
 refine HT.jM ht hs pl pu (by rw [hlen];exact hw) ?_ (by rw [hlen];exact hz)
 rw [hlen]
 refine⟨.ref s.heap.objs.size,_,I.laid (t':=s.toks) (o:=.tup (ft xs lo hi)) (fun b ob q=>Heap.get?_push_of_some _ q) (Nat.le_refl _) ?_,rfl,q _ (I.aL.fresh (Nat.le_refl _))⟩
 exact⟨Nat.le_trans (pX xs lo hi) hz,_,(r.drop (HT.bC xs.length 0 lo)).take (HT.bC xs.length xs.length hi - HT.bC xs.length 0 lo),⟨_,Heap.get?_push_size _ rfl,rfl,_,rfl,rfl⟩⟩
theorem Vals.mx {xs:List V} {us:List Value} (r:Vals xs us):us = [] ↔ xs = []:=by
 cases r with
 | nil=>simp
 | cons _ _=>simp
end
def oU (n:Nat) (i:Int):Option Nat:=if 0<=i then (if i < n then some i.toNat else none) else if -(n:Int)<=i then some (i+n).toNat else none
def gG {α : Type} (xs:List α) (i:Int):Option α:=(oU xs.length i).bind fun j=>xs[j]?
theorem qy {n:Nat} {i:Int} {j:Nat} (h:oU n i=some j):seqIndex? i n=some j/\j < n/\-(n:Int)<=i/\i < n:=by
 unfold oU at h
 by_cases h0:0<=i
 ·rw [if_pos h0] at h
  by_cases h1:i < n
  ·rw [if_pos h1] at h
   have e:i.toNat=j:=Option.some.inj h
   exact⟨by rw [seqIndex_of h0 h1,e],by omega,by omega,h1⟩
  ·rw [if_neg h1] at h;cases h
 ·rw [if_neg h0] at h
  by_cases h1:-(n:Int)<=i
  ·rw [if_pos h1] at h
   have e:(i+n).toNat=j:=Option.some.inj h
   exact⟨by rw [seqIndex_neg (by omega) h1,e],by omega,h1,by omega⟩
  ·rw [if_neg h1] at h;cases h
theorem qA {α : Type} {xs:List α} {i:Int} {v:α} (h:gG xs i=some v):∃ j,seqIndex? i xs.length=some j/\xs[j]? = some v/\j < xs.length/\-(xs.length:Int)<=i/\i < xs.length:=by
 unfold gG at h
 cases e:oU xs.length i with
 | none=>rw [e] at h;cases h
 | some j =>
  rw [e] at h
  obtain⟨h1,h2,h3,h4⟩:=qy e
  exact⟨j,h1,h,h2,h3,h4⟩
theorem dt {α : Type} {xs:List α} {j:Nat} {v:α} (h:xs[j]? = some v):gG xs (j:Int)=some v:=by
 have hj:j < xs.length:=(List.getElem?_eq_some_iff.mp h).1
 have e:oU xs.length (j:Int)=some j:=by
  unfold oU
  rw [if_pos (by omega),if_pos (by omega)];simp
 unfold gG;rw [e];exact h
def w6 (b:Expr):Prop:=∀ o i,subscripted b false o i=operate [o,i] (getItem o i)
def yf (X:Cx) (r:R2):Prop :=
 ∀ (value slice:Expr) (pins:List (Addr × Obj)) (s:Shared) (σ : St) (H:Hp) (x y:V) (v u:Value) (Q:VK),Inv X pins σ H s->RelV x v->RelV y u->r x y H Q ->
  subscripted slice false v u=operate [v,u] (getItem v u)->wpAny (model X.prog X.w) X.A (subscriptTail value slice v u) (EP X pins σ Q) X.xe s
def zr (X:Cx) (id:String) (r:V->List V->Hp->VK->Prop):Prop :=
 ∀ (pins:List (Addr × Obj)) (s:Shared) (σ : St) (H:Hp) (x:V) (xs:List V) (v:Value) (us:List Value) (Q:VK),Inv X pins σ H s->RelV x v->Vals xs us->r x xs H Q ->
  wpAny (model X.prog X.w) X.A (call (.builtin id) (v :: us)) (EP X pins σ Q) X.xe s
section
variable {X:Cx} {a b:Expr} {ta tb:TE} {pos:Pos}
theorem bf {r:R2} (hr:yf X r) (ha:PE X a ta) (hb:PE X b tb) (hs:w6 b):PE X (.Subscript a b pos) (wb r ta tb):=by
 intro pins s σ H Q I h
 exact Subscript_ (uP ha hb I h fun v u s2 x y H2 I2 rx ry q=>hr a b pins s2 σ H2 x y v u Q I2 rx ry q (hs _ _))
def zX (K:PySem.W.Frag):R2:=fun x y H Q=>∃ p xs i v,x=.ref p/\y=.int i/\aW K H p xs/\gG xs i=some v/\Q v H
def zY (K:PySem.W.Frag):R2:=fun x y H Q=>∃ p xs i v,x=.ref p/\y=.int i/\ay K H p xs/\gG xs i=some v/\Q v H
theorem d6:yf X (zX X.K):=by
 intro value slice pins s σ H x y v u Q I rx ry h hs
 obtain⟨p,xs,i,z,rfl,rfl,hq,he,q⟩:=h
 cases rx
 obtain⟨t,rfl⟩:=ry
 obtain⟨its,r,pl,hz⟩:=I.list hq
 obtain⟨j,h1,h2,h3,h4,h5⟩:=qA he
 obtain⟨w,ew,rw'⟩:=r.get h2
 have hl:=r.length
 have hn:=ik
 have fin:EP X pins σ Q w s:=⟨z,H,I,rw',q⟩
 by_cases h0:0<=i
 ·have hj:i.toNat=j:=by
   rw [seqIndex_of h0 h5] at h1
   exact Option.some.inj h1
  exact item_listR pl.isList h0 (by omega) (by rw [hj];simpa using ew) fin hs
 ·have hj:(i+(its.toArray.size:Int)).toNat=j:=by
   rw [seqIndex_neg (by omega) h4] at h1
   rw [List.size_toArray,<-hl]
   exact Option.some.inj h1
  exact subscriptTail_builtinR (x:=w) pl.isList.typeIs slot_list_getitem.lookup
   (wpAny_getItem_list_neg (Q:=fun r s'=>r=w/\EP X pins σ Q r s') pl.isList (by omega) (by rw [List.size_toArray] <;> omega) (by omega) (by rw [hj];simpa using ew) ⟨rfl,fin⟩) hs
theorem bA:yf X (zY X.K):=by
 intro value slice pins s σ H x y v u Q I rx ry h hs
 obtain⟨p,xs,i,z,rfl,rfl,hq,he,q⟩:=h
 cases rx
 obtain⟨t,rfl⟩:=ry
 obtain⟨its,r,pl,hz⟩:=I.tuple hq
 obtain⟨j,h1,h2,h3,h4,h5⟩:=qA he
 obtain⟨w,ew,rw'⟩:=r.get h2
 have hl:=r.length
 have hn:=ik
 have fin:EP X pins σ Q w s:=⟨z,H,I,rw',q⟩
 exact subscriptTail_builtinR (x:=w) pl.typeIs slot_tuple_getitem.lookup
  (getItem_tuple (j:=j) (Q:=fun r s'=>r=w/\EP X pins σ Q r s') pl (by omega) (by omega) (by rw [List.size_toArray,<-hl];exact h1) (by simpa using ew) ⟨rfl,fin⟩) hs
theorem rJ (its:List Value) (n j:Nat) (u:Value):Obj.mapSeq (·.setIfInBounds j u) { cls:=.type "list",data:=.seq its.toArray n } = { cls:=.type "list",data:=.seq (its.set j u).toArray n }:=by
 simp [Obj.mapSeq]
theorem Inv.lst {pins:List (Addr × Obj)} {σ : St} {H:Hp} {s:Shared} {p:Addr} {xs:List V} (I:Inv X pins σ H s) (h:H p=some (.lst xs)) :
  ∃ (its:List Value) (n:Nat),Vals xs its/\s.heap.get? p=some { cls:=.type "list",data:=.seq its.toArray n }/\xs.length<=sizeLine:=by
 obtain⟨z,its,n,r,e⟩:=I.aL p _ h
 exact⟨its,n,r,e,z⟩
theorem Inv.yg {pins:List (Addr × Obj)} {σ : St} {H:Hp} {s:Shared} {p:Addr} {xs ys:List V} {its its':List Value} {n n':Nat} {f:Obj->Obj} (I:Inv X pins σ H s) (h:H p=some (.lst xs))
  (ho:s.heap.get? p=some { cls:=.type "list",data:=.seq its.toArray n }) (hf:f { cls:=.type "list",data:=.seq its.toArray n } = { cls:=.type "list",data:=.seq its'.toArray n' }) (r:Vals ys its') (hz:ys.length<=sizeLine) (t:Nat) :
  Inv X pins σ (upd H p (.lst ys)) { s with heap:=s.heap.update p f,toks:=t }:=by
 have e:(s.heap.update p f).get? p=some { cls:=.type "list",data:=.seq its'.toArray n' }:=by
  rw [Heap.get?_update_self f ho (by rw [hf] <;> rfl),hf]
 refine I.write (x:=p) (e:=p) (by rw [h];trivial) (.inl rfl) (fun b u hb q=>(Heap.get?_update_other _ _ (Ne.symm hb)).trans q) ⟨_,e⟩ ?_
 exact⟨hz,its',n',r,e⟩
def zc:V->V->V->Hp->(Hp->Prop)->Prop:=fun o i v H Q=>∃ p xs k j,o=.ref p/\i=.int k/\H p=some (.lst xs)/\oU xs.length k=some j/\Q (upd H p (.lst (xs.set j v)))
theorem set_list:uM X zc:=by
 intro pins s σ H o i v ov iv u Q I ro ri rv h
 obtain⟨p,xs,k,j,rfl,rfl,hp,hj,q⟩:=h
 cases ro
 obtain⟨t,rfl⟩:=ri
 obtain⟨its,n,r,ho,hz⟩:=I.lst hp
 obtain⟨h1,h2,h3,h4⟩:=qy hj
 have hl:=r.length
 have hn:=ik
 have I':Inv X pins σ (upd H p (.lst (xs.set j v))) { s with heap:=s.heap.update p (Obj.mapSeq (·.setIfInBounds j u)) } :=
  I.yg hp ho (rJ its n j u) (r.set rv j) (by rw [List.length_set];exact hz) s.toks
 by_cases h0:0<=k
 ·have hk:k.toNat=j:=by
   rw [seqIndex_of h0 h4] at h1
   exact Option.some.inj h1
  exact PySem.W.ki_setAt ho h0 (by omega) (by rw [List.size_toArray,<-hl];exact h4) (by rw [hk];exact⟨_,I',q⟩)
 ·have hk:(k+(its.toArray.size:Int)).toNat=j:=by
   rw [seqIndex_neg (by omega) h3] at h1
   rw [List.size_toArray,<-hl]
   exact Option.some.inj h1
  exact PySem.W.ki_setBack ho (by omega) (by rw [List.size_toArray,<-hl];exact h3) (by omega) (by rw [hk];exact⟨_,I',q⟩)
def fU:V->Bool
 | .bx=>true
 | .bl _=>true
 | .int _=>true
 | .str _=>true
 | _=>false
def nq:V->V->Bool
 | .bx,.bx=>true
 | .bl a,.bl b=>a == b
 | .bl a,.int b=>(if a then 1 else 0) == b
 | .int a,.bl b=>a == (if b then 1 else 0)
 | .int a,.int b=>a == b
 | .str a,.str b=>a == b
 | _,_=>false
theorem yh {A:Around} {s:Shared} {y x:V} {u v:Value} (ry:RelV y u) (rx:RelV x v) (fy:fU y=true) (fx:fU x=true):SeqAt.EqAt A s u v (nq y x):=by
 cases y with
 | bx =>
  cases ry
  cases x with
  | bx=>cases rx;exact SeqAt.EqAt.same _
  | bl b=>cases rx;exact SeqAt.EqAt.none_bool b
  | int b=>obtain⟨t,rfl⟩:=rx;exact SeqAt.EqAt.none_int b t
  | str b=>obtain⟨t,rfl⟩:=rx;exact SeqAt.EqAt.none_str b t
  | _=>exact absurd (show false=true from fx) Bool.false_ne_true
 | bl a =>
  cases ry
  cases x with
  | bx=>cases rx;exact SeqAt.EqAt.bool_none a
  | bl b=>cases rx;exact SeqAt.EqAt.bool_bool a b
  | int b=>obtain⟨t,rfl⟩:=rx;exact SeqAt.EqAt.bool_int a b t
  | str b=>obtain⟨t,rfl⟩:=rx;exact SeqAt.EqAt.bool_str a b t
  | _=>exact absurd (show false=true from fx) Bool.false_ne_true
 | int a =>
  obtain⟨t',rfl⟩:=ry
  cases x with
  | bx=>cases rx;exact SeqAt.EqAt.int_none a t'
  | bl b=>cases rx;exact SeqAt.EqAt.int_bool a t' b
  | int b=>obtain⟨t,rfl⟩:=rx;exact SeqAt.EqAt.int_int a t' b t
  | str b=>obtain⟨t,rfl⟩:=rx;exact SeqAt.EqAt.int_str a t' b t
  | _=>exact absurd (show false=true from fx) Bool.false_ne_true
 | str a =>
  obtain⟨t',rfl⟩:=ry
  cases x with
  | bx=>cases rx;exact SeqAt.EqAt.str_none a t'
  | bl b=>cases rx;exact SeqAt.EqAt.str_bool a t' b
  | int b=>obtain⟨t,rfl⟩:=rx;exact SeqAt.EqAt.str_int a t' b t
  | str b=>obtain⟨t,rfl⟩:=rx;exact SeqAt.EqAt.str_str a t' b t
  | _=>exact absurd (show false=true from fx) Bool.false_ne_true
 | _=>exact absurd (show false=true from fy) Bool.false_ne_true
def kT (x:V) (u:Value):Bool:=match u with
 | .none=>nq .bx x
 | .bool b=>nq (.bl b) x
 | .int i _=>nq (.int i) x
 | .str z _=>nq (.str z) x
 | _=>false
theorem tH {x y:V} {u:Value} (r:RelV y u) (f:fU y=true):kT x u=nq y x:=by
 cases y with
 | bx=>cases r;rfl
 | bl b=>cases r;rfl
 | int i=>obtain⟨t,rfl⟩:=r;rfl
 | str z=>obtain⟨t,rfl⟩:=r;rfl
 | _=>exact absurd (show false=true from f) Bool.false_ne_true
theorem my {x:V}:∀ {xs:List V} {us:List Value},Vals xs us->xs.all fU=true->us.any (kT x)=xs.any fun y=>nq y x
 | _,_,.nil,_=>rfl
 | y :: xs,u :: us,.cons r t,f=>by
  rw [List.all_cons,Bool.and_eq_true] at f
  rw [List.any_cons,List.any_cons,tH r f.1,my t f.2]
theorem kj {A:Around} {s:Shared} {x:V} {v:Value} (rx:RelV x v) (fx:fU x=true):∀ {xs:List V} {us:List Value},Vals xs us->xs.all fU=true->∀ u ∈ us,SeqAt.EqAt A s u v (kT x u)
 | _,_,.nil,_=>fun u hu=>by cases hu
 | y :: xs,u :: us,.cons r t,f=>fun u' hu=>by
  rw [List.all_cons,Bool.and_eq_true] at f
  rcases List.mem_cons.mp hu with rfl | hu
  ·rw [tH r f.1];exact yh r rx f.1 fx
  ·exact kj rx fx t f.2 u' hu
def nu (x:V) (xs:List V):Bool:=xs.any fun y=>nq y x
def Ai (K:PySem.W.Frag) (neg:Bool):R2:=fun x y H Q=>∃ p xs,y=.ref p/\(aW K H p xs\/ay K H p xs)/\fU x=true/\xs.all fU=true/\Q (.bl (if neg then !nu x xs else nu x xs)) H
theorem nv:dU X (compareOp .In) (Ai X.K false):=by
 intro pins s σ H x y v u Q I rx ry h
 obtain⟨p,xs,rfl,hq,fx,fs,q⟩:=h
 cases ry
 rcases hq with hq | hq
 ·obtain⟨its,r,pl,hz⟩:=I.list hq
  refine SeqAt.in_listAt (kT x) pl.isList (fun w hw=>kj rx fx r fs w (by simpa using hw)) ⟨.bl _,H,I,rfl,?_⟩
  rw [show its.toArray.any (kT x)=its.any (kT x) by simp,my r fs]
  exact q
 ·obtain⟨its,r,pl,hz⟩:=I.tuple hq
  refine SeqAt.in_tupleAt (kT x) pl (fun w hw=>kj rx fx r fs w (by simpa using hw)) ⟨.bl _,H,I,rfl,?_⟩
  rw [show its.toArray.any (kT x)=its.any (kT x) by simp,my r fs]
  exact q
theorem bb:dB X (.builtin "len") (fun xs H Q=>∃ p ys,xs = [.ref p]/\(aW X.K H p ys\/ay X.K H p ys)/\Q (.int ys.length) H):=by
 intro pins s σ H xs us Q I r h
 obtain⟨p,ys,rfl,hq,q⟩:=h
 obtain⟨u,rfl,rx⟩:=vals1 r
 cases rx
 have hn:=ik
 rcases hq with hq | hq
 ·obtain⟨its,r',pl,hz⟩:=I.list hq
  have hlen:=r'.length
  exact Calls.call_len_list pl.isList (by simp only [List.size_toArray] <;> omega) ⟨.int ys.length,H,I.tok _,⟨s.toks+1,by rw [List.size_toArray,hlen]⟩,q⟩
 ·obtain⟨its,r',pl,hz⟩:=I.tuple hq
  have hlen:=r'.length
  exact len_tuple pl (by simp only [List.size_toArray] <;> omega) ⟨.int ys.length,H,I.tok _,⟨s.toks+1,by rw [List.size_toArray,hlen]⟩,q⟩
theorem bB:dB X (.type "tuple") (fun xs H Q=>∃ p ys,xs = [.ref p]/\((aW X.K H p ys/\∀ l,H l=none->Q (.ref l) (upd H l (.tup ys)))\/(ay X.K H p ys/\Q (.ref p) H))):=by
 intro pins s σ H xs us Q I r h
 obtain⟨p,ys,rfl,h⟩:=h
 obtain⟨u,rfl,rx⟩:=vals1 r
 cases rx
 rcases h with ⟨hq,q⟩ | ⟨hq,q⟩
 ·obtain⟨its,r',pl,hz⟩:=I.list hq
  have hlen:=r'.length
  refine call_tuple_list pl.isList (fun h' kp=>?_) (by simp only [List.size_toArray] <;> omega)
  have I1:Inv X pins σ H { s with heap:=h' }:=I.kept (t':=s.toks) kp
  have I2:Inv X pins σ (upd H h'.objs.size (.tup ys)) { s with heap:=h'.push { cls:=.type "tuple",data:=.seq its.toArray } } :=
   I1.laid (t':=s.toks) (fun b o e=>Heap.get?_push_of_some _ e) (Nat.le_refl _) (show bI X.prog X.w _ _ _ (.tup ys) from ⟨hz,its,r',⟨_,Heap.get?_push_size _ rfl,rfl,_,rfl,rfl⟩⟩)
  exact⟨.ref h'.objs.size,_,I2,rfl,q _ (I1.aL.fresh (Nat.le_refl _))⟩
 ·obtain⟨its,r',pl,hz⟩:=I.tuple hq
  exact call_tuple_same pl ⟨.ref p,H,I,rfl,q⟩
def yi (K:PySem.W.Frag) (T:String) (x:V) (H:Hp):Prop:=match x with
 | .str _=>T = "str"
 | .int _=>T = "int"
 | .ref p=>(T = "list" /\ ∃ xs,aW K H p xs)\/(T = "tuple" /\ ∃ o,K.lookup p=some o/\o.cls=.type "tuple" /\ o.dict=none) \/
   (T = "dict" /\ ((∃ kvs,H p=some (.dK kvs))\/∃ kvs,H p=some (.dT kvs)))\/(T = "set" /\ ∃ S n,H p=some (.set S n))
 | _=>False
theorem tI {pins:List (Addr × Obj)} {σ : St} {H:Hp} {s:Shared} {T:String} {x:V} {v:Value} (I:Inv X pins σ H s) (r:RelV x v) (ty:yi X.K T x H) :
  s.TypeIs v T/\∀ a,v=.ref a->∃ ob,s.heap.get? a=some ob/\ob.dict=none:=by
 cases x with
 | str z =>
  obtain⟨t,rfl⟩:=r
  cases (show T = "str" from ty)
  exact⟨typeIs_str s z t,fun _ e=>nomatch e⟩
 | int i =>
  obtain⟨t,rfl⟩:=r
  cases (show T = "int" from ty)
  exact⟨typeIs_int s i t,fun _ e=>nomatch e⟩
 | ref p =>
  cases r
  rcases ty with ⟨rfl,xs,hq⟩ | ⟨rfl,o,hk,hc,hd⟩ | ⟨rfl,hk⟩ | ⟨rfl,S,n,hk⟩
  ·obtain⟨its,_,pl,_⟩:=I.list hq
   refine⟨pl.isList.typeIs,fun a e=>?_⟩
   cases e
   obtain⟨o,n,e,c,hd,_⟩:=pl
   exact⟨o,e,hd⟩
  ·refine⟨⟨o,I.fR p o hk,hc⟩,fun a e=>?_⟩
   cases e
   exact⟨o,I.fR _ o hk,hd⟩
  ·have z:∃ o,s.heap.get? p=some o/\o.ExactDict:=by
    rcases hk with ⟨kvs,hk⟩ | ⟨kvs,hk⟩
    ·obtain⟨_,_,_,_,o,_,_,e,ex,_⟩:=I.aL p _ hk
     exact⟨o,e,ex⟩
    ·obtain⟨_,_,_,_,o,_,_,e,ex,_⟩:=I.aL p _ hk
     exact⟨o,e,ex⟩
   obtain⟨o,e,ex⟩:=z
   refine⟨⟨o,e,ex.1⟩,fun a e2=>?_⟩
   cases e2
   exact⟨o,e,ex.2.1⟩
  ·obtain⟨o,_,_,_,e,ex,_⟩:=I.aL p _ hk
   refine⟨⟨o,e,ex.1⟩,fun a e2=>?_⟩
   cases e2
   exact⟨o,e,ex.2.1⟩
 | _=>exact False.elim ty
def zZ (K:PySem.W.Frag) (T:String) (r:V->List V->Hp->VK->Prop) (to:TE):TE:=fun σ H Q=>to σ H fun x H1=>yi K T x H1/\r x [] H1 Q
def Aj (K:PySem.W.Frag) (T:String) (r:V->List V->Hp->VK->Prop) (to:TE) (t:TA):TE:=fun σ H Q=>to σ H fun x H1=>yi K T x H1/\t σ H1 fun xs H2=>r x xs H2 Q
variable {o e:Expr} {es:List Expr} {to:TE} {t:TA} {name:Str} {apos cpos:Pos} {T id:String} {r:V->List V->Hp->VK->Prop}
theorem yj (pa:PlainAttrs T) (slot:Slot T name id) (hty:typeOf (.builtin id)=pure (.type "method_descriptor")) (hm:zr X id r) (ho:PE X o to)
  (hbase:attributeBase o name X.env (eval o X.env)=eval o X.env:=by rfl) (hline:(apos.endLine == cpos.line)=true:=by rfl):PE X (.Call (.Attribute o name apos) [] [] cpos) (zZ X.K T r to):=by
 intro pins s σ H Q I h
 refine wpAny_Call_method0_late hbase hline (aJ (ho pins s σ H _ I h) fun v s1 ⟨x,H1,I1,r1,ty,q1⟩=>?_)
 obtain⟨h1,h2⟩:=tI I1 r1 ty
 exact⟨T,id,pa,slot,hty,h1,h2,Calls.callWith_builtin rfl (PySem.evalArgs_none (hm pins s1 σ H1 x [] v [] Q I1 r1 .nil q1))⟩
theorem gW (pa:PlainAttrs T) (slot:Slot T name id) (hty:typeOf (.builtin id)=pure (.type "method_descriptor")) (hm:zr X id r) (ho:PE X o to) (ha:PA X (e :: es) t)
  (hbase:attributeBase o name X.env (eval o X.env)=eval o X.env:=by rfl)
  (hfew:((backTo cpos (starEach (e :: es) X.env)).all (fun x=>!x.1) && (backToKw cpos (keywordEach [] X.env)).all (fun x=>x.1.isSome)
   && decide ((e :: es).length+([]:List Keyword).length+(if ([]:List Keyword).isEmpty then 0 else 1) < 30))=true:=by rfl)
  (hline:(apos.endLine == cpos.line)=true:=by rfl) (hs:starEach (e :: es) X.env=(false,eval e X.env) :: starEach es X.env:=by rfl) (hplain:(backTo cpos (starEach es X.env)).any (·.1)=false:=by rfl) :
  PE X (.Call (.Attribute o name apos) (e :: es) [] cpos) (Aj X.K T r to t):=by
 intro pins s σ H Q I h
 refine wpAny_Call_method_late hbase hfew hline rfl (aJ (ho pins s σ H _ I h) fun v s1 ⟨x,H1,I1,r1,ty,q1⟩=>?_)
 obtain⟨h1,h2⟩:=tI I1 r1 ty
 refine⟨T,id,pa,slot,hty,h1,h2,?_⟩
 have hA:=ha cpos pins s1 σ H1 _ I1 q1
 rw [hs] at hA ⊢
 refine Calls.callWith_builtin (by show (false || (backTo cpos (starEach es X.env)).any (·.1))=false;rw [hplain] <;> rfl) (Calls.evalArgs_plain ?_)
 exact aJ hA fun us s2 ⟨vs,H2,I2,r2,q2⟩=>hm pins s2 σ H2 x vs v us Q I2 r1 r2 q2
end
def tJ (X:Cx) (id:String) (r:V->List V->Hp->VK->Prop):Prop :=
 ∀ (pins:List (Addr × Obj)) (s:Shared) (σ : St) (H:Hp) (x:V) (xs:List V) (v:Value) (us:List Value) (Q:VK),Inv X pins σ H s->RelV x v->Vals xs us->r x xs H Q ->
  wpAny (model X.prog X.w) X.A (call (.builtin id) (v :: us)) (EP X pins σ Q) X.xe s
theorem Vals.one:∀ {x:V} {us:List Value},Vals [x] us->∃ u,us = [u]/\RelV x u
 | _,_,.cons r .nil=>⟨_,rfl,r⟩
theorem Vals.zero:∀ {us:List Value},Vals [] us->us = []
 | _,.nil=>rfl
theorem Vals.dropLast {xs:List V} {us:List Value} (h:Vals xs us):Vals xs.dropLast us.dropLast:=by
 induction h with
 | nil=>exact .nil
 | cons r t ih =>
  cases t with
  | nil=>exact .nil
  | cons q t'=>exact .cons r ih
theorem rK {α : Type} (l:List α):l.eraseIdx (l.length - 1)=l.dropLast:=by
 induction l with
 | nil=>rfl
 | cons a r ih =>
  cases r with
  | nil=>rfl
  | cons b r =>
   have e:(a :: b :: r).length - 1=((b :: r).length - 1)+1:=by
    have h1:(a :: b :: r).length=r.length+2:=rfl
    have h2:(b :: r).length=r.length+1:=rfl
    omega
   rw [e,List.eraseIdx_cons_succ,ih]
   all_goals rfl
section
variable {X:Cx} {pins:List (Addr × Obj)} {σ : St} {H:Hp} {s:Shared} {l b:Addr} {xs ys zs:List V}
theorem Inv.uX {its its':List Value} {n:Nat} {f:Array Value->Array Value} {t':Nat} (I:Inv X pins σ H s) (hH:H l=some (.lst xs))
  (e:s.heap.get? l=some { cls:=.type "list",data:=.seq its.toArray n }) (hf:f its.toArray=its'.toArray) (hv:Vals ys its') (hz:ys.length<=sizeLine) :
  Inv X pins σ (upd H l (.lst ys)) { s with heap:=s.heap.update l (Obj.mapSeq f),toks:=t' }:=by
 have q:=PySem.IsL.update e f
 rw [hf] at q
 refine I.write (x:=l) (e:=l) (by rw [hH];exact trivial) (.inl rfl) (fun b' u hb hu=>(Heap.get?_update_other s.heap (Obj.mapSeq f) (Ne.symm hb)).trans hu) ⟨_,q⟩ ?_
 exact⟨hz,its',_,hv,q⟩
theorem Inv.fresh (I:Inv X pins σ H s):H s.heap.objs.size=none:=I.aL.fresh (Nat.le_refl _)
theorem Inv.rL (I:Inv X pins σ H s) (hH:H l=some (.lst xs)):xs.length<=sizeLine/\∃ (its:List Value) (n:Nat),Vals xs its/\xs.length=its.length/\s.heap.get? l=some { cls:=.type "list",data:=.seq its.toArray n }:=by
 obtain⟨z,its,n,r,e⟩:=I.aL l _ hH
 exact⟨z,its,n,r,r.length,e⟩
theorem uY {n:Nat} (h:n<=sizeLine):Builtin.List.listTooLong n=false:=by
 unfold Builtin.List.listTooLong
 exact decide_eq_false (by omega)
end
section
variable {X:Cx}
def w9:V->List V->Hp->VK->Prop:=fun x vs H Q=>∃ l xs y,x=.ref l/\vs = [y]/\H l=some (.lst xs)/\xs.length < sizeLine/\Q .bx (upd H l (.lst (xs ++ [y])))
theorem dY:tJ X "list.append" w9:=by
 intro pins s σ H x vs v us Q I rx rv h
 obtain⟨l,xs,y,rfl,rfl,hH,hz,q⟩:=h
 cases rx
 obtain⟨u,rfl,ru⟩:=rv.one
 obtain⟨z,its,n,r,hl,e⟩:=I.rL hH
 refine call_meets F.slot_list_append ⟨_,e,rfl⟩ F.entry_list_append (F.args_list_append_2 _ _) (PySem.list_append l its.toArray n u (by rw [List.size_toArray];omega)) ⟨e,?_⟩
 refine⟨.bx,_,I.uX (its':=its ++ [u]) hH e (by simp) (r.append (.cons ru .nil)) ?_,rfl,q⟩
 rw [List.length_append,List.length_singleton]
 omega
def xa:V->List V->Hp->VK->Prop:=fun x vs H Q=>∃ l b xs zs,x=.ref l/\vs = [.ref b]/\H l=some (.lst xs)/\H b=some (.lst zs)/\xs.length+zs.length<=sizeLine/\Q .bx (upd H l (.lst (xs++zs)))
theorem ny:tJ X "list.extend" xa:=by
 intro pins s σ H x vs v us Q I rx rv h
 obtain⟨l,b,xs,zs,rfl,rfl,hH,hB,hz,q⟩:=h
 cases rx
 obtain⟨u,rfl,ru⟩:=rv.one
 cases ru
 obtain⟨z,its,n,r,hl,e⟩:=I.rL hH
 obtain⟨z2,its2,n2,r2,hl2,e2⟩:=I.rL hB
 have hsz:its.toArray.size+its2.toArray.size<=sizeLine:=by rw [List.size_toArray,List.size_toArray];omega
 have hlong:¬ (!its.toArray.isEmpty && Builtin.List.listTooLong (its.toArray.size+its2.toArray.size))=true:=by
  rw [uY hsz,Bool.and_false]
  exact Bool.false_ne_true
 refine call_meets F.slot_list_extend ⟨_,e,rfl⟩ F.entry_list_extend (F.args_list_extend_2 _ _)
  (AutoSeq1.list_extend_list_list_0 l its.toArray n b its2.toArray n2 hlong (by rw [List.size_toArray];omega) (by omega)) ⟨e,e2,?_⟩
 refine⟨.bx,_,I.uX (its':=its++its2) hH e (by simp) (r.append r2) ?_,rfl,q⟩
 rw [List.length_append]
 omega
def z5:V->List V->Hp->VK->Prop:=fun x vs H Q=>∃ l xs y,x=.ref l/\vs = []/\H l=some (.lst xs)/\xs[xs.length - 1]? = some y/\Q y (upd H l (.lst xs.dropLast))
theorem yk:tJ X "list.pop" z5:=by
 intro pins s σ H x vs v us Q I rx rv h
 obtain⟨l,xs,y,rfl,rfl,hH,hy,q⟩:=h
 cases rx
 have hus:=rv.zero
 subst hus
 obtain⟨z,its,n,r,hl,e⟩:=I.rL hH
 obtain⟨u,hu,ru⟩:=r.get hy
 have hy':its.toArray[its.toArray.size - 1]? = some u:=by
  show its.toArray[its.length - 1]? = some u
  rw [<-Array.getElem?_toList,<-hl]
  exact hu
 refine call_meets F.slot_list_pop ⟨_,e,rfl⟩ F.entry_list_pop (F.args_list_pop_1 _) (MeetsSeq.list_pop_last l its.toArray n u hy' (by rw [List.size_toArray];omega)) ⟨e,?_⟩
 refine⟨y,_,I.uX (its':=its.dropLast) hH e ?_ r.dropLast ?_,ru,q⟩
 ·show its.toArray.eraseIdxIfInBounds (its.toArray.size - 1)=its.dropLast.toArray
  rw [List.size_toArray,List.eraseIdxIfInBounds_toArray,rK]
 ·rw [List.length_dropLast]
  omega
end
section
variable {prog:Program} {w:World} {A:Around} {E:Value->Shared->Prop} {s:Shared}
end
section
variable {X:Cx}
end
end L2
namespace zt
open PySem PySem.W PySem.Calls PyProof.Rows
theorem kU {P:Params} {h:Heap}:∀ (ns:List Int) (vs:List Value),WellAll P h vs (ns.map WData.int)->IntsAre vs ns:=by
 intro ns
 induction ns with
 | nil =>
  intro vs w
  rw [List.map_nil] at w
  cases w
  exact .nil
 | cons n ns ih =>
  intro vs w
  rw [List.map_cons] at w
  cases w with
  | cons a b =>
   cases a
   exact .cons _ _ (ih _ b)
theorem tK {l:OpenLaw} {n:Nat} (hn:l.most=some n) {P:Params} {h:Heap} {args:List WData} {vals:List Value}
  (hpre:l.row.toRowW.claim.pre args=true) (hwl:WellAll P h vals args) :
  ∃ a vs ns,vals = [Value.ref a]/\args = [WData.list (ns.map WData.int)]/\h.get? a=some { cls:=.type "list",data:=.seq vs.toArray }/\IntsAre vs ns/\ns.length<=n:=by
 have hsh:WShape.hasAll [] args [.list .int] = true:=(pre_splitW hpre).1
 have hc:l.pre.holds [] { args:=args }=true:=(pre_splitW hpre).2
 obtain⟨d,r,rfl,h1,h2⟩:=hasAllW_cons hsh
 obtain rfl:=hasAllW_nil h2
 obtain⟨xs,rfl,h3⟩:=hasW_list h1
 obtain⟨ns,rfl⟩:=items_int h3
 have hlen:ns.length<=n:=by
  unfold OpenLaw.pre at hc
  have h4:(WTm.not (.lt (.lit (.int (n:Int))) (.len (.arg 0)))).holds [] { args:=[.list (ns.map .int)] }=true:=by
   have h4:=(holds_andW hc).1
   rw [hn] at h4
   exact h4
  have h5:=condW_of h4 (w_not (w_lt w_lit (w_len_list (w_arg rfl))))
  rw [List.length_map] at h5
  refine Nat.le_of_not_lt fun q=>?_
  have q':(n:Int) < ((ns.length:Nat):Int):=by omega
  first
   | (rw [decide_eq_true q'] at h5;exact absurd h5 (by decide))
   | (simp at h5;omega)
 cases hwl with
 | cons w1 w2 =>
  cases w2
  cases w1 with
  | list ho hall=>exact⟨_,_,ns,rfl,rfl,ho,kU ns _ hall,hlen⟩
theorem tL (l:OpenLaw) (args:List WData):l.row.toRowW.claim.post args (.bool true) args=true :=
 postW_of (r:=l.row.toRowW) (X:=(true == true))
  (show WShape.has [] (.bool true) .bool=true by first | rfl | decide | simp [WShape.has,WShape.arms,WShape.armsAll])
  (show (WTm.eq .res (.lit (.bool true))).value [] { args:=args,res:=some (.bool true),after:=args }=some (.bool (true == true)) from w_eq_bool (w_res rfl) w_lit) rfl
theorem pY {l:OpenLaw} {n:Nat} {q:Program} {loose:List Str} {XP:(Str->Option Value)->Heap->Prop} {YP:World->Heap->Prop} {d:DefRec}
  (hn:l.most=some n) (hdf:d.params.defaults = [])
  (call:∀ (w:World) (cV s₁ : Shared) (mg mb:Str->Option Value) (fa:Addr) (o:Obj) (pm cd doc:Value) (a:Addr) (vs:List Value) (ns:List Int),
   Ground q loose [] XP w cV mg mb s₁.heap->YP w s₁.heap ->
   s₁.heap.get? fa=some o->o.data=.func (docDef d.name d.params d.body d.scope pm cd doc)->s₁.heap.CodeRec cd d.name->mg d.name=some (.ref fa) ->
   s₁.heap.get? a=some { cls:=.type "list",data:=.seq vs.toArray }->IntsAre vs ns->ns.length<=n->s₁.gens = #[] ->
   codeAny (model l.prog w) callerA (.call (.ref fa) ⟨[.ref a],[]⟩) (fun r s'=>r=.ok (.ret (.bool true))/\OldK s₁.heap s'.heap/\s'.os=s₁.os/\AllBare s'.gens) s₁) :
  WalkO q loose XP YP l.row.toRowW d [] (fun f vs=>PySem.call f vs):=by
 intro w cV s₁ mg mb G Y fa o pm cd doc dV kV ho hd hcd hD hmg hg args vals as hpre hlay hrd hwl hlo
 obtain rfl:dV=.none:=Dflts.none hD hdf
 obtain rfl:kV=.none:=Dflts.noKw hD
 obtain⟨a,vs,ns,rfl,rfl,hobj,hints,hlen⟩:=tK hn hpre hwl
 refine enter_call (codeAny_mono (call w cV s₁ mg mb fa o pm cd doc a vs ns G Y ho (fd_plain hd) hcd hmg hobj hints hlen hg) fun r s' hq=>?_)
 obtain⟨rfl,h2,h3,h4⟩:=hq
 exact⟨.inl ⟨.bool true,.bool true,[],rfl,fun _=>rfl,.bool true,tL l _,fun _=>⟨List.Pairwise.nil,fun _ hm=>(nomatch hm)⟩⟩,h2,h3,h4⟩
section
variable {prog:Program} {w:World} {A:Around} {E:Value->Shared->Prop} {s:Shared} {K:Frag}
def ledger (h:Heap) (L d:Addr):List (Addr × Obj):=(List.range h.objs.size).filterMap fun a=>if a=L\/a=d then none else (h.get? a).map fun o=>(a,o)
end
end zt
namespace L2
open PySem PySem.Spec PyProof.Rows
theorem gX:∀ {vs:List Value} {ns:List Int},IntsAre vs ns->Vals (ns.map V.int) vs
 | _,_,.nil=>.nil
 | _,_,.cons n t h=>.cons ⟨t,rfl⟩ (gX h)
def uZ (H:Hp):Prop:=∀ b,H b=none\/∃ o xs,H b=some (.jS o (.lst xs))
theorem u0 {P:Program} {w:World} {K:PySem.W.Frag} {mg mb:Str->Option Value} {CX:i9} {k:Nat} {fa a:Addr} {fd:FuncData} {x:Str} {sp:Sp} {s₁ : Shared} {vs:List Value} {ns:List Int}
    (KX:K.In s₁.heap) (hns:s₁.heap.Ns mainGlobals mg) (hb:s₁.heap.Ns builtinsNs mb) (hbb:∀ x:Str,x ≠ "__name__" -> mb x=bootBuiltins x) (hlim:s₁.heap.NoLimit) (hg:s₁.gens = #[])
    (ha:s₁.heap.get? a=some { cls:=.type "list",data:=.seq vs.toArray }) (hi:IntsAre vs ns) (hl:ns.length<=sizeLine) (hr:cg k callerA)
    (F:∀ base:Heap,K.In base->base.Ns mainGlobals mg->br P w K mg base CX k fa fd [x] sp) (hbind:∀ (s:Shared) (u:Value),BindsTo s fd ⟨[u],[]⟩ [(x,u)])
    (hsp:∀ H:Hp,uZ H->aW K H a (ns.map V.int)->sp [.ref a] H (fun v _=>v=.bl true) fun _ _ _=>False)
    (hCX:∀ H e s',CX [] H s₁ (fun _ _ _=>False) e s'->False) :
    codeAny (model P w) callerA (.call (.ref fa) ⟨[.ref a],[]⟩) (fun r s'=>r=.ok (.ret (.bool true))/\OldK s₁.heap s'.heap/\s'.os=s₁.os/\AllBare s'.gens) s₁:=by
  have rv:=gX hi
  have lenV:=hi.length
  have core:∀ H:Hp,uZ H->aW K H a (ns.map V.int)->cQ P w H s₁.heap->(∀ b,H b ≠ none->b=a)->(H a ≠ none->K.lookup a=none) ->
      codeAny (model P w) callerA (.call (.ref fa) ⟨[.ref a],[]⟩) (fun r s'=>r=.ok (.ret (.bool true))/\OldK s₁.heap s'.heap/\s'.os=s₁.os/\AllBare s'.gens) s₁:=by
    intro H hO hS aL hA hK
    have base_of:∀ {b:Addr} {o:Obj},s₁.heap.get? b=some o->H b=none->(iB s₁.heap H).get? b=some o:=fun e n=>uI e n
    have noA:∀ {b:Addr} {o:Obj} {es:Array DictEntry} {ep:Nat},s₁.heap.get? b=some o->o.data=.dict es ep->H b=none:=fun {b o es ep} e d=>by
      cases q:H b with
      | none=>rfl
      | some u =>
        have e':b=a:=hA b (by rw [q];simp)
        subst e'
        rw [ha] at e;cases e
        have d':Data.seq vs.toArray _=Data.dict es ep:=d
        cases d'
    have nsK:∀ {b:Addr} {m:Str->Option Value},s₁.heap.Ns b m->(iB s₁.heap H).Ns b m:=fun {b m} ⟨o,es,ep,e,d,r⟩=>⟨o,es,ep,base_of e (noA e d),d,r⟩
    have hKb:K.In (iB s₁.heap H):=fun b o e=>base_of (KX b o e) (by
      cases q:H b with
      | none=>rfl
      | some u =>
        have e':b=a:=hA b (by rw [q];simp)
        subst e'
        rw [hK (by rw [q];simp)] at e;cases e)
    have hM:Mod K mg (iB s₁.heap H):=⟨hKb,nsK hns,⟨mb,nsK hb,hbb⟩,let ⟨mc,h1,h2⟩:=hlim;⟨mc,nsK h1,h2⟩⟩
    have e0:kf P w K mg (iB s₁.heap H) callerA [] s₁ H:=⟨rfl,hM,fun b o e=>wM e,Nat.le_of_eq (sU _ _),trivial,fun b hb=>absurd (show b ∈ ([]:List Addr) from hb) (by simp),aL,.of_eq hg⟩
    refine codeAny_mono ((F _ hKb (nsK hns)).run callerA [] s₁ H ⟨[.ref a],[]⟩ [.ref a] [.ref a] _ _ hr e0 (hbind s₁ (.ref a)) (.cons rfl .nil) (hsp H hO hS)) fun r s' h=>?_
    cases r with
    | error e=>exact (hCX H e s' h).elim
    | ok fl =>
      cases fl with
      | next=>exact False.elim h
      | brk=>exact False.elim h
      | cont=>exact False.elim h
      | ret u =>
        obtain⟨v,H',os,bare,un,hok',r',q⟩:=h
        have q':v=.bl true:=q
        subst q'
        obtain rfl:u=Value.bool true:=r'
        refine⟨rfl,OldK.of_keep fun b o e=>?_,os,bare⟩
        cases q:H b with
        | none=>exact un.keep b o e q (by intro z;exact absurd (show b ∈ ([]:List Addr) from z) (by simp)) (by simp)
        | some u =>
          rcases hO b with z | ⟨ob,xs,z⟩
          · rw [q] at z;cases z
          · have z2:=un.iA b ob _ z
            obtain⟨e1,_⟩:=aL b _ z
            obtain⟨e2,_⟩:=hok' b _ z2
            rw [e] at e1;cases e1
            exact e2
  cases hk:K.lookup a with
  | some o =>
    have e:=KX a o hk
    rw [ha] at e
    cases e
    refine core (fun _=>none) (fun _=>.inl rfl) (.inr ⟨_,vs.toArray,_,hk,rfl,rfl,rfl,by rw [List.size_toArray,lenV];exact hl,by simpa using rv⟩) (fun b u z=>by have z':(none:Option HO)=some u:=z;cases z') (fun b z=>absurd rfl z) fun z=>absurd rfl z
  | none =>
    refine core (fun b=>if b=a then some (.jS { cls:=.type "list",data:=.seq vs.toArray } (.lst (ns.map V.int))) else none) (fun b=>?_) (.inl (.inr ⟨{ cls:=.type "list",data:=.seq vs.toArray },if_pos rfl⟩)) (fun b u z=>?_) (fun b z=>?_) fun _=>hk
    · by_cases hb:b=a
      · exact .inr ⟨_,_,if_pos hb⟩
      · exact .inl (if_neg hb)
    · by_cases hb:b=a
      · have z':=(if_pos hb).symm.trans z
        cases z'
        subst hb
        exact⟨ha,by rw [List.length_map];exact hl,vs,_,rv,ha⟩
      · have z':=(if_neg hb).symm.trans z
        cases z'
    · by_cases hb:b=a
      · exact hb
      · exact absurd (if_neg hb) z
abbrev KOf {K:PySem.W.Frag} {h:Heap} (_:K.In h):PySem.W.Frag:=K
theorem xb {l:PySem.W.OpenLaw} {n k:Nat} {q:Program} {loose:List Str} {XP:(Str->Option Value)->Heap->Prop} {YP:World->Heap->Prop} {d:DefRec} {K:Params->PySem.W.Frag} {CX:World->i9} {sp:World->Sp} {x:Str}
  (hn:l.most=some n) (hn2:n<=sizeLine) (hdf:d.params.defaults = []) (hr:cg k callerA)
  (hY:∀ (w:World) (h:Heap),YP w h->(K w.params).In h)
  (F:∀ (w:World) (mg:Str->Option Value) (fa:Addr) (h:Heap),(K w.params).In h->h.Ns mainGlobals mg->mg d.name=some (.ref fa) ->
   ∃ fd:FuncData,(∀ (s:Shared) (u:Value),BindsTo s fd ⟨[u],[]⟩ [(x,u)]) /\
    ∀ base:Heap,(K w.params).In base->base.Ns mainGlobals mg->br l.prog w (K w.params) mg base (CX w) k fa fd [x] (sp w))
  (hsp:∀ (w:World) (H:Hp) (a:Addr) (ns:List Int),ns.length<=n->uZ H->aW (K w.params) H a (ns.map V.int)->sp w [.ref a] H (fun v _=>v=.bl true) fun _ _ _=>False)
  (hCX:∀ (w:World) (H:Hp) (s:Shared) (e:Value) (s':Shared),CX w [] H s (fun _ _ _=>False) e s'->False) :
  PySem.W.WalkO q loose XP YP l.row.toRowW d [] (fun f vs=>PySem.call f vs):=by
 refine zt.pY hn hdf fun w cV s₁ mg mb fa o pm cd doc a vs ns G Y ho hd hcd hmg hobj hints hlen hg=>?_
 have KX:=hY w _ Y
 obtain⟨fd,hb,hF⟩:=F w mg fa _ KX G.T.g hmg
 exact u0 KX G.T.g G.T.b G.T.builtins G.T.nolimit hg hobj hints (Nat.le_trans hlen hn2) hr hF hb (fun H hO hS=>hsp w H a ns hlen hO hS) fun H e s'=>hCX w H s₁ e s'
def inClass (s:Stmt) (j:Nat):Stmt:=match s with
 | .ClassDef _ _ _ body _ _ _ _ _ _ _=>body.getD j (.Pass ⟨0,0,0,0⟩)
 | _=>.Pass ⟨0,0,0,0⟩
def aM (s:Stmt):Arguments:=match s with
 | .FunctionDef _ a _ _ _ _ _ _ _ _=>a
 | _=>{ posonlyargs:=[],args:=[],vararg:=none,kwonlyargs:=[],kw_defaults:=[],kwarg:=none,defaults:=[] }
def aH (s:Stmt):List Stmt:=match s with
 | .FunctionDef _ _ b _ _ _ _ _ _ _=>b
 | _=>[]
def ao (s:Stmt):Scope:=match s with
 | .FunctionDef _ _ _ _ _ _ sc _ _ _=>sc
 | _=>{ kind:=.function,names:=[],isGenerator:=false,isCoroutine:=false }
abbrev bU:i9:=fun _ _ _ _ _ _=>False
abbrev E0:XK:=fun _ _ _=>False
theorem rM {X:Cx}:Passes bU X E0:=fun _ _ _ _ _ _ _ h=>h.elim
structure bY (K:PySem.W.Frag) (x qual:Str) (st:Stmt) (f:Addr) (fd:FuncData):Prop where
 ex:∃ (oc:Value) (od:Option Addr) (kV doc pm:Value) (an:Option Addr) (cdv ct:Value) (osl:Array (Option Value)),
  fd=PySem.W.fnOf x qual (aM st) (aH st) (ao st) .none kV doc pm an cdv ct/\K.lookup f=some ⟨oc,od,.func fd,osl⟩/\PySem.W.codeIn K cdv qual=true
 kp:PySem.W.keepIn K (.ref f)=true
section
variable {P:Program} {w:World} {K:PySem.W.Frag} {mg:Str->Option Value} {base:Heap}
theorem bY.ok {x qual:Str} {st:Stmt} {f:Addr} {fd:FuncData} {N ps:List Str} {k:Nat} {sp:Sp} (F:bY K x qual st f fd) (S:aO N ps (ao st)) (len:∀ vs H Q E,sp vs H Q E->vs.length=ps.length)
  (hbody:∀ (cdv:Value) (A:Around) (outer:List Env) (s:Shared) (H:Hp) (vs:List V) (Q:VK) (E:XK),cg k (A.deeper (envOfC qual (ao st) s.heap.objs.size f cdv))->sp vs H Q E ->
   ∃ t,gU (kh bU P w K mg base N qual (ao st) f cdv A outer s H E).qt (aH st) t/\t { nx:=fun _ H'=>Q .bx H',rt:=Q } (start N vs) H):br P w K mg base bU (k+1) f fd ps sp:=by
 obtain⟨oc,od,kV,doc,pm,an,cdv,ct,osl,rfl,lk,hcd⟩:=F.ex
 refine wm lk hcd S len fun A outer s H vs Q E hr hsp=>?_
 obtain⟨t,h,q⟩:=hbody cdv A outer s H vs Q E hr hsp
 exact⟨t,h.qt,q⟩
theorem bY.binds {x qual:Str} {st:Stmt} {f:Addr} {fd:FuncData} {ps:List Str} (F:bY K x qual st f fd)
  (h:∀ (kV doc pm:Value) (an:Option Addr) (cdv ct:Value) (us:List Value),us.length=ps.length->bindArgs (PySem.W.fnOf x qual (aM st) (aH st) (ao st) .none kV doc pm an cdv ct) ⟨us,[]⟩=pure (ps.zip us)):Binds K fd ps []:=by
 obtain⟨oc,od,kV,doc,pm,an,cdv,ct,osl,rfl,lk,hcd⟩:=F.ex
 exact .all (h kV doc pm an cdv ct)
theorem bc {x qual:Str} {st:Stmt} {f:Addr} {oc:Value} {od an:Option Addr} {osl:Array (Option Value)} {kV doc pm cdv ct:Value} (l:K.lookup f=some ⟨oc,od,.func (PySem.W.fnOf x qual (aM st) (aH st) (ao st) .none kV doc pm an cdv ct),osl⟩)
  (c:PySem.W.codeIn K cdv qual=true) (k:PySem.W.keepIn K (.ref f)=true):bY K x qual st f (PySem.W.fnOf x qual (aM st) (aH st) (ao st) .none kV doc pm an cdv ct):=⟨⟨oc,od,kV,doc,pm,an,cdv,ct,osl,rfl,l,c⟩,k⟩
end
theorem gY {A:Around} {k:Nat} (hr:cg k A):A.units+1 < cLine:=Nat.lt_of_le_of_lt (Nat.add_le_add_left (by decide:1<=64) _) hr.units
theorem bw {n:Nat} (h:n<=1000):n < sizeLine:=Nat.lt_of_le_of_lt h (by decide)
section
variable {X:Cx}
theorem pv (i:Nat) {x:Str} {pos:Pos} (hN:X.N[i]? = some x:=by rfl) (hv:xK X.env.scope x:=by first | exact Or.inl rfl | exact Or.inr (Or.inl rfl) | exact Or.inr (Or.inr rfl)) (hd:(x == ("__debug__" : Str))=false:=by decide)
  (hcd:(x == ("__classdict__" : Str))=false:=by decide):PE X (.Name x pos) (xM i):=xN hN hv hd hcd
end
theorem cC {A B:Prop} (h:B):if false=true then A else B:=by
 rw [if_neg Bool.false_ne_true]
 exact h
theorem cu {A B:Prop} (h:A):if true=true then A else B:=by
 rw [if_pos rfl]
 exact h
theorem eI {c A B:Prop} [Decidable c] (h1:c->A) (h2:¬ c->B):if c then A else B:=by
 by_cases h:c
 ·rw [if_pos h]
  exact h1 h
 ·rw [if_neg h]
  exact h2 h
def ah (H H':Hp):Prop:=∀ b o,H b=some o->H' b=some o
theorem ah.refl (H:Hp):ah H H:=fun _ _ h=>h
theorem ah.trans {H H1 H2:Hp} (a:ah H H1) (b:ah H1 H2):ah H H2:=fun c o h=>b c o (a c o h)
theorem ah.free {H H':Hp} (e:ah H H') {l:Addr} (h:H' l=Option.none):H l=Option.none:=by
 cases q:H l with
 | none=>rfl
 | some o =>
  rw [e l o q] at h
  cases h
section
variable {X:Cx}
theorem xc:dU X (binaryOp .Mult) (rI IntMulOk fun i j=>.int (i * j)):=qv fun _ _ _ _ _ _ _ hc q=>mul_int q hc
def zd (_i j:Int):Prop:=0 < j/\j.natAbs.log2 < 9000
theorem u7:dU X (binaryOp .FloorDiv) (rI zd fun i j=>.int (i / j)):=qv fun i j _ _ _ _ _ hc q=>by
 have h1:(0:Int) < j:=hc.1
 exact floordiv_int (by omega) (by rw [Int.fdiv_eq_ediv_of_nonneg i (by omega)];exact q) (.inl (PyProof.noPylong_of_log2 hc.2))
structure Own (P:Program) (w:World) (K:PySem.W.Frag) (mg:Str->Option Value) (base:Heap) (x:Str) (k:Nat) (ps:List Str) (sp:Sp):Prop where
 ex:∃ f fd,br P w K mg base bU k f fd ps sp/\mg x=some (.ref f)/\PySem.W.keepIn K (.ref f)=true/\Binds K fd ps []
variable {x:Str} {k:Nat} {ps:List Str} {sp:Sp} {e:Expr} {es:List Expr} {t:TA} {p pos:Pos}
theorem aR (o:Own X.prog X.w X.K X.mg X.base x k ps sp) (hr:cg k X.A) (hg:Gl X x) (ha:PA X (e :: es) t)
  (hdb:(x == ("__debug__" : Str))=false:=by decide) (he:starEach (e :: es) X.env=(false,eval e X.env) :: starEach es X.env:=by rfl)
  (hpl:(backTo pos (starEach es X.env)).any (·.1)=false:=by rfl):PE X (.Call (.Name x p) (e :: es) [] pos) (we sp [] E0 t):=by
 obtain⟨f,fd,F,hm,hk,hb⟩:=o.ex
 exact wX F hr hg hm hk hb .nil rM ha hdb he hpl
end
theorem fq {α : Type} {x:α} {xs:List α}:gG (x :: xs) 0=some x:=dt (j:=0) rfl
theorem gH {α : Type} {x y:α} {xs:List α}:gG (x :: y :: xs) 1=some y:=dt (j:=1) rfl
theorem at2 {α : Type} {x y z:α} {xs:List α}:gG (x :: y :: z :: xs) 2=some z:=dt (j:=2) rfl
theorem zu {α : Type} {x y z u:α} {xs:List α}:gG (x :: y :: z :: u :: xs) 3=some u:=dt (j:=3) rfl
theorem ze {α : Type} {xs:List α} {i:Int} (h0:0<=i) (h1:i < xs.length):∃ v,gG xs i=some v/\v ∈ xs:=by
 obtain⟨j,rfl⟩:∃ j:Nat,i=j:=⟨i.toNat,by omega⟩
 have hj:j < xs.length:=by omega
 exact⟨xs[j],dt (by simp [hj]),List.getElem_mem hj⟩
theorem cD:bootBuiltins "len" = some (.builtin "len"):=by decide +kernel
theorem ja:bootBuiltins "min" = some (.builtin "min"):=by decide +kernel
theorem yl:bootBuiltins "max" = some (.builtin "max"):=by decide +kernel
theorem ym:bootBuiltins "int" = some (.type "int"):=by decide +kernel
theorem cy:bootBuiltins "tuple" = some (.type "tuple"):=by decide +kernel
theorem xf:bootBuiltins "list" = some (.type "list"):=by decide +kernel
def gZ (H:Hp) (b:Addr):Prop:=∃ x y:Int,H b=some (.lst [.int x,.int y])/\0<=y/\y < 2147483648
def Fix (b:Addr) (H H':Hp):Prop:=∀ c o,H c=some o->c ≠ b->H' c=some o
theorem Fix.wo {b:Addr} {H:Hp} {o:HO}:Fix b H (upd H b o):=fun c u h n=>by rw [av n];exact h
theorem ah.new {p:Addr} {H:Hp} {o:HO} (hp:H p=none):ah H (upd H p o):=fun c u h=>by rw [av (aC h hp)];exact h
theorem gZ.same {b:Addr} {H H':Hp} (h:gZ H b) (s:ah H H'):gZ H' b:=by
 obtain⟨x,y,e,q⟩:=h
 exact⟨x,y,s _ _ e,q⟩
theorem nz {α : Type} {x0:α}:[x0].length<=sizeLine:=by show 1<=sizeLine;decide
theorem ln2 {α : Type} {x0 x1:α}:[x0,x1].length<=sizeLine:=by show 2<=sizeLine;decide
theorem zv {α : Type} {x0 x1 x2:α}:[x0,x1,x2].length<=sizeLine:=by show 3<=sizeLine;decide
theorem Ak {α : Type} {x0 x1 x2 x3 x4:α}:[x0,x1,x2,x3,x4].length<=sizeLine:=by show 5<=sizeLine;decide
theorem gZ.oV {b p:Addr} {H:Hp} {xs:List V} (h:gZ H b) (e:H p=some (.tup xs)):p ≠ b:=by
 obtain⟨x,y,e1,_⟩:=h
 exact bH e e1 (by intro z;cases z)
theorem gZ.yo {b p:Addr} {H:Hp} (h:gZ H b) (e:H p=none):p ≠ b:=by
 obtain⟨x,y,e1,_⟩:=h
 exact fun z=>aC e1 e z.symm
def rN (K:PySem.W.Frag):Sp:=fun vs H Q _=>∃ (a:Addr) (ns:List Int) (k:Int),vs = [.ref a,.int k]/\aW K H a (ns.map V.int)/\0<=k /\
 ∀ b H',H b=none->gZ H' b->ah H H'->Q (.ref b) H'
def oW:Sp:=fun vs H Q _=>∃ (b:Addr) (m:Int),vs = [.ref b,.int m]/\gZ H b/\(0 < m/\m.natAbs.log2 < 9000) /\
 ∀ r H',0<=r->r < m->gZ H' b->Fix b H H'->Q (.int r) H'
def oo (K:PySem.W.Frag):Sp:=fun vs H Q _=>∃ (a:Addr) (ns:List Int),vs = [.ref a]/\aW K H a (ns.map V.int)/\ns.length<=63/\∀ H',Q (.bl true) H'
def il (cells:List (Str × Addr)):List (Str × NameKind)->List (Str × Addr)->List (Str × Addr)
 | [],cs=>cs
 | (n,k) :: r,cs=>il cells r (if k == .free then (n,(cells.lookup n).getD 0) :: cs else cs)
theorem kW {scope:Scope} {env:Env} (hf:∀ y ∈ scope.names,y.2=.free->∃ c,env.cells.lookup y.1=some c):closureFor scope env=pure (il env.cells scope.names []):=by
 have key:∀ (names:List (Str × NameKind)) (cs:List (Str × Addr)),(∀ y ∈ names,y.2=.free->∃ c,env.cells.lookup y.1=some c) ->
   (forIn names cs fun x r=>match x with
    | (name,kind)=>if (kind == NameKind.free)=true then (do let a <-cellOf env name;pure (ForInStep.yield ((name,a) :: r))) else pure (ForInStep.yield r):Sem (List (Str × Addr)))=pure (il env.cells names cs):=by
  intro names
  induction names with
  | nil=>intro cs _;rfl
  | cons y r ih =>
   intro cs hy
   obtain⟨n,k⟩:=y
   have ih':=fun cs=>ih cs fun z hz=>hy z (List.mem_cons_of_mem _ hz)
   rw [List.forIn_cons]
   by_cases hk:(k == NameKind.free)=true
   ·have e:k=.free:=by simpa using hk
    obtain⟨c,hc⟩:=hy (n,k) List.mem_cons_self e
    have hc':env.cells.lookup n=some c:=hc
    simp only [hk,if_true,cellOf,hc',pure_bind,il,Option.getD_some]
    exact ih' _
   ·have hk':(k == NameKind.free)=false:=by simpa using hk
    simp only [hk',Bool.false_eq_true,if_false,pure_bind,il]
    exact ih' _
 unfold closureFor
 have e:=key scope.names [] hf
 show ((forIn scope.names ([]:List (Str × Addr)) fun x r=>match x with
    | (name,kind)=>if (kind == NameKind.free)=true then (do let a <-cellOf env name;pure (ForInStep.yield ((name,a) :: r))) else pure (ForInStep.yield r):Sem (List (Str × Addr))) >>= fun r=>pure r)=_
 rw [e,pure_bind]
theorem jb {cells:List (Str × Addr)}:∀ (names:List (Str × NameKind)) (cs:List (Str × Addr)),(∀ y ∈ names,y.2=.free->∃ c,cells.lookup y.1=some c) ->
  (∀ x c,cs.lookup x=some c->cells.lookup x=some c)->∀ x c,(il cells names cs).lookup x=some c->cells.lookup x=some c
 | [],_,_,h,x,c,e=>h x c e
 | (n,k) :: r,cs,hf,h,x,c,e=>by
  refine jb r _ (fun y hy=>hf y (List.mem_cons_of_mem _ hy)) (fun z d hz=>?_) x c e
  by_cases hk:(k == NameKind.free)=true
  ·rw [if_pos hk] at hz
   obtain⟨c',hc⟩:=hf (n,k) List.mem_cons_self (by simpa using hk)
   have hc':cells.lookup n=some c':=hc
   rw [List.lookup_cons] at hz
   cases hzn:z == n with
   | true =>
    rw [hzn] at hz
    have:z=n:=by simpa using hzn
    subst this
    rw [hc'] at hz ⊢
    simpa using hz
   | false=>rw [hzn] at hz;exact h z d hz
  ·rw [if_neg hk] at hz;exact h z d hz
theorem mz {cells:List (Str × Addr)} {x:Str}:∀ (names:List (Str × NameKind)) (cs:List (Str × Addr)),((x,NameKind.free) ∈ names\/∃ c,cs.lookup x=some c)->∃ c,(il cells names cs).lookup x=some c
 | [],_,h=>by
  rcases h with h | h
  ·cases h
  ·exact h
 | (n,k) :: r,cs,h=>by
  refine mz r _ ?_
  by_cases hk:(k == NameKind.free)=true
  ·rw [if_pos hk]
   cases hxn:x == n with
   | true=>exact .inr ⟨_,by rw [List.lookup_cons,hxn]⟩
   | false =>
    rcases h with h | ⟨c,h⟩
    ·rcases List.mem_cons.mp h with h | h
     ·have:x=n:=(Prod.mk.inj h).1
      subst this
      simp at hxn
     ·exact .inl h
    ·exact .inr ⟨c,by rw [List.lookup_cons,hxn];exact h⟩
  ·rw [if_neg hk]
   rcases h with h | h
   ·rcases List.mem_cons.mp h with h | h
    ·have:NameKind.free=k:=(Prod.mk.inj h).2
     subst this
     simp at hk
    ·exact .inl h
   ·exact .inr h
theorem gI {env:Env} {x:Str} {k:NameKind} (hk:k=.cell\/k=.free):∀ {names:List (Str × NameKind)},(∀ y ∈ names,y.2 ≠ .cell) ->
  (names.map fun (n,k)=>if (k == NameKind.free && env.scope.kind == .function && env.kindOf n == some .cell) then (n,NameKind.cell) else (n,k)).lookup x=some k->(x,NameKind.free) ∈ names
 | [],_,h=>by simp at h
 | (n,q) :: r,hc,h=>by
  have ih:=gI (env:=env) (x:=x) hk (names:=r) (fun y hy=>hc y (List.mem_cons_of_mem _ hy))
  have h':List.lookup x ((if (q == NameKind.free && env.scope.kind == .function && env.kindOf n == some .cell)=true then (n,NameKind.cell) else (n,q)) :: _)=some k:=h
  by_cases hq:(q == NameKind.free && env.scope.kind == .function && env.kindOf n == some .cell)=true
  ·rw [if_pos hq,List.lookup_cons] at h'
   have eq:q=.free:=by
    rw [Bool.and_eq_true,Bool.and_eq_true] at hq
    simpa using hq.1.1
   cases hxn:x == n with
   | true =>
    have:x=n:=by simpa using hxn
    subst this;subst eq
    exact List.mem_cons_self
   | false=>rw [hxn] at h';exact List.mem_cons_of_mem _ (ih h')
  ·rw [if_neg hq,List.lookup_cons] at h'
   cases hxn:x == n with
   | true =>
    rw [hxn] at h'
    have:x=n:=by simpa using hxn
    subst this
    have e:q=k:=Option.some.inj h'
    subst e
    rcases hk with hk | hk
    ·exact absurd hk (hc (x,q) List.mem_cons_self)
    ·subst hk;exact List.mem_cons_self
   | false=>rw [hxn] at h';exact List.mem_cons_of_mem _ (ih h')
theorem jc {env:Env} {x:Str}:∀ {names:List (Str × NameKind)},names.lookup x=some .free ->
  (names.map fun (n,k)=>if (k == NameKind.free && env.scope.kind == .function && env.kindOf n == some .cell) then (n,NameKind.cell) else (n,k)).lookup x=some .cell \/
  (names.map fun (n,k)=>if (k == NameKind.free && env.scope.kind == .function && env.kindOf n == some .cell) then (n,NameKind.cell) else (n,k)).lookup x=some .free
 | [],h=>by simp at h
 | (n,q) :: r,h=>by
  have ih:=jc (env:=env) (x:=x) (names:=r)
  show List.lookup x ((if (q == NameKind.free && env.scope.kind == .function && env.kindOf n == some .cell)=true then (n,NameKind.cell) else (n,q)) :: _)=some .cell \/
   List.lookup x ((if (q == NameKind.free && env.scope.kind == .function && env.kindOf n == some .cell)=true then (n,NameKind.cell) else (n,q)) :: _)=some .free
  rw [List.lookup_cons] at h
  by_cases hq:(q == NameKind.free && env.scope.kind == .function && env.kindOf n == some .cell)=true
  ·rw [if_pos hq,List.lookup_cons]
   cases hxn:x == n with
   | true=>exact .inl rfl
   | false=>rw [hxn] at h;exact ih h
  ·rw [if_neg hq,List.lookup_cons]
   cases hxn:x == n with
   | true=>rw [hxn] at h;exact .inr h
   | false=>rw [hxn] at h;exact ih h
def ff (X:Cx) (scope:Scope) (C:Addr) (N':List Str) (fp:List Addr) (s₁ : Shared) (H₁ : Hp):Cx where
 prog:=X.prog
 w:=X.w
 K:=X.K
 mg:=X.mg
 base:=X.base
 A:=X.A
 N:=N'
 cV:=s₁
 oz:=H₁
 env:=compEnvC scope (il X.env.cells scope.names []) C X.env
 outer:=X.stack
 stack:=X.stack
 ex:=fp
 fn:=fun _=>false
 calm:=X.calm
 pn:=[]
 xe:=fun _ _=>False
def fw (X:Cx) (scope:Scope):List Str->List Nat->Prop
 | [],[]=>True
 | x :: fr,j :: js=>(X.N[j]? = some x/\(X.env.kindOf x=some .cell\/X.env.kindOf x=some .free)/\scope.names.lookup x=some .free)/\fw X scope fr js
 | _,_=>False
theorem fw.len {X:Cx} {scope:Scope}:∀ {fr:List Str} {js:List Nat},fw X scope fr js->fr.length=js.length
 | [],[],_=>rfl
 | _ :: _,_ :: _,h=>by simp [fw.len h.2]
 | [],_ :: _,h=>h.elim
 | _ :: _,[],h=>h.elim
theorem fw.mem {X:Cx} {scope:Scope} {x:Str}:∀ {fr:List Str} {js:List Nat},fw X scope fr js->x ∈ fr->X.env.kindOf x=some .cell\/X.env.kindOf x=some .free
 | [],[],_,h=>by cases h
 | a :: fr,b :: js,h,hm=>by
  rcases List.mem_cons.mp hm with rfl | hm
  ·exact h.1.2.1
  ·exact fw.mem h.2 hm
 | [],_ :: _,h,_=>h.elim
 | _ :: _,[],h,_=>h.elim
theorem fw.get {X:Cx} {scope:Scope}:∀ {fr:List Str} {js:List Nat} {i:Nat} {x:Str} {j:Nat},fw X scope fr js->fr[i]? = some x->js[i]? = some j ->
  X.N[j]? = some x/\(X.env.kindOf x=some .cell\/X.env.kindOf x=some .free)/\scope.names.lookup x=some .free
 | [],[],_,_,_,_,h,_=>by simp at h
 | a :: fr,b :: js,0,x,j,h,h1,h2=>by
  simp at h1 h2
  subst h1;subst h2
  exact h.1
 | a :: fr,b :: js,i+1,x,j,h,h1,h2=>fw.get h.2 (by simpa using h1) (by simpa using h2)
 | [],_ :: _,_,_,_,h,_,_=>h.elim
 | _ :: _,[],_,_,_,h,_,_=>h.elim
def kX (n:Nat) (js:List Nat) (σ : St):St:=List.replicate n none++js.map fun j=>σ.getD j none
theorem yq {X:Cx} {pins:List (Addr × Obj)} {σ : St} {H:Hp} {s:Shared} {scope:Scope} {fp:List Addr} {C:Addr} {N':List Str} (I:Inv X pins σ H s) (hk:scope.kind=.function) (hcell:∀ y ∈ scope.names,y.2 ≠ .cell)
  (hf:∀ y ∈ scope.names,y.2=.free->∃ c,X.env.cells.lookup y.1=some c) (hC:s.heap.objs.size<=C) (hfp:∀ b ∈ fp,gx X pins H b) (hlt:∀ b ∈ fp,b < s.heap.objs.size):(ff X scope C N' fp s H).Ok:=by
 have ag:∀ x c,(il X.env.cells scope.names []).lookup x=some c->X.env.cells.lookup x=some c:=jb scope.names [] hf fun x c e=>by simp at e
 refine⟨I.ok.mod,hk,I.ok.glob,I.ok.blt,hC,fun x y c h1 h2=>I.ok.inj x y c (ag x c h1) (ag y c h2),fun x hx=>?_,(fun x c h=>(by cases h)),I.ok.hd,I.ok.frames,.inl rfl,fun b hb=>?_,I.bs,?_,fun b o e hb=>?_,fun b hb=>?_,I.stack,I.qq⟩
 ·refine mz scope.names [] (.inl ?_)
  rcases hx with hx | hx
  ·exact gI (.inl rfl) hcell hx
  ·exact gI (.inr rfl) hcell hx
 ·obtain⟨h1,h2,h3,h4,h5,h6⟩:=hfp b hb
  exact⟨Nat.ne_of_lt (Nat.lt_of_lt_of_le (hlt b hb) hC),fun x c e=>h5 x c (ag x c e)⟩
 ·exact Nat.le_trans I.ok.kO I.sz
 ·obtain⟨h1,h2,h3,h4,h5,h6⟩:=hfp b hb
  rcases h4 with h4 | h4
  ·exact I.ok.oA b o e h4
  ·exact absurd (Nat.lt_of_lt_of_le (Heap.lt_size e) (Nat.le_trans I.ok.kO h4)) (Nat.lt_irrefl _)
 ·obtain⟨h1,h2,h3,h4,h5,h6⟩:=hfp b hb
  intro z
  rcases List.mem_cons.mp (I.kP b z) with z | z
  ·exact h2 z
  ·exact h3 z
def tM (J:It) (n:Nat) (js:List Nat) (g:TG) (ct:TT) (te:TE) (acc:Addr) (σ : St) (H1:Hp) (Q:VK):Prop :=
 ∃ W:Nat->Nat->List V->St->Hp->Prop,(∃ m,W 0 m [] (kX n js σ) (upd H1 acc (.lst [])))/\∀ i m ys τ H2,W i m ys τ H2->H2 acc=some (.lst ys)/\ys.length < sizeLine /\
  ((J.stop i H2/\Q (.ref acc) H2)\/(J.go i H2/\∃ N:List V->St->Hp->Prop,(∀ ys' τ' H',N ys' τ' H'->∃ m',m' < m/\W (i+1) m' ys' τ' H')/\∀ x H3,J.sY i H2 x H3->g x τ H3 fun τ1 H4=>ct τ1 H4 fun b H5 =>
   if b=true then te τ1 H5 fun y H6=>H6 acc=some (.lst ys)/\N (ys ++ [y]) τ1 (upd H6 acc (.lst (ys ++ [y]))) else N ys τ1 H5))
def zw (n:Nat) (js:List Nat) (wi:TI) (g:TG) (ct:TT) (te:TE):TE:=fun σ H Q=>wi σ H fun J H1=>∀ acc,H1 acc=none->tM J n js g ct te acc σ H1 Q
def tN (X:Cx) (ifs:List Expr) (t:TT):Prop :=
 ∀ (pins:List (Addr × Obj)) (s:Shared) (σ : St) (H:Hp) (Q:Bool->Hp->Prop),Inv X pins σ H s->t σ H Q ->
  wpAny (model X.prog X.w) X.A (forIn ifs true fun c r=>if r=true then do let ok <-isTrue c X.env (eval c X.env);pure (ForInStep.yield ok) else pure (ForInStep.yield r)) (TP X pins σ Q) X.xe s
def yr:TT:=fun _ H Q=>Q true H
theorem gc {X:Cx}:tN X [] yr:=fun _ _ σ H Q I h=>wpAny_pure ⟨H,I,h⟩
theorem ip {X:Cx} {c:Expr} {t:TT} (h:PT X c t):tN X [c] t:=by
 intro pins s σ H Q I q
 rw [List.forIn_cons]
 simp only [if_true,bind_assoc,pure_bind]
 refine wpAny_bind (aJ (h pins s σ H Q I q) fun b s1 h1=>?_)
 exact wpAny_pure h1
section
variable {X:Cx} {pos:Pos}
theorem iX {prog:Program} {w:World} {A:Around} {R:Result->Shared->Prop} {s:Shared} {elt target iter:Expr} {ifs:List Expr} {scope:Scope} {pos:Pos} {it acc:Value} {env:Env} (I:Nat->Shared->Prop)
  (turn:∀ n s,I n s->wpAny (model prog w) A (pyNext it) (fun r s₁=>match r with
   | none=>R (.ok .next) s₁
   | some v=>wpAny (model prog w) A (letOwnedTupleGo target it v) (fun _ s₁'=>wpAny (model prog w) A (assign target env v) (fun _ s₂ =>
     wpAny (model prog w) A (forIn ifs true fun c r=>if r=true then do let ok <-isTrue c env (eval c env);pure (ForInStep.yield ok) else pure (ForInStep.yield r)) (fun ok s₃ =>
      if ok=true then wpAny (model prog w) A (eval elt env) (fun x s₄ =>
       wpAny (model prog w) A (call (.builtin "list.append") [acc,x]) (fun _ s₅=>∃ m,m < n/\I m s₅) (fun _ _=>False) s₄) (fun _ _=>False) s₃
      else ∃ m,m < n/\I m s₃) (fun _ _=>False) s₂) (fun _ _=>False) s₁') (fun _ _=>False) s₁) (fun _ _=>False) s)
  (n:Nat) (h:I n s) :
  codeAny (model prog w) A (.compLoop (.ListComp elt [⟨target,iter,ifs,0⟩] scope pos) 0 it acc env) R s:=by
 refine codeAny_loop rfl I (fun n s hI=>?_) n h
 show wpAny _ A ((compTurn (.ListComp elt [⟨target,iter,ifs,0⟩] scope pos) 0 it acc env).onRaise (fun x=>do noteFrame x env;theTreesLotGoes x)) _ _ s
 refine wpAny_noted ?_
 rw [compTurn_list]
 refine wpAny_bind (wpAny_standAt (wpAny_bind (wpAny_mono (turn n s hI) (fun r s₁ h₁=>?_) fun _ _ h'=>h'.elim)))
 cases r with
 | none=>exact wpAny_pure h₁
 | some v =>
  refine wpAny_bind (wpAny_mono h₁ (fun _ s₁' h₁'=>?_) fun _ _ h'=>h'.elim)
  refine wpAny_bind (wpAny_mono h₁' (fun _ s₂ h₂=>wpAny_bind (wpAny_mono h₂ (fun ok s₃ h₃=>?_) fun _ _ h'=>h'.elim)) fun _ _ h'=>h'.elim)
  cases ok with
  | false=>exact wpAny_pure ⟨rfl,h₃⟩
  | true =>
   exact wpAny_bind (wpAny_bind (wpAny_mono h₃ (fun x s₄ h₄=>wpAny_bind (wpAny_mono h₄ (fun _ s₅ h₅=>wpAny_pure (wpAny_pure ⟨rfl,h₅⟩)) fun _ _ h'=>h'.elim)) fun _ _ h'=>h'.elim))
theorem qB {pins:List (Addr × Obj)} {σ : St} {H:Hp} {s:Shared} {E:Value->Shared->Prop} {tg elt iter:Expr} {ifs:List Expr} {scope:Scope} {g:TG} {ct:TT} {te:TE} {ts fr:List Str} {js:List Nat}
    {it:Addr} {fp:List Addr} {tn:Nat->Heap->Prop} {J:It} {Q:VK} {RR:Value->Addr->Result->Shared->Prop}
    (hc:X.calm=true) (hkind:scope.kind=.function) (hcell:∀ y ∈ scope.names,y.2 ≠ .cell) (hfree:∀ y ∈ scope.names,y.2=.free->X.env.kindOf y.1=some .cell\/X.env.kindOf y.1=some .free)
    (hfr:fw X scope fr js) (htg:∀ C fp s₁ H₁,PG (ff X scope C (ts++fr) fp s₁ H₁) tg g) (hct:∀ C fp s₁ H₁,tN (ff X scope C (ts++fr) fp s₁ H₁) ifs ct) (hte:∀ C fp s₁ H₁,PE (ff X scope C (ts++fr) fp s₁ H₁) elt te)
    (I:Inv X pins σ H s) (T:Turn X.prog X.w X.K tg J fp it tn) (st:tn 0 s.heap) (hfp:∀ b ∈ fp,gx X pins H b)
    (h:∀ acc,H acc=none->tM J ts.length js g ct te acc σ H Q)
    (hRR:∀ acc C H' s' m,Inv X pins σ H' s'->s'.heap.Ns C m->H' C=none->s.heap.objs.size<=C->Q (.ref acc) H'->RR (.ref acc) C (.ok .next) s') :
    wpAny (model X.prog X.w) X.A (newList []) (fun acc s₃=>wpAny (model X.prog X.w) X.A (newFunctionEnv scope X.env.globals (il X.env.cells scope.names []) [] X.env.qual none .none (some X.env)) (fun cenv s₄ =>
      codeAny (model X.prog X.w) X.A (.compStart (.ListComp elt [⟨tg,iter,ifs,0⟩] scope pos) 0 (.ref it) acc { cenv with scope:=relabel scope X.env }) (RR acc cenv.locals) s₄) E s₃) E s:=by
  have hf:∀ y ∈ scope.names,y.2=.free->∃ c,X.env.cells.lookup y.1=some c:=fun y hy e=>I.ok.has y.1 (hfree y hy e)
  have ag:∀ x c,(il X.env.cells scope.names []).lookup x=some c->X.env.cells.lookup x=some c:=jb scope.names [] hf fun x c e=>by simp at e
  have hlt:∀ b ∈ fp,b < s.heap.objs.size:=fun b hb=>by
    obtain⟨o,e,_⟩:=T.obj _ _ st b hb
    exact Heap.lt_size e
  refine wpAny_newObj_type (wpAny_newFunctionEnv hcell (by intro y hy;simp at hy) (fun h₁ hns₁ hsb₁=>?_) hkind)
  dsimp only at hns₁ hsb₁ ⊢
  generalize hH2:s.heap.push { cls:=.type "list",dict:=none,data:=.seq ([]:List Value).toArray }=G2 at hns₁ hsb₁ ⊢
  have hC:G2.objs.size=s.heap.objs.size+1:=by rw [<-hH2,Heap.size_push]
  have hDC:s.heap.objs.size ≠ G2.objs.size:=by rw [hC];exact Nat.ne_of_lt (Nat.lt_succ_self _)
  have hCle:s.heap.objs.size<=G2.objs.size:=by rw [hC];exact Nat.le_succ _
  have below:∀ b,b < s.heap.objs.size->b ≠ G2.objs.size/\b ≠ s.heap.objs.size:=fun b hb=>⟨by rw [hC];exact Nat.ne_of_lt (Nat.lt_succ_of_lt hb),Nat.ne_of_lt hb⟩
  have old:∀ b o,s.heap.get? b=some o->h₁.get? b=some o:=fun b o e=>hsb₁.extBut b o (below b (Heap.lt_size e)).1 (Heap.get?_push_of_some _ (hH2 ▸ Heap.get?_push_of_some _ e))
  have hacc:h₁.get? s.heap.objs.size=some { cls:=.type "list",data:=.seq ([]:List Value).toArray }:=hsb₁.extBut _ _ hDC (Heap.get?_push_of_some _ (hH2 ▸ Heap.get?_push_size _ rfl))
  have nD:H s.heap.objs.size=none:=I.aL.fresh (Nat.le_refl _)
  have nC:H G2.objs.size=none:=I.aL.fresh hCle
  obtain⟨W,⟨m0,w0⟩,turn⟩:=h s.heap.objs.size nD
  generalize hXb:ff X scope G2.objs.size (ts++fr) fp s H=Xb
  have Ib:∀ tk,Inv Xb [] (kX ts.length js σ) (upd H s.heap.objs.size (.lst [])) { s with heap:=h₁,toks:=tk }:=by
    intro tk
    subst hXb
    refine⟨yq I hkind hcell hf hCle hfp hlt,rfl,I.bare,Un.laid old (Nat.le_refl _) nD,⟨_,hns₁,fun i x v e1 e2 e3=>?_⟩,fun x c e=>?_,?_,fun x c e=>?_,fun p hp=>absurd (show p ∈ ([]:List (Addr × Obj)) from hp) (by simp),I.aL.laid old (Nat.le_refl _) ⟨by show 0<=sizeLine;decide,[],_,.nil,hacc⟩,?_⟩
    · have hi:ts.length<=i:=by
        refine Nat.le_of_not_lt fun hi=>?_
        unfold kX at e2
        rw [List.getElem?_append_left (by simpa using hi),List.getElem?_replicate] at e2
        split at e2 <;> cases e2
      have e1':fr[i - ts.length]? = some x:=by
        have e1'':(ts++fr)[i]? = some x:=e1
        rw [List.getElem?_append_right hi] at e1''
        exact e1''
      unfold kX at e2
      rw [List.getElem?_append_right (by simpa using hi),List.length_replicate,List.getElem?_map] at e2
      cases ej:js[i - ts.length]? with
      | none=>rw [ej] at e2;cases e2
      | some j =>
        rw [ej] at e2
        have e2':σ.getD j none=some v:=by simpa using e2
        obtain⟨q1,q2,q3⟩:=hfr.get e1' ej
        have e2'':σ[j]? = some (some v):=by
          rw [List.getD_eq_getElem?_getD] at e2'
          cases ez:σ[j]? with
          | none=>rw [ez] at e2';cases e2'
          | some z=>rw [ez] at e2';rw [show z=some v from e2']
        obtain⟨m,hn,hl⟩:=I.loc
        obtain⟨u,r,l⟩:=hl j x v q1 e2'' (by
          rcases q2 with q2 | q2
          · exact .inr (.inl q2)
          · exact .inr (.inr q2))
        refine⟨u,r,.inr ⟨jc q3,?_⟩⟩
        rcases l with ⟨l,_⟩ | ⟨_,c,lc,lv⟩
        · rcases q2 with q2 | q2 <;> (rw [l] at q2;cases q2)
        · obtain⟨c',hc'⟩:=mz (cells:=X.env.cells) scope.names [] (.inl (PySem.mem_of_lookup q3))
          have:=ag x c' hc'
          rw [lc] at this
          cases this
          obtain⟨o,ho,hd⟩:=lv
          exact⟨c,hc',o,old _ _ ho,hd⟩
    · obtain⟨v,o,ho,hd⟩:=I.cell x c (ag x c e)
      exact⟨v,o,old _ _ ho,hd⟩
    · show upd H s.heap.objs.size (.lst []) G2.objs.size=none
      rw [av hDC.symm];exact nC
    · obtain⟨v,o,ho,hd⟩:=I.cell x c (ag x c e)
      rw [av (Nat.ne_of_lt (Heap.lt_size ho))]
      exact I.eE x c (ag x c e)
    · show (kX ts.length js σ).length=(ts++fr).length
      unfold kX
      rw [List.length_append,List.length_replicate,List.length_map,List.length_append,hfr.len]
  have fpB:∀ {H':Hp},(∀ b ∈ fp,H' b=none)->∀ b ∈ fp,gx Xb [] H' b:=fun {H'} hn b hb=>by
    subst hXb
    obtain⟨h1,h2,h3,h4,h5,h6⟩:=hfp b hb
    refine⟨hn b hb,(below b (hlt b hb)).1,fun z=>?_,.inl hb,fun x c e=>h5 x c (ag x c e),fun p hp=>absurd (show p ∈ ([]:List (Addr × Obj)) from hp) (by simp)⟩
    rcases List.mem_cons.mp (I.kP b z) with z | z
    · exact h2 z
    · exact h3 z
  have fin:∀ {τ : St} {H':Hp} {s':Shared},Inv Xb [] τ H' s'->Q (.ref s.heap.objs.size) H'->RR (.ref s.heap.objs.size) G2.objs.size (.ok .next) s':=fun {τ H' s'} Jb q=>by
    subst hXb
    obtain⟨m,hn,_⟩:=Jb.loc
    refine hRR _ _ H' s' m (I.yS (ch:=fp) Jb.os Jb.base Jb.aL Jb.bare fun b hb=>?_) hn Jb.free hCle q
    obtain⟨h1,h2,h3,h4,h5,h6⟩:=hfp b hb
    exact⟨h4,h2,h5,h6⟩
  have loop:∀ tk,codeAny (model X.prog X.w) X.A (.compLoop (.ListComp elt [⟨tg,iter,ifs,0⟩] scope pos) 0 (.ref it) (.ref s.heap.objs.size) (compEnvC scope (il X.env.cells scope.names []) G2.objs.size X.env))
        (RR (.ref s.heap.objs.size) G2.objs.size) { s with heap:=h₁,toks:=tk }:=by
    intro tk
    refine iX (fun n s'=>∃ i ys τ H',Inv Xb [] τ H' s'/\tn i s'.heap/\(∀ b ∈ fp,H' b=none)/\W i n ys τ H') ?_ m0 ⟨0,[],_,_,Ib tk,T.keep _ _ _ st fun b hb o e=>old b o e,fun b hb=>?_,w0⟩
    · rintro n s3 ⟨i,ys,τ,H3,I3,st3,fr3,w3⟩
      have htg':=htg G2.objs.size fp s H
      have hct':=hct G2.objs.size fp s H
      have hte':=hte G2.objs.size fp s H
      rw [hXb] at htg' hct' hte'
      have eP:Xb.prog=X.prog:=by subst hXb;rfl
      have ew:Xb.w=X.w:=by subst hXb;rfl
      have eK:Xb.K=X.K:=by subst hXb;rfl
      have eA:Xb.A=X.A:=by subst hXb;rfl
      have ec:Xb.calm=true:=by subst hXb;exact hc
      have ee:Xb.env=compEnvC scope (il X.env.cells scope.names []) G2.objs.size X.env:=by subst hXb;rfl
      have ex:Xb.xe=fun _ _=>False:=by subst hXb;rfl
      rw [<-eP,<-ew,<-eA,<-ee]
      obtain⟨ha,hl,turn'⟩:=turn i n ys τ H3 w3
      rcases turn' with ⟨stop,q⟩ | ⟨go,N,hN,step⟩
      · have hd:=T.done Xb eP ew eK ec i [] s3 τ H3 (fun _ _=>False) I3 (fpB fr3) st3 stop
        rw [<-eP,<-ew] at hd
        refine wpAny_mono hd (fun r s4 hr4=>?_) fun _ _ z=>z
        obtain⟨hr,I4⟩:=hr4
        subst hr
        exact fin I4 q
      · have hd:=T.item Xb eP ew eK ec i [] s3 τ H3 (fun _ _=>False) I3 (fpB fr3) st3 go
        rw [<-eP,<-ew] at hd
        refine wpAny_mono hd (fun r s4 hr4=>?_) fun _ _ z=>z
        obtain⟨u,hr,h4⟩:=hr4
        subst hr
        refine wpAny_mono h4 (fun _ s5 ⟨x,H5,I5,r5,y5,st5,fr5⟩=>?_) fun _ _ z=>z
        have I5':=I5.pinned (fpB fr5) (T.obj _ _ st5)
        have keepT:∀ {σ7:St} {H7:Hp} {s7:Shared},Inv Xb ([] ++ i6 fp s5.heap) σ7 H7 s7->tn (i+1) s7.heap/\∀ b ∈ fp,H7 b=none:=fun {σ7 H7 s7} I7=>by
          refine⟨T.keep _ _ _ st5 fun b hb o e=>(I7.pin (b,o) (List.mem_append_right _ (List.mem_append_right _ (fT hb e)))).1,fun b hb=>?_⟩
          obtain⟨o,e,d⟩:=T.obj _ _ st5 b hb
          exact (I7.pin (b,o) (List.mem_append_right _ (List.mem_append_right _ (fT hb e)))).2.1
        refine wpAny_mono (htg' _ s5 τ H5 x u _ I5' r5 (step x H5 y5)) (fun _ s6 ⟨τ6,H6,I6,q6⟩=>?_) (fun _ _ z=>by rw [ex] at z;exact z)
        refine wpAny_mono (hct' _ s6 τ6 H6 _ I6 q6) (fun ok s7 ⟨H7,I7,q7⟩=>?_) (fun _ _ z=>by rw [ex] at z;exact z)
        cases ok with
        | false =>
          have q7':N ys τ6 H7:=by rw [if_neg (by simp)] at q7;exact q7
          rw [if_neg (by simp)]
          obtain⟨m',hm,w7⟩:=hN _ _ _ q7'
          exact⟨m',hm,i+1,ys,τ6,H7,I7.gy,(keepT I7).1,(keepT I7).2,w7⟩
        | true =>
          rw [if_pos rfl] at q7 ⊢
          refine wpAny_mono (hte' _ s7 τ6 H7 _ I7 q7) (fun v s8 ⟨y,H8,I8,r8,ha8,n8⟩=>?_) (fun _ _ z=>by rw [ex] at z;exact z)
          refine wpAny_mono (dY (X:=Xb) _ s8 τ6 H8 (.ref s.heap.objs.size) [y] (.ref s.heap.objs.size) [v] (fun _ H9=>H9=upd H8 s.heap.objs.size (.lst (ys ++ [y]))) I8 rfl (.cons r8 .nil) ⟨_,ys,y,rfl,rfl,ha8,hl,rfl⟩) (fun _ s9 ⟨_,H9,I9,_,e9⟩=>?_) (fun _ _ z=>by rw [ex] at z;exact z)
          subst e9
          obtain⟨m',hm,w8⟩:=hN _ _ _ n8
          exact⟨m',hm,i+1,_,τ6,_,I9.gy,(keepT I9).1,(keepT I9).2,w8⟩
    · rw [av (Nat.ne_of_lt (hlt b hb))]
      exact (hfp b hb).1
  exact codeAny_compStart_list (loop _) (T.self _ 0 _ _ _ (T.keep _ _ _ st fun b hb o e=>old b o e) (loop _))
theorem Inv.tO {pins:List (Addr × Obj)} {σ : St} {H H':Hp} {s s':Shared} {C:Addr} {h':Heap} (I:Inv X pins σ H s) {σ':St} (I':Inv X pins σ' H' s') (hC:H' C=none) (hle:s.heap.objs.size<=C) (hsb:Heap.SameBut C s'.heap h') :
  Inv X pins σ' H' { s' with heap:=h' }:=by
 obtain⟨h1,h2,h3,h4,h5,h6⟩:=I.mm (H':=H') hle hC
 exact I'.turned (t':=s'.toks) (fun b o hb e=>hsb.extBut b o hb e) hC h2 h4 h5 h6
theorem eJ {tg elt iter:Expr} {ifs:List Expr} {scope:Scope} {wi:TI} {g:TG} {ct:TT} {te:TE} (ts fr:List Str) (js:List Nat)
  (hc:X.calm=true) (hi:PI X tg iter wi) (hkind:scope.kind=.function) (hcell:∀ y ∈ scope.names,y.2 ≠ .cell) (hnames:∀ y ∈ scope.names,y.2=.local->scope.names.lookup y.1=some .local)
  (hfree0:∀ y ∈ scope.names,y.2=.free->y.1 ∈ fr) (hfr:fw X scope fr js)
  (htg:∀ C fp s₁ H₁,PG (ff X scope C (ts++fr) fp s₁ H₁) tg g) (hct:∀ C fp s₁ H₁,tN (ff X scope C (ts++fr) fp s₁ H₁) ifs ct) (hte:∀ C fp s₁ H₁,PE (ff X scope C (ts++fr) fp s₁ H₁) elt te)
  (hs:∀ x,foldedSetIterable iter X.env x=pure x:=by intro _;rfl):PE X (.ListComp elt [⟨tg,iter,ifs,0⟩] scope pos) (zw ts.length js wi g ct te):=by
 have hfree:∀ y ∈ scope.names,y.2=.free->X.env.kindOf y.1=some .cell\/X.env.kindOf y.1=some .free:=fun y hy e=>hfr.mem (hfree0 y hy e)
 intro pins s σ H Q I h
 rw [eval_ListComp]
 refine wpAny_comprehension_free (use:=none) rfl hs (kW fun y hy e=>I.ok.has y.1 (hfree y hy e)) hkind hnames (aJ (hi pins s σ H _ I h) fun xv s1 h1=>aJ h1 fun itv s2 h2=>?_)
 obtain⟨it,fp,tn,J,H2,e,I2,T,st2,f2,hW⟩:=h2
 subst e
 refine qB (RR:=fun acc C=>compPost (model X.prog X.w) X.A X.xe none (EP X pins σ Q) acc C) hc hkind hcell hfree hfr htg hct hte I2 T st2 f2 hW ?_
 intro acc C H' s' m I' hn hC hle q
 exact⟨m,hn,fun h' hsb=>⟨.ref acc,H',I2.tO I' hC hle hsb,rfl,q⟩⟩
theorem iE {tg elt iter:Expr} {ifs:List Expr} {scope:Scope} {wi:TI} {g:TG} {ct:TT} {te:TE} {i:Nat} {y:Str} {py spos:Pos} (ts fr:List Str) (js:List Nat)
  (hsw:swapsWith (.ListComp elt [⟨tg,iter,ifs,0⟩] scope pos) (some (.Name y py)) spos.line X.env=pure true) (hN:X.N.Nodup) (hi0:X.N[i]? = some y) (hx:X.env.scope.names.lookup y=some .local)
  (hc:X.calm=true) (hi:PI X tg iter wi) (hkind:scope.kind=.function) (hcell:∀ y ∈ scope.names,y.2 ≠ .cell) (hnames:∀ y ∈ scope.names,y.2=.local->scope.names.lookup y.1=some .local)
  (hfree0:∀ y ∈ scope.names,y.2=.free->y.1 ∈ fr) (hfr:fw X scope fr js)
  (htg:∀ C fp s₁ H₁,PG (ff X scope C (ts++fr) fp s₁ H₁) tg g) (hct:∀ C fp s₁ H₁,tN (ff X scope C (ts++fr) fp s₁ H₁) ifs ct) (hte:∀ C fp s₁ H₁,PE (ff X scope C (ts++fr) fp s₁ H₁) elt te)
  (hs:∀ x,foldedSetIterable iter X.env x=pure x:=by intro _;rfl):PS X (.Assign [.Name y py] (.ListComp elt [⟨tg,iter,ifs,0⟩] scope pos) spos) (uO (zw ts.length js wi g ct te) (kQ i)):=by
 have hfree:∀ y ∈ scope.names,y.2=.free->X.env.kindOf y.1=some .cell\/X.env.kindOf y.1=some .free:=fun y hy e=>hfr.mem (hfree0 y hy e)
 intro pins s σ H D I h
 rw [exec_Assign_Name_used _ _ _ _ hsw]
 refine wpAny_bind (wpAny_standAt (wpAny_bind ?_))
 show wpAny _ X.A (do let _ <-comprehension (.ListComp elt [⟨tg,iter,ifs,0⟩] scope pos) scope X.env _ (newList []) false (eval iter X.env) (some (assign (.Name y py) X.env))) _ _ s
 refine wpAny_bind (wpAny_mono (wpAny_comprehension_free (use:=some (assign (.Name y py) X.env)) (Q:=fun _ s'=>SP X pins D .next s') rfl hs (kW fun y hy e=>I.ok.has y.1 (hfree y hy e)) hkind hnames
  (aJ (hi pins s σ H _ I h) fun xv s1 h1=>aJ h1 fun itv s2 h2=>?_)) (fun _ s' hq=>wpAny_pure (wpAny_pure hq)) fun _ _ e=>e)
 obtain⟨it,fp,tn,J,H2,e,I2,T,st2,f2,hW⟩:=h2
 subst e
 refine qB (Q:=fun v H'=>D.nx (σ.set i (some v)) H') (RR:=fun acc C=>compPost (model X.prog X.w) X.A X.xe (some (assign (.Name y py) X.env)) (fun _ s'=>SP X pins D .next s') acc C) hc hkind hcell hfree hfr htg hct hte I2 T st2 f2 hW ?_
 intro acc C H' s' m I' hn hC hle q
 show wpAny _ X.A (assign (.Name y py) X.env (.ref acc)) _ _ _
 refine wpAny_assign_Name (m7 I' hN hi0 (.inl hx) (v:=.ref acc) rfl (fun s'' I'' hch=>?_) (.inr hx))
 obtain⟨h1,h2,h3,h4,h5,h6⟩:=I2.mm (H':=H') hle hC
 obtain⟨a,hsb,ha⟩:=hch
 refine⟨m,hn.sameBut hsb ?_,fun h' hsb'=>⟨_,H',I2.tO I'' hC hle hsb',q⟩⟩
 rcases ha with ha | ha
 ·rw [ha];exact h2
 ·exact fun z=>h5 y a ha z.symm
end
theorem iq {K:PySem.W.Frag} {a acc:Addr} {xs:List V} {n:Nat} {js:List Nat} {g:TG} {ct:TT} {te:TE} {σ : St} {H1:Hp} {Q:VK} (Pv:Nat->List V->St->Hp->Prop) (h0:Pv 0 [] (kX n js σ) (upd H1 acc (.lst [])))
  (hl:∀ i ys τ H,i<=xs.length->Pv i ys τ H->aW K H a xs/\H acc=some (.lst ys)/\ys.length < sizeLine)
  (hs:∀ i x ys τ H,xs[i]? = some x->Pv i ys τ H->g x τ H fun τ1 H4=>ct τ1 H4 fun b H5=>if b=true then te τ1 H5 fun y H6=>H6 acc=some (.lst ys)/\Pv (i+1) (ys ++ [y]) τ1 (upd H6 acc (.lst (ys ++ [y]))) else Pv (i+1) ys τ1 H5)
  (hd:∀ ys τ H,Pv xs.length ys τ H->Q (.ref acc) H) :
  tM (xT K a) n js g ct te acc σ H1 Q:=by
 refine⟨fun i m ys τ H=>m=xs.length - i/\i<=xs.length/\Pv i ys τ H,⟨xs.length,by simp,Nat.zero_le _,h0⟩,?_⟩
 rintro i m ys τ H ⟨rfl,hi,p⟩
 obtain⟨q,q2,q3⟩:=hl i ys τ H hi p
 refine⟨q2,q3,?_⟩
 by_cases hlt:i < xs.length
 ·refine .inr ⟨⟨xs,xs[i],q,by simp [hlt]⟩,Pv (i+1),fun ys' τ' H' p'=>⟨xs.length - (i+1),by omega,rfl,hlt,p'⟩,fun x H' y=>?_⟩
  obtain⟨e,y⟩:=y
  subst e
  exact hs i x ys τ _ (y xs q) p
 ·have e:i=xs.length:=by omega
  subst e
  exact .inl ⟨⟨xs,q,Nat.le_refl _⟩,hd ys τ H p⟩
theorem kY {K:PySem.W.Frag} {a acc:Addr} {xs:List V} {n:Nat} {js:List Nat} {g:TG} {ct:TT} {te:TE} {σ : St} {H1:Hp} {Q:VK} (Pv:Nat->List V->St->Hp->Prop) (h0:Pv 0 [] (kX n js σ) (upd H1 acc (.lst [])))
  (hl:∀ i ys τ H,i<=xs.length->Pv i ys τ H->ay K H a xs/\H acc=some (.lst ys)/\ys.length < sizeLine)
  (hs:∀ i x ys τ H,xs[i]? = some x->Pv i ys τ H->g x τ H fun τ1 H4=>ct τ1 H4 fun b H5=>if b=true then te τ1 H5 fun y H6=>H6 acc=some (.lst ys)/\Pv (i+1) (ys ++ [y]) τ1 (upd H6 acc (.lst (ys ++ [y]))) else Pv (i+1) ys τ1 H5)
  (hd:∀ ys τ H,Pv xs.length ys τ H->Q (.ref acc) H) :
  tM (qu K a) n js g ct te acc σ H1 Q:=by
 refine⟨fun i m ys τ H=>m=xs.length - i/\i<=xs.length/\Pv i ys τ H,⟨xs.length,by simp,Nat.zero_le _,h0⟩,?_⟩
 rintro i m ys τ H ⟨rfl,hi,p⟩
 obtain⟨q,q2,q3⟩:=hl i ys τ H hi p
 refine⟨q2,q3,?_⟩
 by_cases hlt:i < xs.length
 ·refine .inr ⟨⟨xs,xs[i],q,by simp [hlt]⟩,Pv (i+1),fun ys' τ' H' p'=>⟨xs.length - (i+1),by omega,rfl,hlt,p'⟩,fun x H' y=>?_⟩
  obtain⟨e,y⟩:=y
  subst e
  exact hs i x ys τ _ (y xs q) p
 ·have e:i=xs.length:=by omega
  subst e
  exact .inl ⟨⟨xs,q,Nat.le_refl _⟩,hd ys τ H p⟩
section
variable {X:Cx}
end
def z6 (t:TS):TS:=fun D σ H=>∃ M:St->Hp->Prop,t { D with nx:=M } σ H/\∀ σ' H',M σ' H'->D.nx σ' H'
theorem oX {X:Cx} {st:Stmt} {t:TS} (h:PS X st t):PS X st (z6 t):=by
 intro pins s σ H D I q
 obtain⟨M,q,hM⟩:=q
 refine aJ (h pins s σ H _ I q) fun f s' hs=>?_
 cases f with
 | next =>
  obtain⟨σ',H',I',m⟩:=hs
  exact⟨σ',H',I',hM _ _ m⟩
 | brk=>exact hs
 | cont=>exact hs
 | ret u=>exact hs
theorem mB {X:Cx} {K:PySem.W.Frag} {es:List Expr} {k:Nat} {t:m9} {n:Nat} {pos:Pos} (hK:X.K=K) (h:PG X (.Tuple es k pos) (uN X.K n t)):PG X (.Tuple es k pos) (uN K n t):=by
 subst hK
 exact h
mutual
inductive aN (H:Hp):V->PyData->Prop
 | bx:aN H .bx .none
 | bl (b:Bool):aN H (.bl b) (.bool b)
 | int (i:Int):aN H (.int i) (.int i)
 | str (x:Str):aN H (.str x) (.str x)
 | lst {p:Addr} {xs:List V} {ds:List PyData}:H p=some (.lst xs)->aV H xs ds->aN H (.ref p) (.list ds)
 | tup {p:Addr} {xs:List V} {ds:List PyData}:H p=some (.tup xs)->aV H xs ds->aN H (.ref p) (.tuple ds)
inductive aV (H:Hp):List V->List PyData->Prop
 | nil:aV H [] []
 | cons {x:V} {xs:List V} {d:PyData} {ds:List PyData}:aN H x d->aV H xs ds->aV H (x :: xs) (d :: ds)
end
section
variable {P:Program} {w:World} {H:Hp} {h:Heap}
mutual
theorem aN.reads (ok:cQ P w H h):∀ {x:V} {d:PyData} {v:Value},aN H x d->RelV x v->∃ as,Reads h v d as
 | _,_,v,.bx,r=>by
  cases (show v=Value.none from r)
  exact⟨_,.none⟩
 | _,_,v,.bl b,r=>by
  cases (show v=Value.bool b from r)
  exact⟨_,.bool b⟩
 | _,_,v,.int i,r=>by
  obtain⟨t,e⟩:=(show ∃ t,v=Value.int i t from r)
  cases e
  exact⟨_,.int i t⟩
 | _,_,v,.str x,r=>by
  obtain⟨t,e⟩:=(show ∃ t,v=Value.str x t from r)
  cases e
  exact⟨_,.str x t⟩
 | _,_,v,.lst (p:=p) (xs:=xs) e ds,r=>by
  cases (show v=Value.ref p from r)
  obtain⟨_,its,n,rv,h1⟩:=(show bI P w H h p (.lst xs) from ok p _ e)
  obtain⟨as,ra⟩:=aV.reads ok ds rv
  exact⟨_,.list (vs:=its.toArray) h1 rfl rfl (by simpa using ra)⟩
 | _,_,v,.tup (p:=p) (xs:=xs) e ds,r=>by
  cases (show v=Value.ref p from r)
  obtain⟨_,its,rv,o,h1,h2,n,h3⟩:=(show bI P w H h p (.tup xs) from ok p _ e)
  obtain⟨as,ra⟩:=aV.reads ok ds rv
  exact⟨_,.tuple (vs:=its.toArray) h1 h2 h3.1 (by simpa using ra)⟩
theorem aV.reads (ok:cQ P w H h):∀ {xs:List V} {ds:List PyData} {vs:List Value},aV H xs ds->Vals xs vs->∃ as,ReadsAll h vs ds as
 | _,_,_,.nil,.nil=>⟨_,.nil⟩
 | _,_,_,.cons r rs,.cons q qs=>by
  obtain⟨as,ra⟩:=aN.reads ok r q
  obtain⟨bs,rb⟩:=aV.reads ok rs qs
  exact⟨_,.cons ra rb⟩
end
end
section
variable {X:Cx}
end
def one (c:Nat):Str:=⟨#[c]⟩
section
variable {X:Cx}
end
inductive bP where
 | put (x:Str) (n:Int)
 | copy (x y:Str)
 | add (x:Str) (n:Int)
 | read (x:Str)
 | tell (x:Str)
inductive End where
 | stop
 | go (p:Nat)
 | bL (less:Bool) (x:Str) (n:Int) (p q:Nat)
abbrev Piece:=List bP × End
def wT (b:Bool):Str:=if b=true then "less" else "is"
def eF:bP->PyData
 | .put x n=>.tuple [.str "put",.str x,.int n]
 | .copy x y=>.tuple [.str "copy",.str x,.str y]
 | .add x n=>.tuple [.str "add",.str x,.int n]
 | .read x=>.tuple [.str "read",.str x]
 | .tell x=>.tuple [.str "tell",.str x]
def mC:End->PyData
 | .stop=>.tuple [.str "stop"]
 | .go p=>.tuple [.str "go",.int p]
 | .bL b x n p q=>.tuple [.str (wT b),.str x,.int n,.int p,.int q]
def bQ (p:Piece):PyData:=.tuple [.tuple (p.1.map eF),mC p.2]
def fV (ps:List Piece):PyData:=.tuple (ps.map bQ)
structure ir (x:Str):Prop where
 lo:1<=x.length
 hi:x.length<=8
 az:∀ c ∈ x.cps.toList,97<=c/\c<=122
def kZ (n:Int):Prop:=-(10 ^ 40) < n/\n < 10 ^ 40
def iu (xs:List Str):bP->Prop
 | .put x n=>x ∈ xs/\kZ n
 | .copy x y=>x ∈ xs/\y ∈ xs
 | .add x n=>x ∈ xs/\kZ n
 | .read x=>x ∈ xs
 | .tell x=>x ∈ xs
def rO (xs:List Str) (count:Nat):End->Prop
 | .stop=>True
 | .go p=>p < count
 | .bL _ x n p q=>x ∈ xs/\kZ n/\p < count/\q < count
structure dm (xs:List Str) (most:Nat) (ps:List Piece):Prop where
 lg:∀ p ∈ ps,p.1.length<=most/\∀ d ∈ p.1,iu xs d
 ends:∀ p ∈ ps,rO xs ps.length p.2
mutual
def bN:PyData->Bool
 | .list _=>false
 | .tuple xs=>bS xs
 | _=>true
def bS:List PyData->Bool
 | []=>true
 | x :: xs=>bN x && bS xs
end
mutual
theorem aN.aI {H H':Hp} (k:∀ p xs,H p=some (.tup xs)->H' p=some (.tup xs)):∀ {x:V} {d:PyData},aN H x d->bN d=true->aN H' x d
 | _,_,.bx,_=>.bx
 | _,_,.bl b,_=>.bl b
 | _,_,.int i,_=>.int i
 | _,_,.str x,_=>.str x
 | _,_,.lst _ _,h=>nomatch h
 | _,_,.tup e ds,h=>.tup (k _ _ e) (aV.aI k ds h)
theorem aV.aI {H H':Hp} (k:∀ p xs,H p=some (.tup xs)->H' p=some (.tup xs)):∀ {xs:List V} {ds:List PyData},aV H xs ds->bS ds=true->aV H' xs ds
 | _,_,.nil,_=>.nil
 | _,_,.cons r rs,h=>by
  simp only [bS,Bool.and_eq_true] at h
  exact .cons (aN.aI k r h.1) (aV.aI k rs h.2)
end
theorem aN.same {H H':Hp} {x:V} {d:PyData} (r:aN H x d) (f:ah H H') (n:bN d=true):aN H' x d :=
 r.aI (fun p xs e=>f p _ e) n
theorem aV.fix {b:Addr} {H H':Hp} {xs:List V} {ds:List PyData} (r:aV H xs ds) (hb:gZ H b) (f:Fix b H H') (n:bS ds=true):aV H' xs ds :=
 r.aI (fun p xs e=>f p _ e (hb.oV e)) n
theorem aV.same {H H':Hp} {xs:List V} {ds:List PyData} (r:aV H xs ds) (f:ah H H') (n:bS ds=true):aV H' xs ds :=
 r.aI (fun p xs e=>f p _ e) n
theorem aV.put {H:Hp} {xs ys:List V} {ds:List PyData} {l:Addr} {o:HO} (r:aV H xs ds) (hl:H l=some (.lst ys)) (n:bS ds=true):aV (upd H l o) xs ds :=
 r.aI (fun p zs e=>by rw [av (bH e hl (by intro z;cases z))];exact e) n
theorem aV.app {H:Hp} {x:V} {d:PyData}:∀ {xs:List V} {ds:List PyData},aV H xs ds->aN H x d->aV H (xs ++ [x]) (ds ++ [d])
 | _,_,.nil,q=>.cons q .nil
 | _,_,.cons r rs,q=>.cons r (aV.app rs q)
theorem aV.len {H:Hp}:∀ {xs:List V} {ds:List PyData},aV H xs ds->xs.length=ds.length
 | _,_,.nil=>rfl
 | _,_,.cons _ rs=>by simp [aV.len rs]
theorem pZ (d:bP):bN (eF d)=true:=by cases d <;> rfl
theorem rP (e:End):bN (mC e)=true:=by cases e <;> rfl
theorem dI:∀ ds:List bP,bS (ds.map eF)=true
 | []=>rfl
 | d :: ds=>by show (bN (eF d) && bS (ds.map eF))=true;rw [pZ,dI ds];rfl
theorem cE (p:Piece):bN (bQ p)=true:=by
 show (bS (p.1.map eF) && (bN (mC p.2) && true))=true
 rw [dI,rP];rfl
theorem aS:∀ ps:List Piece,bS (ps.map bQ)=true
 | []=>rfl
 | p :: ps=>by show (bN (bQ p) && bS (ps.map bQ))=true;rw [cE,aS ps];rfl
theorem jW (ps:List Piece):bN (fV ps)=true:=aS ps
theorem mD {σ : L2.St} {H:Hp} {Q:Bool->Hp->Prop} (h:Q true H):yr σ H Q:=h
theorem cM {i:Nat} {v:V} {σ : L2.St} {H:Hp} {Q:L2.St->Hp->Prop} (h:Q (σ.set i (some v)) H):kQ i v σ H Q:=h
section
variable {κ : Type} [DecidableEq κ]
def cm (kvs:List (κ × V)) (k:κ):Option V:=(kvs.find? fun kv=>decide (kv.1=k)).map (·.2)
def putK (kvs:List (κ × V)) (k:κ) (v:V):List (κ × V) :=
 if (kvs.any fun kv=>decide (kv.1=k))=true then kvs.map (fun kv=>if kv.1=k then (kv.1,v) else kv) else kvs ++ [(k,v)]
theorem cK {p:κ × V} {r:List (κ × V)} {k:κ} (e:p.1=k):cm (p :: r) k=some p.2:=by simp [cm,List.find?_cons,e]
theorem cL {p:κ × V} {r:List (κ × V)} {k:κ} (e:¬ p.1=k):cm (p :: r) k=cm r k:=by simp [cm,List.find?_cons,e]
theorem iF (k:κ):∀ kvs:List (κ × V),(kvs.any fun kv=>decide (kv.1=k))=(cm kvs k).isSome
 | []=>rfl
 | p :: r=>by
  rw [List.any_cons]
  by_cases e:p.1=k
  ·simp only [cK e,decide_eq_true e,Bool.true_or,Option.isSome_some]
  ·rw [cL e,decide_eq_false e,Bool.false_or];exact iF k r
theorem oY (k j:κ) (y:V):∀ kvs:List (κ × V),cm (kvs.map fun kv=>if kv.1=k then (kv.1,y) else kv) j=(cm kvs j).map fun x=>if j=k then y else x
 | []=>rfl
 | p :: r=>by
  have ih:=oY k j y r
  rw [List.map_cons]
  by_cases h:p.1=k
  ·rw [if_pos h]
   by_cases e:p.1=j
   ·rw [cK (p:=(p.1,y)) e,cK e,Option.map_some,if_pos (e.symm.trans h)]
   ·rw [cL (p:=(p.1,y)) e,cL e,ih]
  ·rw [if_neg h]
   by_cases e:p.1=j
   ·rw [cK (p:=p) e,cK e,Option.map_some,if_neg (fun z=>h (e.trans z))]
   ·rw [cL (p:=p) e,cL e,ih]
theorem nB (k j:κ) (y:V):∀ kvs:List (κ × V),cm kvs k=none->cm (kvs ++ [(k,y)]) j=if j=k then some y else cm kvs j
 | [],_=>by
  by_cases e:k=j
  ·rw [if_pos e.symm];exact cK (p:=(k,y)) e
  ·rw [if_neg (fun z=>e z.symm)];exact cL (p:=(k,y)) e
 | p :: r,hn=>by
  rw [List.cons_append]
  have hk:¬ p.1=k:=fun z=>by rw [cK z] at hn;cases hn
  rw [cL hk] at hn
  have ih:=nB k j y r hn
  by_cases e:p.1=j
  ·rw [cK e,cK e,if_neg (fun z=>hk (e.trans z))]
  ·rw [cL e,cL e,ih]
theorem u9 (kvs:List (κ × V)) (k j:κ) (y:V):cm (putK kvs k y) j=if j=k then some y else cm kvs j:=by
 unfold putK
 by_cases a:(kvs.any fun kv=>decide (kv.1=k))=true
 ·rw [if_pos a,oY]
  rw [iF] at a
  by_cases e:j=k
  ·obtain⟨x,hx⟩:=Option.isSome_iff_exists.mp a
   rw [if_pos e,e,hx,Option.map_some,if_pos rfl]
  ·rw [if_neg e]
   cases cm kvs j with
   | none=>rfl
   | some x=>rw [Option.map_some,if_neg e]
 ·rw [if_neg a]
  refine nB k j y kvs ?_
  rw [iF] at a
  cases q:cm kvs k with
  | none=>rfl
  | some x=>rw [q] at a;exact (a rfl).elim
theorem jX (kvs:List (κ × V)) (k:κ) (v:V):(putK kvs k v).length<=kvs.length+1:=by
 unfold putK
 split
 ·rw [List.length_map];omega
 ·rw [List.length_append,List.length_cons,List.length_nil];omega
theorem dP.tP {o:Option V} {u:Option Value} (r:dP o u):o.isSome=u.isSome:=by
 cases o with
 | none=>cases u with
  | none=>rfl
  | some _=>exact (show False from r).elim
 | some _=>cases u with
  | none=>exact (show False from r).elim
  | some _=>rfl
theorem dP.getD {o:Option V} {u:Option Value} {d:V} {d':Value} (r:dP o u) (rd:RelV d d'):RelV (o.getD d) (u.getD d'):=by
 cases o with
 | none=>cases u with
  | none=>exact rd
  | some _=>exact (show False from r).elim
 | some _=>cases u with
  | none=>exact (show False from r).elim
  | some _=>exact r
theorem KV.val {kvs:List (κ × V)} {vs:List (κ × Value)} (r:KV kvs vs) (k:κ):dP (cm kvs k) (valueAt vs k):=by
 unfold KV at r
 induction r with
 | nil=>exact True.intro
 | @cons p q ps qs h t ih =>
  obtain⟨h1,h2⟩:=h
  by_cases e:p.1=k
  ·have e':q.1=k:=h1.symm.trans e
   have b:valueAt (q :: qs) k=some q.2:=by simp [valueAt,List.find?_cons,e']
   rw [cK e,b];exact h2
  ·have e':¬ q.1=k:=fun z=>e (h1.trans z)
   have b:valueAt (q :: qs) k=valueAt qs k:=by simp [valueAt,List.find?_cons,e']
   rw [cL e,b];exact ih
theorem KV.any {kvs:List (κ × V)} {vs:List (κ × Value)} (r:KV kvs vs) (k:κ):(kvs.any fun kv=>decide (kv.1=k))=vs.any fun kv=>decide (kv.1=k):=by
 unfold KV at r
 induction r with
 | nil=>rfl
 | cons h t ih=>rw [List.any_cons,List.any_cons,ih,h.1]
theorem KV.va {kvs:List (κ × V)} {vs:List (κ × Value)} (r:KV kvs vs) (k:κ) {y:V} {u:Value} (ry:RelV y u) :
  KV (kvs.map fun kv=>if kv.1=k then (kv.1,y) else kv) (vs.map fun kv=>if kv.1=k then (kv.1,u) else kv):=by
 unfold KV at r ⊢
 induction r with
 | nil=>exact .nil
 | @cons p q ps qs h t ih =>
  rw [List.map_cons,List.map_cons]
  refine .cons ?_ ih
  obtain⟨h1,h2⟩:=h
  by_cases e:p.1=k
  ·rw [if_pos e,if_pos (h1.symm.trans e)];exact⟨h1,ry⟩
  ·rw [if_neg e,if_neg (fun z=>e (h1.trans z))];exact⟨h1,h2⟩
theorem KV.put {kvs:List (κ × V)} {vs:List (κ × Value)} (r:KV kvs vs) (k:κ) {y:V} {u:Value} (ry:RelV y u):KV (putK kvs k y) (stored vs k u):=by
 unfold putK stored
 rw [r.any k]
 by_cases e:(vs.any fun kv=>decide (kv.1=k))=true
 ·rw [if_pos e,if_pos e];exact r.va k ry
 ·rw [if_neg e,if_neg e];exact Paired.snoc r ⟨rfl,ry⟩
theorem KV.keys {kvs:List (κ × V)} {vs:List (κ × Value)} (r:KV kvs vs):kvs.map (·.1)=vs.map (·.1):=by
 unfold KV at r
 induction r with
 | nil=>rfl
 | cons h t ih=>rw [List.map_cons,List.map_cons,ih,h.1]
theorem KV.length {kvs:List (κ × V)} {vs:List (κ × Value)} (r:KV kvs vs):kvs.length=vs.length:=Paired.length r
end
theorem lh {P:Program} {w:World} {k:Key} {u:Value} (r:RelV (kV k) u):(aB P w).is k u=true:=by
 cases k with
 | inl i=>obtain⟨t,e⟩:=(show ∃ t,u=Value.int i t from r);subst e;exact jQ P w i t
 | inr x=>obtain⟨t,e⟩:=(show ∃ t,u=Value.str x t from r);subst e;exact jR P w x t
theorem nE {P:Program} {w:World}:∀ {ks:List Key} {us:List Value},Vals (ks.map kV) us->ItemsAre (aB P w) ks us
 | [],_,r=>by rw [List.map_nil] at r;cases r;exact .nil
 | k :: ks,_,r=>by
  rw [List.map_cons] at r
  cases r with
  | cons h t=>exact .cons (lh h) (nE t)
abbrev KT (H:Hp):List (List Key × V)->List (List Key × Addr × Value)->Prop:=Paired fun p q=>p.1=q.1/\H q.2.1=some (.tup (p.1.map kV))/\RelV p.2 q.2.2
theorem KT.val {H:Hp} {kvs:List (List Key × V)} {xs:List (List Key × Addr × Value)} (r:KT H kvs xs) (k:List Key):dP (cm kvs k) ((atKey xs k).map (·.2)):=by
 induction r with
 | nil=>exact True.intro
 | @cons p q ps qs h t ih =>
  obtain⟨h1,_,h2⟩:=h
  by_cases e:p.1=k
  ·have e':q.1=k:=h1.symm.trans e
   have b:atKey (q :: qs) k=some q.2:=by simp [atKey,List.find?_cons,e']
   rw [cK e,b];exact h2
  ·have e':¬ q.1=k:=fun z=>e (h1.trans z)
   have b:atKey (q :: qs) k=atKey qs k:=by simp [atKey,List.find?_cons,e']
   rw [cL e,b];exact ih
theorem KT.va {H:Hp} {kvs:List (List Key × V)} {xs:List (List Key × Addr × Value)} (r:KT H kvs xs) (k:List Key) {y:V} {u:Value} (ry:RelV y u) :
  KT H (kvs.map fun kv=>if kv.1=k then (kv.1,y) else kv) (xs.map (putAt k u)):=by
 induction r with
 | nil=>exact .nil
 | @cons p q ps qs h t ih =>
  rw [List.map_cons,List.map_cons]
  refine .cons ?_ ih
  obtain⟨h1,h2,h3⟩:=h
  unfold putAt
  by_cases e:p.1=k
  ·rw [if_pos e,if_pos (h1.symm.trans e)];exact⟨h1,h2,ry⟩
  ·rw [if_neg e,if_neg (fun z=>e (h1.trans z))];exact⟨h1,h2,h3⟩
theorem KT.put {H:Hp} {kvs:List (List Key × V)} {xs:List (List Key × Addr × Value)} (r:KT H kvs xs) (k:List Key) {b:Addr} {y:V} {u:Value} (hb:H b=some (.tup (k.map kV))) (ry:RelV y u) :
  KT H (putK kvs k y) (storedH xs k b u):=by
 have e:(kvs.any fun kv=>decide (kv.1=k))=(atKey xs k).isSome:=by
  rw [iF,(r.val k).tP,Option.isSome_map]
 unfold putK storedH
 rw [e]
 by_cases q:(atKey xs k).isSome=true
 ·rw [if_pos q,if_pos q];exact r.va k ry
 ·rw [if_neg q,if_neg q];exact Paired.snoc r ⟨rfl,hb,ry⟩
theorem KT.keeps {H H':Hp} {kvs:List (List Key × V)} {xs:List (List Key × Addr × Value)} (r:KT H kvs xs) (ht:∀ b ys,H b=some (.tup ys)->H' b=some (.tup ys)):KT H' kvs xs :=
 Paired.uH r fun _ _ z=>⟨z.1,ht _ _ z.2.1,z.2.2⟩
section
variable {P:Program} {w:World} {H:Hp} {h:Heap} {a:Addr}
theorem wq {u:HO} (ok:cQ P w H h) (e:Rd H a u):bI P w H h a u:=e.ok ok
theorem lj {kvs:List (Key × V)} (ok:cQ P w H h) (e:Rd H a (.dK kvs)):kvs.length<=sizeLine/\(a == sysModules)=false/\∃ vs,KV kvs vs/\h.DictOf (aB P w) a vs :=
 show bI P w H h a (.dK kvs) from wq ok e
theorem wu {kvs:List (Key × V)} (ok:cQ P w H h) (e:H a=some (.dK kvs)):kvs.length<=sizeLine/\(a == sysModules)=false/\∃ vs,KV kvs vs/\h.DictOf (aB P w) a vs:=lj ok (.inl e)
theorem ll {ks:List Key} (ok:cQ P w H h) (e:H a=some (.tup (ks.map kV))):(tupleKind (aB P w)).is h ks a:=by
 obtain⟨_,its,r,o,h1,h2,n,h3⟩:=(show bI P w H h a (.tup (ks.map kV)) from ok a _ e)
 exact⟨o,its.toArray,n,h1,h2,h3.1,by simpa using nE r⟩
theorem lq {kvs:List (List Key × V)} (ok:cQ P w H h) (e:Rd H a (.dT kvs)):kvs.length<=sizeLine/\(a == sysModules)=false /\
  ∃ xs,KT H kvs xs/\h.DictOfH (tupleKind (aB P w)) a xs:=by
 obtain⟨z,y,xs,r,o,es,ep,h1,h2,h3,h4,h5⟩:=(show bI P w H h a (.dT kvs) from wq ok e)
 refine⟨z,y,xs,r,o,es,ep,h1,h2,h3,h4,fun x hx=>?_,h5⟩
 have all:∀ {l:List (List Key × V)} {m:List (List Key × Addr × Value)},KT H l m->∀ x ∈ m,(tupleKind (aB P w)).is h x.1 x.2.1:=by
  intro l m q
  induction q with
  | nil=>intro x hx;exact nomatch hx
  | @cons p q ps qs hq t ih =>
   intro x hx
   rcases List.mem_cons.mp hx with e | hx
   ·subst e
    exact ll ok (by rw [<-hq.1];exact hq.2.1)
   ·exact ih x hx
 exact all r x hx
theorem zf {kvs:List (List Key × V)} (ok:cQ P w H h) (e:H a=some (.dT kvs)):kvs.length<=sizeLine/\(a == sysModules)=false /\
  ∃ xs,KT H kvs xs/\h.DictOfH (tupleKind (aB P w)) a xs:=lq ok (.inl e)
end
def fz (H:Hp) (a:Addr) (y:V) (r:Option V):Prop :=
 (∃ kvs k,Rd H a (.dK kvs)/\y=kV k/\r=cm kvs k)\/∃ kvs k b,Rd H a (.dT kvs)/\y=.ref b/\H b=some (.tup (k.map kV))/\r=cm kvs k
def mE (H:Hp) (a:Addr) (y v:V) (H':Hp):Prop :=
 (∃ kvs k,H a=some (.dK kvs)/\y=kV k/\kvs.length < sizeLine/\H' = upd H a (.dK (putK kvs k v))) \/
 ∃ kvs k b,H a=some (.dT kvs)/\y=.ref b/\H b=some (.tup (k.map kV))/\kvs.length < sizeLine/\H' = upd H a (.dT (putK kvs k v))
theorem fz.k {H:Hp} {a:Addr} {kvs:List (Key × V)} {k:Key} (e:H a=some (.dK kvs)):fz H a (kV k) (cm kvs k):=.inl ⟨kvs,k,.inl e,rfl,rfl⟩
theorem mE.k {H:Hp} {a:Addr} {kvs:List (Key × V)} {k:Key} {v:V} (e:H a=some (.dK kvs)) (hl:kvs.length < sizeLine):mE H a (kV k) v (upd H a (.dK (putK kvs k v))):=.inl ⟨kvs,k,e,rfl,hl,rfl⟩
section
variable {X:Cx} {pins:List (Addr × Obj)} {σ : St} {H:Hp} {s:Shared} {a:Addr} {y v:V} {u r:Value} {o:Option V} {A:Around} {E:Value->Shared->Prop}
theorem Inv.big (I:Inv X pins σ H s):sysModules < s.heap.objs.size:=by
 have h:mainGlobals < s.heap.objs.size:=(I.mod.glob.keeps I.bk).lt
 exact Nat.lt_trans (by decide) h
theorem tQ {Q:Value->Shared->Prop} (hu:A.units+1 < cLine) (I:Inv X pins σ H s) (g:fz H a y (some v)) (ry:RelV y u) (h:∀ w' s',Inv X pins σ H s'->RelV v w'->Q w' s') :
  wpAny (model X.prog X.w) A (getItem (.ref a) u) Q E s:=by
 rcases g with ⟨kvs,k,e,ey,l⟩ | ⟨kvs,k,b,e,ey,eb,l⟩
 ·subst ey
  obtain⟨z,hd,vs,rel,dd⟩:=lj I.aL e
  obtain⟨w',hw,rw'⟩:=dP.some_of (v:=v) (o:=valueAt vs k) (by rw [l];exact rel.val k)
  exact wpAny_getItem_of (lh ry) dd.mapOf hw (h w' _ (I.tok _) rw')
 ·subst ey
  cases (show u=Value.ref b from ry)
  obtain⟨z,hd,xs,rel,dd⟩:=lq I.aL e
  obtain⟨w',hw,rw'⟩:=dP.some_of (v:=v) (o:=(atKey xs k).map (·.2)) (by rw [l];exact rel.val k)
  obtain⟨p,hp,hp2⟩:=Option.map_eq_some_iff.mp hw
  refine wpAny_getItem_heap (tupleKind_room_in1 hu) (ll I.aL eb) dd hp ?_
  rw [hp2]
  exact h w' _ (I.tok _) rw'
theorem qC {h':Heap} {t':Nat} {ob:HO} (I:Inv X pins σ H s) (mu:sT (H a)) (hs:Heap.SameBut a s.heap h') (he:∃ q,h'.get? a=some q) (new:bI X.prog X.w (upd H a ob) h' a ob) :
  Inv X pins σ (upd H a ob) { s with heap:=h',toks:=t' } :=
 I.write (x:=a) (e:=a) mu (.inl rfl) (fun b q hb z=>(hs.2 b hb).trans z) he new
theorem tR {P:Program} {w:World} {H':Hp} {h':Heap} {kvs:List (Key × V)} {vs:List (Key × Value)} (z:kvs.length<=sizeLine) (hd:(a == sysModules)=false) (rel:KV kvs vs) (dd:h'.DictOf (aB P w) a vs) :
  bI P w H' h' a (.dK kvs):=⟨z,hd,vs,rel,dd⟩
theorem tS {H':Hp} {Q:Unit->Shared->Prop} (hu:A.units+1 < cLine) (I:Inv X pins σ H s) (g:mE H a y v H') (ry:RelV y u) (rv:RelV v r) (h:∀ s',Inv X pins σ H' s'->Q () s') :
  wpAny (model X.prog X.w) A (setItem (.ref a) u r) Q E s:=by
 rcases g with ⟨kvs,k,e,ey,l,eH⟩ | ⟨kvs,k,b,e,ey,eb,l,eH⟩
 ·subst ey eH
  obtain⟨z,hd,vs,rel,dd⟩:=wu I.aL e
  have hz:vs.length<=sizeLine:=by rw [<-rel.length];exact z
  have hl:(putK kvs k v).length<=sizeLine:=by have:=jX kvs k v;omega
  refine wpAny_setItem_pairs (hsz:=hz) (lh ry) dd fun h' dd' hs=>h _ ?_
  have he:∃ q,h'.get? a=some q:=let ⟨q,_,_,hq,_⟩:=dd';⟨q,hq⟩
  exact qC I (by rw [e];exact True.intro) hs he (tR hl hd (rel.put k rv) dd')
 ·subst ey eH
  cases (show u=Value.ref b from ry)
  obtain⟨z,hd,xs,rel,dd⟩:=zf I.aL e
  have hz:xs.length<=sizeLine:=by rw [<-Paired.length rel];exact z
  have hl:(putK kvs k v).length<=sizeLine:=by have:=jX kvs k v;omega
  refine wpAny_setItem_heap (hsz:=hz) (tupleKind_room_in1 hu) (ll I.aL eb) dd fun h' dd' hs=>h _ ?_
  obtain⟨q,es,ep,hq,h2,h3,h4,_,h5⟩:=dd'
  refine qC I (by rw [e];exact True.intro) hs ⟨q,hq⟩ ⟨hl,hd,_,(rel.put k eb rv).keeps fun c ys ec=>?_,q,es,ep,hq,h2,h3,h4,h5⟩
  rw [av (bH ec e (fun z=>nomatch z))]
  exact ec
end
section
variable {X:Cx} {pins:List (Addr × Obj)} {σ : St} {H:Hp} {s:Shared} {a:Addr} {kvs:List (Key × V)} {k:Key} {u:Value} {A:Around} {E:Value->Shared->Prop}
end
def rQ (i:Expr):Prop:=∀ ov iv,subscripted i false ov iv=operate [ov,iv] (getItem ov iv)
theorem mF {prog:Program} {w:World} {A:Around} {E:Value->Shared->Prop} {s:Shared} {env:Env} {value slice:Expr} {pos:Pos} {T id:String} {Q:Value->Shared->Prop}
  (hl:typeLookup (.type T) "__getitem__" = pure (some (.builtin id))) (hs:rQ slice)
  (h:wpAny (model prog w) A (eval value env) (fun o s₁=>wpAny (model prog w) A (eval slice env) (fun i s₂=>s₂.TypeIs o T/\wpAny (model prog w) A (getItem o i) Q E s₂) E s₁) E s) :
  wpAny (model prog w) A (eval (.Subscript value slice pos) env) Q E s:=by
 refine Subscript_ (wpAny_mono h (fun o s₁ h₁=>wpAny_mono h₁ (fun i s₂ h₂=>?_) fun _ _ x=>x) fun _ _ x=>x)
 obtain⟨hT,h₂⟩:=h₂
 unfold subscriptTail
 refine wpAny_bind ?_
 rw [getitemInPython_of_ne hT.not_modules]
 refine wpAny_bind (wpAny_specialOf hT hl ?_)
 have fin:wpAny (model prog w) A (subscripted slice false o i) (fun r s₃=>wpAny (model prog w) A (letTemporaryGo value o r >>= fun _=>pure r) Q E s₃) E s₂:=by
  rw [hs o i]
  exact wpAny_operating (wpAny_mono h₂ (fun r s₃ h₃=>wpAny_bind (wpAny_letTemporaryGo (wpAny_pure h₃))) fun _ _ x=>x)
 first
  | exact wpAny_pure (wpAny_bind fin)
  | exact wpAny_bind (wpAny_pure (wpAny_bind fin))
  | exact wpAny_bind fin
theorem p0 {X:Cx} {pins:List (Addr × Obj)} {σ : St} {H:Hp} {s:Shared} {a:Addr} {y:V} {o:Option V} (I:Inv X pins σ H s) (g:fz H a y o):s.TypeIs (.ref a) "dict" := by
 rcases g with ⟨kvs,k,e,_,_⟩ | ⟨kvs,k,b,e,_,_,_⟩
 ·obtain⟨_,_,vs,_,dd⟩:=lj I.aL e
  exact dd.typeIs
 ·obtain⟨_,_,xs,_,dd⟩:=lq I.aL e
  exact dd.typeIs
def zg (td ty:TE):TE:=fun σ H Q=>td σ H fun x H1=>ty σ H1 fun y H2=>∃ a v,x=.ref a/\fz H2 a y (some v)/\Q v H2
def zh (td ty tv:TE):TS:=fun D σ H=>tv σ H fun v H1=>td σ H1 fun x H2=>ty σ H2 fun y H3=>∃ a H4,x=.ref a/\mE H3 a y v H4/\D.nx σ H4
section
variable {X:Cx} {o i e value:Expr} {pos pos' tpos:Pos} {td ty tv:TE}
theorem qD (hu:X.A.units+1 < cLine) (ho:PE X o td) (hi:PE X i ty) (hs:rQ i):PE X (.Subscript o i pos) (zg td ty):=by
 intro pins s σ H Q I h
 refine mF PySem.F.slot_dict_getitem.lookup hs (aJ (ho pins s σ H _ I h) fun u s1 ⟨x,H1,I1,rx,q1⟩=>aJ (hi pins s1 σ H1 _ I1 q1) fun iv s2 ⟨y,H2,I2,ry,a,v,ex,g,q2⟩=>?_)
 subst ex
 obtain rfl:u=Value.ref a:=rx
 exact⟨p0 I2 g,tQ hu I2 g ry fun w' s3 I3 rw'=>⟨v,H2,I3,rw',q2⟩⟩
theorem qE (hu:X.A.units+1 < cLine) (ho:PE X o td) (hi:PE X i ty) (hv:PE X value tv) (hs:swapsWith value (some (.Subscript o i pos')) pos.line X.env=pure false) :
  PS X (.Assign [.Subscript o i pos'] value pos) (zh td ty tv):=by
 intro pins s σ H D I h
 refine wpAny_Assign_Subscript (aJ (hv pins s σ H _ I h) fun r s1 ⟨v,H1,I1,rv,q1⟩=>aJ (ho pins s1 σ H1 _ I1 q1) fun u s2 ⟨x,H2,I2,rx,q2⟩=>aJ (hi pins s2 σ H2 _ I2 q2) fun iv s3 ⟨y,H3,I3,ry,a,H4,ex,g,q3⟩=>?_) hs
 subst ex
 obtain rfl:u=Value.ref a:=rx
 exact tS hu I3 g ry rv fun s4 I4=>⟨σ,H4,I4,q3⟩
end
theorem vb {P:Program} {w:World} {H:Hp} (h:Heap) (hb:sysModules < h.objs.size):bI P w H (h.push { cls:=.type "dict",data:=.dict #[] }) h.objs.size (.dK []) :=
 ⟨Nat.zero_le _,beq_eq_false_iff_ne.mpr (Ne.symm (Nat.ne_of_lt hb)),[],.nil,Heap.DictOf.new h⟩
section
variable {X:Cx} {pos:Pos}
end
def oZ:List (TE × TE)->St->Hp->(List (V × V)->Hp->Prop)->Prop
 | [],_,H,Q=>Q [] H
 | (tk,tv) :: r,σ,H,Q=>tk σ H fun x H1=>tv σ H1 fun y H2=>oZ r σ H2 fun ps H3=>Q ((x,y) :: ps) H3
abbrev VV:List (V × V)->List (Value × Value)->Prop:=Paired fun p q=>RelV p.1 q.1/\RelV p.2 q.2
def wx (X:Cx) (pos:Pos) (keys:List (Option Expr)) (values:List Expr) (trs:List (TE × TE)):Prop :=
 ∀ (pins:List (Addr × Obj)) (s:Shared) (σ : St) (H:Hp) (Q:List (V × V)->Hp->Prop),Inv X pins σ H s->oZ trs σ H Q ->
  wpAny (model X.prog X.w) X.A (evalPairs (pairTrees keys values X.env pos)) (fun vs s'=>∃ ps H',Inv X pins σ H' s'/\VV ps vs/\Q ps H') X.xe s
theorem xg {X:Cx} {pos:Pos}:wx X pos [] [] []:=fun pins s σ H Q I h=>pairTrees_nil_walk ⟨[],H,I,.nil,h⟩
theorem vc {X:Cx} {pos:Pos} {k v:Expr} {ks:List (Option Expr)} {vs:List Expr} {tk tv:TE} {trs:List (TE × TE)} (hk:PE X k tk) (hv:PE X v tv) (hr:wx X pos ks vs trs) :
  wx X pos (some k :: ks) (v :: vs) ((tk,tv) :: trs):=fun pins s σ H Q I h =>
 pairTrees_cons_walk (aJ (hk pins s σ H _ I h) fun u s1 ⟨x,H1,I1,rx,q1⟩=>aJ (hv pins s1 σ H1 _ I1 q1) fun w2 s2 ⟨y,H2,I2,ry,q2⟩ =>
  aJ (hr pins s2 σ H2 _ I2 q2) fun ws s3 ⟨ps,H3,I3,rel,q3⟩=>⟨(x,y) :: ps,H3,I3,.cons ⟨rx,ry⟩ rel,q3⟩)
structure M2 (X:Cx) (o:Expr) (m:Str) (apos:Pos) (e f:Expr) (cpos:Pos):Prop where
 base:attributeBase o m X.env (eval o X.env)=eval o X.env
 cn:((backTo cpos (starEach [e,f] X.env)).all (fun x=>!x.1) && (backToKw cpos (keywordEach [] X.env)).all (fun x=>x.1.isSome)
  && decide (([e,f]:List Expr).length+([]:List Keyword).length+(if ([]:List Keyword).isEmpty then 0 else 1) < 30))=true
 line:(apos.endLine == cpos.line)=true
 trees:backTo cpos (starEach [e,f] X.env) = [(false,eval e X.env),(false,eval f X.env)]
def zx (H:Hp) (a:Addr):Prop:=(∃ kvs,Rd H a (.dK kvs))\/∃ kvs,Rd H a (.dT kvs)
theorem yt {X:Cx} {pins:List (Addr × Obj)} {σ : St} {H:Hp} {s:Shared} {a:Addr} (I:Inv X pins σ H s) (d:zx H a) :
  s.TypeIs (.ref a) "dict" /\ (∀ b,Value.ref a=.ref b->∃ ob,s.heap.get? b=some ob/\ob.dict=none)/\(a == sysModules)=false:=by
 rcases d with ⟨kvs,e⟩ | ⟨kvs,e⟩
 ·obtain⟨_,hd,vs,_,dd⟩:=lj I.aL e
  refine⟨dd.typeIs,fun b q=>?_,hd⟩
  cases q
  obtain⟨ob,_,_,h1,h2,_⟩:=dd
  exact⟨ob,h1,h2.2.1⟩
 ·obtain⟨_,hd,xs,_,dd⟩:=lq I.aL e
  refine⟨dd.typeIs,fun b q=>?_,hd⟩
  cases q
  obtain⟨ob,_,_,h1,h2,_⟩:=dd
  exact⟨ob,h1,h2.2.1⟩
section
variable {X:Cx} {pins:List (Addr × Obj)} {σ : St} {H:Hp} {s:Shared} {a:Addr} {y d:V} {u r:Value} {o:Option V} {A:Around} {E:Value->Shared->Prop}
theorem yu {Q:Value->Shared->Prop} (hu:A.units+1 < cLine) (I:Inv X pins σ H s) (g:fz H a y o) (ry:RelV y u) (rd:RelV d r) (h:∀ w' s',Inv X pins σ H s'->RelV (o.getD d) w'->Q w' s') :
  wpAny (model X.prog X.w) A (call (.builtin "dict.get") [.ref a,u,r]) Q E s:=by
 rcases g with ⟨kvs,k,e,ey,l⟩ | ⟨kvs,k,b,e,ey,eb,l⟩
 ·subst ey
  obtain⟨z,hd,vs,rel,dd⟩:=lj I.aL e
  refine call_meetsIn PySem.F.slot_dict_get dd.typeIs PySem.F.entry_dict_get (PySem.F.args_dict_get_3 _ _ _) (meets_dict_get_default (aB X.prog X.w) a (lh ry) hd r) ⟨_,dd.mapOf,h _ _ (I.tok _) ?_⟩
  rw [l]
  exact (rel.val k).getD rd
 ·subst ey
  cases (show u=Value.ref b from ry)
  obtain⟨z,hd,xs,rel,dd⟩:=lq I.aL e
  refine call_meetsIn PySem.F.slot_dict_get dd.typeIs PySem.F.entry_dict_get (PySem.F.args_dict_get_3 _ _ _) (meetsH_dict_get_default (tupleKind (aB X.prog X.w)) a b hd r) ⟨tupleKind_room_in1 hu,k,xs,ll I.aL eb,dd,h _ _ (I.tok _) ?_⟩
  rw [l]
  exact (rel.val k).getD rd
end
section
variable {X:Cx} {o e f:Expr} {apos cpos:Pos} {td ty tx:TE}
end
section
variable {X:Cx} {pins:List (Addr × Obj)} {σ : St} {H:Hp} {s:Shared} {a:Addr} {kvs:List (Key × V)} {A:Around} {E:Value->Shared->Prop}
end
section
variable {X:Cx} {pins:List (Addr × Obj)} {σ : St} {H:Hp} {s:Shared} {a:Addr} {y:V} {u:Value} {A:Around} {E:Value->Shared->Prop}
end
section
variable {X:Cx}
end
section
variable {κ : Type} [DecidableEq κ]
end
theorem aN.bM {H:Hp} {v:V} {ds:List PyData} (h:aN H v (.tuple ds)):∃ p xs,v=.ref p/\H p=some (.tup xs)/\aV H xs ds:=by
 cases h with
 | tup e r=>exact⟨_,_,rfl,e,r⟩
theorem aN.int_inv {H:Hp} {v:V} {i:Int} (h:aN H v (.int i)):v=.int i:=by cases h;rfl
theorem aN.str_inv {H:Hp} {v:V} {x:Str} (h:aN H v (.str x)):v=.str x:=by cases h;rfl
theorem aV.cons_inv {H:Hp} {xs:List V} {d:PyData} {ds:List PyData} (h:aV H xs (d :: ds)):∃ x r,xs=x :: r/\aN H x d/\aV H r ds:=by
 cases h with
 | cons a b=>exact⟨_,_,rfl,a,b⟩
theorem aV.nil_inv {H:Hp} {xs:List V} (h:aV H xs []):xs = []:=by cases h;rfl
theorem aV.get {H:Hp}:∀ {xs:List V} {ds:List PyData} {i:Nat} {d:PyData},aV H xs ds->ds[i]? = some d->∃ x,xs[i]? = some x/\aN H x d
 | _,_,_,_,.nil,e=>by simp at e
 | _,_,0,_,.cons r _,e=>by
  simp at e
  subst e
  exact⟨_,rfl,r⟩
 | _,_,i+1,d,.cons _ t,e=>by
  obtain⟨x,h1,h2⟩:=aV.get (i:=i) (d:=d) t (by simpa using e)
  exact⟨x,by simpa using h1,h2⟩
def oq:bP->List V
 | .put x n=>[.str "put",.str x,.int n]
 | .copy x y=>[.str "copy",.str x,.str y]
 | .add x n=>[.str "add",.str x,.int n]
 | .read x=>[.str "read",.str x]
 | .tell x=>[.str "tell",.str x]
def de:End->List V
 | .stop=>[.str "stop"]
 | .go p=>[.str "go",.int p]
 | .bL b x n p q=>[.str (wT b),.str x,.int n,.int p,.int q]
theorem qF {H:Hp} {v:V} {d:bP} (h:aN H v (eF d)):∃ p,v=.ref p/\H p=some (.tup (oq d)):=by
  cases d <;> (
    obtain⟨p,xs,rfl,e,r⟩:=aN.bM h
    obtain⟨x1,r1,rfl,h1,r⟩:=r.cons_inv
    obtain⟨x2,r2,rfl,h2,r⟩:=r.cons_inv
    first
      | (obtain⟨x3,r3,rfl,h3,r⟩:=r.cons_inv
         have z:=r.nil_inv
         subst z
         refine⟨p,rfl,?_⟩
         first
           | rw [e,h1.str_inv,h2.str_inv,h3.int_inv];rfl
           | rw [e,h1.str_inv,h2.str_inv,h3.str_inv];rfl)
      | (have z:=r.nil_inv
         subst z
         refine⟨p,rfl,?_⟩
         rw [e,h1.str_inv,h2.str_inv];rfl))
theorem yw {H:Hp} {v:V} {e:End} (h:aN H v (mC e)):∃ p,v=.ref p/\H p=some (.tup (de e)):=by
 cases e with
 | stop =>
  obtain⟨p,xs,rfl,e,r⟩:=aN.bM h
  obtain⟨x1,r1,rfl,h1,r⟩:=r.cons_inv
  have z:=r.nil_inv
  subst z
  exact⟨p,rfl,by rw [e,h1.str_inv];rfl⟩
 | go q =>
  obtain⟨p,xs,rfl,e,r⟩:=aN.bM h
  obtain⟨x1,r1,rfl,h1,r⟩:=r.cons_inv
  obtain⟨x2,r2,rfl,h2,r⟩:=r.cons_inv
  have z:=r.nil_inv
  subst z
  exact⟨p,rfl,by rw [e,h1.str_inv,h2.int_inv];rfl⟩
 | bL b x n q q' =>
  obtain⟨p,xs,rfl,e,r⟩:=aN.bM h
  obtain⟨x1,r1,rfl,h1,r⟩:=r.cons_inv
  obtain⟨x2,r2,rfl,h2,r⟩:=r.cons_inv
  obtain⟨x3,r3,rfl,h3,r⟩:=r.cons_inv
  obtain⟨x4,r4,rfl,h4,r⟩:=r.cons_inv
  obtain⟨x5,r5,rfl,h5,r⟩:=r.cons_inv
  have z:=r.nil_inv
  subst z
  exact⟨p,rfl,by rw [e,h1.str_inv,h2.str_inv,h3.int_inv,h4.int_inv,h5.int_inv];rfl⟩
theorem gJ {H:Hp} {v:V} {ps:List Piece} {i:Nat} {ds:List bP} {e:End} (h:aN H v (fV ps)) (hi:ps[i]? = some (ds,e)) :
  ∃ p xs pc da ea vs,v=.ref p/\H p=some (.tup xs)/\xs.length=ps.length/\xs[i]? = some (.ref pc)/\H pc=some (.tup [.ref da,.ref ea])/\H da=some (.tup vs)/\aV H vs (ds.map eF)/\H ea=some (.tup (de e)):=by
 obtain⟨p,xs,rfl,e1,r⟩:=aN.bM h
 have hl:=r.len
 obtain⟨x,hx,rx⟩:=r.get (i:=i) (d:=bQ (ds,e)) (by rw [List.getElem?_map,hi];rfl)
 obtain⟨pc,ys,rfl,e2,r2⟩:=aN.bM rx
 obtain⟨y1,t1,rfl,q1,r2⟩:=r2.cons_inv
 obtain⟨y2,t2,rfl,q2,r2⟩:=r2.cons_inv
 have z:=r2.nil_inv
 subst z
 obtain⟨da,vs,rfl,e3,r3⟩:=aN.bM q1
 obtain⟨ea,rfl,e4⟩:=yw q2
 exact⟨p,xs,pc,da,ea,vs,rfl,e1,by rw [hl,List.length_map],hx,e2,e3,r3,e4⟩
theorem rR {n:Nat} (h:n<=1000000):n < sizeLine:=Nat.lt_of_le_of_lt h (by decide)
theorem bJ {c:Bool} {A B:Prop} (hc:c=false) (h:B):if c=true then A else B:=by subst hc;exact cC h
theorem cG {c:Bool} {A B:Prop} (hc:c=true) (h:A):if c=true then A else B:=by subst hc;exact cu h
def xh (td ty tx:TE):TE:=fun σ H Q=>td σ H fun x H1=>∃ a,x=.ref a/\zx H1 a/\ty σ H1 fun y H2=>tx σ H2 fun z H3=>∃ o v,fz H3 a y o/\o.getD z=v/\Q v H3
theorem g0 {X:Cx} {o e f:Expr} {apos cpos:Pos} {td ty tx:TE} (hu:X.A.units+1 < cLine) (ho:PE X o td) (he:PE X e ty) (hf:PE X f tx) (m:M2 X o "get" apos e f cpos):PE X (.Call (.Attribute o "get" apos) [e,f] [] cpos) (xh td ty tx):=by
 intro pins s σ H Q I h
 refine wpAny_Call_method m.base m.cn m.line PySem.F.plainAttrs_dict PySem.F.slot_dict_get PySem.F.type_dict_get (aJ (ho pins s σ H _ I h) fun u s1 ⟨x,H1,I1,rx,a,ex,d,q1⟩=>?_)
 subst ex
 obtain rfl:u=Value.ref a:=rx
 obtain⟨t1,t2,_⟩:=yt I1 d
 refine⟨t1,t2,?_⟩
 rw [m.trees]
 refine Calls.callWith_builtin rfl (Calls.evalArgs_plain (Calls.spliced_cons (aJ (he pins s1 σ H1 _ I1 q1) fun iv s2 ⟨y,H2,I2,ry,q2⟩ =>
  Calls.spliced_cons (aJ (hf pins s2 σ H2 _ I2 q2) fun fv s3 ⟨z,H3,I3,rz,ov,v,g,ev,q3⟩=>Calls.spliced_nil ?_))))
 exact yu hu I3 g ry rz fun w' s4 I4 rw'=>⟨v,H3,I4,by rw [<-ev];exact rw',q3⟩
structure RS where
 zi:Nat
 place:Nat
 w:Str->Int
 taken:Nat
 told:List Int
 word:Str
 vd:List Nat
def gK (b:Bool) (u n:Int):Bool:=if b=true then decide (u < n) else decide (u=n)
def DW (kvs:List (Key × V)) (w:Str->Int):Prop:=∀ x:Str,(cm kvs (Sum.inr x:Key)).getD (.int 0)=.int (w x)
def lr (ps:List Piece):Prop:=∀ p ∈ ps,match p.2 with
 | .stop=>True
 | .go q=>q < ps.length
 | .bL _ _ _ q r=>q < ps.length/\r < ps.length
theorem dm.yx {xs:List Str} {m:Nat} {ps:List Piece} (h:dm xs m ps):lr ps:=fun p hp=>by
 have:=h.ends p hp
 cases e:p.2 with
 | stop=>exact True.intro
 | go q=>rw [e] at this;exact this
 | bL b x n q r=>rw [e] at this;exact⟨this.2.2.1,this.2.2.2⟩
def vO:Option Int->V
 | none=>.bx
 | some i=>.int i
def lu:Option Int->Option Int->Prop
 | some a,some b=>a<=b
 | _,_=>True
def bg (n:Int) (lo hi:Option Int):Bool:=(match lo with | none=>true | some a=>decide (a<=n)) && (match hi with | none=>true | some a=>decide (n<=a))
abbrev Rs:=Option (Option Int × Option Int)
def eL (hi:Option Int) (n:Int):Int:=match hi with | none=>n - 1 | some h=>if n - 1 < h then n - 1 else h
def eM (lo:Option Int) (n:Int):Int:=match lo with | none=>n | some l=>if n > l then n else l
def du (lo hi:Option Int) (n:Int):Rs :=
 match lo with | none=>some (none,some (eL hi n)) | some l=>if eL hi n < l then none else some (some l,some (eL hi n))
def d7 (lo hi:Option Int) (n:Int):Rs :=
 match hi with | none=>some (some (eM lo n),none) | some h=>if h < eM lo n then none else some (some (eM lo n),some h)
def lB (lo hi:Option Int) (n:Int):Rs:=if bg n lo hi=true then some (some n,some n) else none
def gM (lo hi:Option Int) (n:Int):Rs:=if lo=some n then (if hi=some n then none else some (some (n+1),hi)) else if hi=some n then some (lo,some (n - 1)) else some (lo,hi)
def g9 (lo hi:Option Int) (n:Int) (side:Bool):Rs:=if side=true then du lo hi n else d7 lo hi n
def qG (lo hi:Option Int) (n:Int) (side:Bool):Rs:=if side=true then lB lo hi n else gM lo hi n
def cO (w:Str) (lo hi:Option Int) (n:Int) (side:Bool):Rs:=if w = "less" then g9 lo hi n side else qG lo hi n side
theorem ve {w:Str} {lo hi:Option Int} {n:Int} (le:lu lo hi) (h1:cO w lo hi n true=none) (h2:cO w lo hi n false=none):False:=by
 unfold cO at h1 h2
 by_cases hw:w = "less"
 ·rw [if_pos hw] at h1 h2
  simp only [g9,if_true,Bool.false_eq_true,if_false] at h1 h2
  unfold du eL at h1
  unfold d7 eM at h2
  cases lo <;> cases hi <;> simp only [reduceCtorEq] at h1 h2
  rename_i l h
  simp only [lu] at le
  by_cases c1:n - 1 < h
  ·simp only [c1,if_true] at h1
   by_cases c2:n - 1 < l
   ·by_cases c3:n > l
    ·simp only [c3,if_true] at h2
     split at h2
     ·omega
     ·cases h2
    ·simp only [c3,if_false] at h2
     split at h2
     ·omega
     ·cases h2
   ·rw [if_neg c2] at h1;cases h1
  ·simp only [c1,if_false] at h1
   split at h1
   ·omega
   ·cases h1
 ·rw [if_neg hw] at h1 h2
  simp only [qG,if_true,Bool.false_eq_true,if_false] at h1 h2
  unfold gM at h2
  by_cases c1:lo=some n
  ·rw [if_pos c1] at h2
   by_cases c2:hi=some n
   ·subst c1;subst c2
    simp [lB,bg] at h1
   ·rw [if_neg c2] at h2;cases h2
  ·rw [if_neg c1] at h2
   split at h2 <;> cases h2
def RV (H:Hp) (v:V) (r:Rs):Prop:=match r with
 | none=>v=.bx
 | some (a,b)=>∃ p,v=.ref p/\H p=some (.tup [vO a,vO b])
theorem RV.same {H H':Hp} {v:V} {r:Rs} (h:RV H v r) (s:ah H H'):RV H' v r:=by
 cases r with
 | none=>exact h
 | some ab =>
  obtain⟨p,e,h⟩:=h
  exact⟨p,e,s _ _ h⟩
theorem RV.put {H:Hp} {v:V} {r:Rs} {l:Addr} {xs:List V} {o:HO} (h:RV H v r) (hl:H l=some (.lst xs)):RV (upd H l o) v r:=by
 cases r with
 | none=>exact h
 | some ab =>
  obtain⟨p,e,h⟩:=h
  exact⟨p,e,by rw [av (bH h hl (by intro z;cases z))];exact h⟩
def dO:Option Int->PyData
 | none=>.none
 | some i=>.int i
theorem yy {H:Hp} (o:Option Int):aN H (vO o) (dO o):=by
 cases o with
 | none=>exact .bx
 | some i=>exact .int i
theorem ah.put {H H':Hp} {l:Addr} {o:HO} (s:ah H H') (n:H l=none):ah H (upd H' l o):=fun c u e=>by rw [av (aC e n)];exact s c u e
theorem tT:decide (V.str "less" = V.str "less")=true:=by decide +kernel
theorem lC {lo:Option Int} {n:Int}:decide (vO lo=V.int n)=decide (lo=some n):=by
 cases lo with
 | none=>rfl
 | some i =>
  by_cases h:i=n
  ·subst h;simp [vO]
  ·have h1:¬ (V.int i=V.int n):=fun z=>h (V.int.inj z)
   have h2:¬ ((some i:Option Int)=some n):=fun z=>h (Option.some.inj z)
   rw [show vO (some i)=V.int i from rfl,decide_eq_false h1,decide_eq_false h2]
theorem jd {lo:Option Int} {n:Int}:xW (vO lo) (V.int n)=true:=by cases lo <;> rfl
structure vf (P:Program) (w:World) (K:PySem.W.Frag) (mg:Str->Option Value) (base:Heap) (C:Addr) (m:Str) (k:Nat) (ps:List Str) (sp:Sp):Prop where
 cl:jV K C
 ex:∃ f fd,br P w K mg base bU k f fd ps sp/\Meth K C m f/\Binds K fd ps []
structure vg (P:Program) (w:World) (K:PySem.W.Frag) (mg:Str->Option Value) (base:Heap) (C:Addr) (x:Str) (k:Nat) (ps:List Str) (sp:Sp):Prop where
 ex:∃ f fd,br P w K mg base bU k f fd ps sp/\Mk K C f/\mg x=some (.ref C)/\Binds K fd ps []
section
variable {X:Cx} {C:Addr} {m x:Str} {k:Nat} {ps:List Str} {sp:Sp} {oe e:Expr} {es:List Expr} {ta:TE} {t:TA} {p pos apos:Pos}
theorem xi {pl:Sem Bool} (o:vf X.prog X.w X.K X.mg X.base C m k ps sp) (he:PE X oe ta) (hr:cg k X.A) (ha:PA X (e :: es) t)
  (hst:starEach (e :: es) X.env=(false,eval e X.env) :: starEach es X.env:=by rfl) (hpl:(backTo pos (starEach es X.env)).any (·.1)=false:=by rfl)
  (ht:eval (.Call (.Attribute oe m apos) (e :: es) [] pos) X.env=(do
   let ov <-eval oe X.env
   standAt apos.atName
   let (f,first) <-holding [ov] (getMethod ov m pl)
   callWith pos f first (backTo pos (starEach (e :: es) X.env)) (backToKw pos (keywordEach [] X.env))):=by rfl) :
  PE X (.Call (.Attribute oe m apos) (e :: es) [] pos) (wg C m sp [] E0 ta t):=by
 obtain⟨f,fd,F,hm,hb⟩:=o.ex
 exact wY he o.cl hm F hr hb .nil rM ha hst hpl ht
theorem xj (o:vg X.prog X.w X.K X.mg X.base C x k ps sp) (hr:cg (k+1) X.A) (hg:Gl X x) (ha:PA X (e :: es) t)
  (hdb:(x == ("__debug__" : Str))=false:=by decide) (he:starEach (e :: es) X.env=(false,eval e X.env) :: starEach es X.env:=by rfl)
  (hpl:(backTo pos (starEach es X.env)).any (·.1)=false:=by rfl):PE X (.Call (.Name x p) (e :: es) [] pos) (wj C sp [] E0 t):=by
 obtain⟨f,fd,F,M,hm,hb⟩:=o.ex
 exact wZ M F hr hg hm hb .nil rM ha hdb he hpl
end
theorem mG:bootBuiltins "dict" = some (.type "dict"):=by decide +kernel
theorem yz {k:Str} {v:V} {l:List (Str × V)}:((k,v) :: l).lookup k=some v:=by simp [List.lookup]
theorem vh {k k':Str} {v:V} {l:List (Str × V)} {o:Option V} (h:¬ k=k') (e:l.lookup k=o):((k',v) :: l).lookup k=o:=by
 rw [List.lookup_cons,beq_false_of_ne h];exact e
theorem z7 {k k':Str} {v u:V} {l l':List (Str × V)} (h:¬ k' = k) (e:cZ k v l=l'):cZ k v ((k',u) :: l)=(k',u) :: l':=by simp only [cZ,if_neg h,e]
theorem yA {k:Str} {v:V}:cZ k v [] = [(k,v)]:=rfl
def Al (a0 a1 a2 a3 a4 a5 a6 a7:V):List (Str × V):=[("pieces",a0),("passed",a1),("place",a2),("worths",a3),("numbers",a4),("taken",a5),("spoken",a6),("over",a7)]
section
variable {a0 a1 a2 a3 a4 a5 a6 a7 z:V}
end
structure cb (C:Addr) (H:Hp) (p pl d nl sl:Addr) (plv:V) (nums:List Int) (S:RS) (m:Nat):Prop where
 ob:∃ dx,H p=some (.ins C dx (Al plv (.ref pl) (.int S.place) (.ref d) (.ref nl) (.int S.taken) (.ref sl) (.bl (decide (S.word = "stop")))))
 Am:H pl=some (.lst (S.vd.map fun k=>V.int (k:Nat)))
 last:∃ xs,S.vd=xs ++ [S.zi]
 dict:∃ kvs,H d=some (.dK kvs)/\DW kvs S.w/\kvs.length<=m
 nums:H nl=some (.lst (nums.map V.int))
 An:H sl=some (.lst (S.told.map V.int))
 ne:pl ≠ nl/\pl ≠ sl/\nl ≠ sl
 cn:S.told.length<=m/\S.vd.length<=m+1
section
variable {C:Addr} {H H':Hp} {p pl d nl sl:Addr} {plv:V} {nums:List Int} {S:RS} {m:Nat}
end
end L2
namespace HT
open PySem PyProof.Rows PySem.Spec
section
variable {prog:Program} {w:World} {A:Around} {E:Value->Shared->Prop} {s:Shared}
theorem jN {t sl:Addr} {items:Array Value} {vl vu:Value} {lo hi:Option Int} {Q:Value->Shared->Prop} (ht:IsTup s.heap t items) (hs:s.heap.IsSliceOf sl vl vu .none) (pl:IsPart vl lo) (pu:IsPart vu hi)
  (hw:bC items.size 0 lo=0/\bC items.size items.size hi=items.size) (h:Q (.ref t) s):wpAny (model prog w) A (getItem (.ref t) (.ref sl)) Q E s:=by
 obtain⟨os,hos,hcs,hds⟩:=id hs
 have hTs:s.TypeIs (.ref sl) "slice" := ⟨os,hos,hcs⟩
 unfold getItem
 try with_reducible refine wpAny_holding ?_
 first | refine wpAny_bind (wpAny_pure ?_) | skip
 refine wpAny_bind (wpAny_sequenceKey ht.typeIs (by decide) ?_)
 refine wpAny_bind (wpAny_callSpecial?_slot (name:=Str.ofString "__getitem__") ht.typeIs PyProof.Rows.slot_tuple_getitem
  (wpAny_call_entry PyProof.Rows.slot_tuple_getitem ht.typeIs entry_tuple_getitem ?_ (args_tuple_getitem _ _)))
 show wpAny _ _ (Builtin.Tuple.tupleItemsOf (.ref t) >>= _) _ _ s
 refine wpAny_bind (tupleItemsOf_ ht ?_)
 refine wpAny_bind (wpAny_typeOf hTs ?_)
 rw [if_pos (by decide)]
 refine wpAny_bind (gF hs pl pu ?_)
 have hno:((((bC items.size 0 lo:Nat):Int) == 0 && (1:Int) == 1 && (bC items.size items.size hi - bC items.size 0 lo) == items.size)=true):=by
  rw [hw.1,hw.2]
  simp
 show wpAny _ _ (if (((bC items.size 0 lo:Nat):Int) == 0 && (1:Int) == 1 && (bC items.size items.size hi - bC items.size 0 lo) == items.size)=true then _ else _) _ _ s
 rw [if_pos hno]
 refine wpAny_bind ?_
 unfold Builtin.Tuple.tupleIsExact
 refine wpAny_bind (wpAny_typeOf ht.typeIs (wpAny_pure ?_))
 rw [if_pos (by decide)]
 refine wpAny_bind (wpAny_rule ?_)
 first
  | exact wpAny_pure ⟨_,rfl,wpAny_pure h⟩
  | exact wpAny_bind (wpAny_pure (wpAny_pure ⟨_,rfl,wpAny_pure h⟩))
  | exact wpAny_pure (wpAny_pure ⟨_,rfl,wpAny_pure h⟩)
end
end HT
namespace L2
open PySem PySem.Spec PyProof.Rows
section
variable {X:Cx}
def wy (K:PySem.W.Frag):V->Option Int->Option Int->Hp->VK->Prop:=fun x lo hi H Q=>∃ a xs,x=.ref a/\ay K H a xs /\
 ((HT.bC xs.length 0 lo=0/\HT.bC xs.length xs.length hi=xs.length)->Q (.ref a) H)/\(¬ (HT.bC xs.length 0 lo=0/\HT.bC xs.length xs.length hi=xs.length)->∀ p,H p=none->Q (.ref p) (upd H p (.tup (ft xs lo hi))))
theorem mH:yd X (wy X.K):=by
 intro pins s σ H x v vl vu lo hi sl Q I rx hs pl pu h
 obtain⟨a,xs,rfl,hx,q1,q2⟩:=h
 by_cases hw:HT.bC xs.length 0 lo=0/\HT.bC xs.length xs.length hi=xs.length
 ·cases rx
  obtain⟨its,r,ht,hz⟩:=I.tuple hx
  have hlen:its.toArray.size=xs.length:=by rw [List.size_toArray];exact r.length.symm
  refine⟨"tuple",_,PyProof.Rows.slot_tuple_getitem.lookup,ht.typeIs,?_⟩
  exact HT.jN ht hs pl pu (by rw [hlen];exact hw) ⟨.ref a,H,I,rfl,q1 hw⟩
 ·exact ye pins s σ H (.ref a) v vl vu lo hi sl Q I rx hs pl pu ⟨a,xs,rfl,hx,hw,q2 hw⟩
end
theorem zy {α : Type} {x y z u v:α} {xs:List α}:gG (x :: y :: z :: u :: v :: xs) 4=some v:=dt (j:=4) rfl
theorem jY {P:Program} {w:World} {x:Str} {v:Value} (h:(aB P w).is (Sum.inr x) v=true):∃ t,v=.str x t:=by
 cases v with
 | str y t =>
  have:y=x:=by simpa [aB,fE,Value.isStrOf] using h
  exact⟨t,by rw [this]⟩
 | _=>simp [aB,fE,Value.isStrOf] at h
theorem lF:∀ {vs:List Value} {ks:List Str},vs.length=ks.length->(∀ (j:Nat) (v:Value) (x:Str),vs[j]? = some v->ks[j]? = some x->∃ t,v=.str x t)->StrsAre vs ks
 | [],[],_,_=>.nil
 | v :: vs,x :: ks,hl,h=>by
  obtain⟨t,rfl⟩:=h 0 v x rfl rfl
  exact .cons x t (lF (by simpa using hl) fun j v' x' h1 h2=>h (j+1) v' x' (by simpa using h1) (by simpa using h2))
 | [],_ :: _,hl,_=>by simp at hl
 | _ :: _,[],hl,_=>by simp at hl
section
variable {prog:Program} {w:World} {A:Around} {E:Value->Shared->Prop} {s:Shared}
open PySem.Calls PySem.W in
theorem gather {T:String} {r d:Addr} {n:Nat} {P:Nat->Value->Prop} {OK:Heap->Prop} {G:List Value->Shared->Prop} (src:KdlSrc prog w T r d n P OK) (calm:A.handled=none) (ok:OK s.heap) (cn:n<=sizeLine)
  (fin:∀ (g:Heap) (tk:Nat) (got:Array Value),(∀ b o,s.heap.get? b=some o->g.get? b=some o)->ItemsOf P got n->s.heap.objs.size<=g.objs.size->G got.toList { s with heap:=g,toks:=tk }) :
  wpAny (model prog w) A (collect (.ref r)) G E s:=by
 obtain⟨lt1,lt2⟩:=src.there _ ok
 unfold collect
 refine wpAny_bind (wpAny_runValue (codeAny_builtin entry_proto_collect' ?_))
 rw [Around.under_plainId PySem.F.plain_proto_collect _]
 show wpAny _ A.in1 (newList [] >>= fun z=>again (.builtin "list.__iadd__" ⟨[z,.ref r],[]⟩)) _ _ s
 refine wpAny_bind (wpAny_newObj_type (wpAny_pure ⟨plainId_quiet PySem.F.plain_list_iadd _,codeAny_builtin entry_list_iadd' ?_⟩))
 rw [Around.under_plainId PySem.F.plain_list_iadd _]
 show wpAny _ A.in1 (Builtin.List.listExtendWith (.ref s.heap.objs.size) (.ref r) (.ref s.heap.objs.size)) _ _ _
 have made:(s.heap.push { cls:=.type "list",data:=.seq ([]:List Value).toArray }).get? s.heap.objs.size=some { cls:=.type "list",data:=.seq #[] }:=Heap.get?_push_size _ rfl
 have run:=kdl_extend (A:=A) (s:={ s with heap:=s.heap.push { cls:=.type "list",data:=.seq ([]:List Value).toArray } })
  (R:=fun (z:Result) (t:Shared)=>∃ (g:Heap) (tk:Nat) (got:Array Value) (c:Nat),z=.ok (.ret (.ref s.heap.objs.size))/\t = { s with heap:=g,toks:=tk } /\
   (∀ b o,s.heap.get? b=some o->g.get? b=some o)/\g.get? s.heap.objs.size=some { cls:=.type "list",dict:=none,data:=.seq got c,slots:=#[] }/\ItemsOf P got n)
  src calm (src.keep _ _ ok fun b _ o e=>Heap.get?_push_of_some _ e) s.heap.objs.size (Nat.ne_of_gt lt1) (Nat.ne_of_gt lt2) (.ref s.heap.objs.size) 0 made
  (fun g tk got c kept at_ its=>⟨g,tk,got,c,rfl,rfl,fun b o e=>kept b o (Nat.ne_of_lt (Heap.lt_size e)) (Heap.get?_push_of_some _ e),at_,its⟩) cn
 refine wpAny_mono run (fun z t x=>?_) fun z t ⟨_,_,_,_,bad,_⟩=>by cases bad
 cases z with
 | done f =>
  obtain⟨g,tk,got,c,e,rfl,kept,at_,its⟩:=x
  cases e
  show wpAny _ A (load s.heap.objs.size >>= _) _ _ _
  exact wpAny_bind (wpAny_load at_ (wpAny_pure (fin g tk got kept its (Nat.le_of_lt (Heap.lt_size at_)))))
 | again more =>
  refine⟨x.1,codeAny_mono x.2 fun z' t' ⟨g,tk,got,c,e1,e2,kept,at_,its⟩=>?_⟩
  subst e1 e2
  show wpAny _ A (load s.heap.objs.size >>= _) _ _ _
  exact wpAny_bind (wpAny_load at_ (wpAny_pure (fin g tk got kept its (Nat.le_of_lt (Heap.lt_size at_)))))
theorem o1 {a:Addr} {kvs:List (Key × Value)} {ks:List Str} {Q:Value->Shared->Prop} (hh:A.handled=none) (lo:(a == sysModules)=false) (dd:s.heap.DictOf (aB prog w) a kvs)
  (hk:kvs.map (·.1)=ks.map Sum.inr) (h64:ks.length < 64)
  (h:∀ (h':Heap) (tk:Nat) (D:Addr) (out:Array Value) (ss':List Str) (e:Nat),(∀ b o,s.heap.get? b=some o->h'.get? b=some o)->s.heap.objs.size<=D->h'.get? D=some { cls:=.type "list",data:=.seq out e } ->
   StrsAre out.toList ss'->ss'.Perm ks->sortedS ss' = true->Q (.ref D) { s with heap:=h',toks:=tk }) :
  wpAny (model prog w) A (call (.builtin "sorted") [.ref a]) Q E s:=by
 refine Calls.call_function_entry kind_sorted plain_sorted entry_sorted (args_sorted1 _) ?_
 unfold Builtin.«sorted»
 refine wpAny_bind (m:=checkCount "sorted" 1 1 _) (wpAny_pure ?_)
 obtain⟨ep,hat⟩:=dd.dictAt
 have hlk:kvs.length=ks.length:=by have:=congrArg List.length hk;simpa using this
 have hs:sizeLine=16777216\/64<=sizeLine:=.inr (by decide)
 have hz:kvs.length<=sizeLine:=by rw [hlk];exact Nat.le_trans (Nat.le_of_lt h64) (by decide)
 refine wpAny_bind (gather (A:=A.in1) (PySem.W.kdl_dict (knd:=aB prog w) (kvs:=kvs) (ep:=ep) lo) hh hat hz fun h' tk acc hkeep hacc hsz=>?_)
 have hl:acc.toList.length=ks.length:=by rw [Array.length_toList,hacc.1,hlk]
 have hS:StrsAre acc.toList ks:=lF hl fun j v x h1 h2=>by
  obtain⟨k,y,e1,e2⟩:=hacc.2 j v (by rw [<-Array.getElem?_toList];exact h1)
  have e3:(kvs.map (·.1))[j]? = some k:=by rw [List.getElem?_map,e1];rfl
  rw [hk,List.getElem?_map,h2] at e3
  cases (Option.some.inj e3)
  exact jY e2
 refine wpAny_bind (wpAny_newList ?_ (by rw [hl];exact Nat.le_trans (Nat.le_of_lt h64) (by decide)))
 have hoL:(h'.push (seqObj "list" acc.toList.toArray 0)).get? h'.objs.size=some (seqObj "list" acc.toList.toArray 0):=Heap.get?_push_size _ rfl
 refine wpAny_bind (wpAny_holding (wpAny_call_entry slot_list_sort ⟨_,hoL,rfl⟩ entry_list_sort (list_sort_treeK strKind_oneLt hoL hS.keysOf (fun v₁ v₂ rest e=>keyKind_strs (by rw [<-e];exact hS)) (by rw [hl];exact h64) fun st' a1 a2=>⟨_,rfl,?_⟩) (args_list_sort _)))
 obtain⟨ss',b1,b2,b3⟩:=sorted_out_str hS a1 a2
 obtain⟨e,he⟩:=sortedHeap_at (out:=(arrOf st').map (·.2)) hoL
 refine wpAny_pure ⟨_,rfl,h _ tk _ _ ss' e (fun b o ho=>?_) hsz he b1 b2 b3⟩
 have h1:=hkeep b o ho
 have hlt:=Heap.lt_size h1
 rw [sortedHeap_old (Nat.ne_of_lt hlt) (by rw [size_push'];exact Nat.lt_succ_of_lt hlt)]
 exact Heap.get?_push_of_some _ h1
end
theorem mI:∀ {us:List Value} {ys:List Str},StrsAre us ys->Vals (ys.map V.str) us
 | _,_,.nil=>.nil
 | _,_,.cons x t r=>.cons ⟨t,rfl⟩ (mI r)
section
variable {X:Cx}
theorem o2 (hc:X.calm=true):dB X (.builtin "sorted") (fun vs H Q=>∃ (a:Addr) (kvs:List (Key × V)) (ks:List Str),vs = [.ref a]/\H a=some (.dK kvs)/\kvs.map (·.1)=ks.map Sum.inr/\ks.length < 64 /\
  ∀ (l:Addr) (ss:List Str),ss.Perm ks->sortedS ss=true->H l=none->Q (.ref l) (upd H l (.lst (ss.map V.str)))):=by
 intro pins s σ H xs us Q I r h
 obtain⟨a,kvs,ks,rfl,ha,hk,h64,q⟩:=h
 obtain⟨u,rfl,ru⟩:=vals1 r
 cases (show u=Value.ref a from ru)
 obtain⟨z,hd,vs,rel,dd⟩:=wu I.aL ha
 refine o1 (I.ok.hd hc) hd dd (by rw [<-rel.keys];exact hk) h64 fun h' tk D out ss' e hkeep hD he hS hp hs=>?_
 have hv:Vals (ss'.map V.str) out.toList:=mI hS
 refine⟨.ref D,_,I.laid (t':=tk) (o:=.lst (ss'.map V.str)) hkeep hD (show bI X.prog X.w _ h' _ (.lst (ss'.map V.str)) from ⟨?_,out.toList,e,hv,by simpa using he⟩),rfl,q D ss' hp hs (I.aL.fresh hD)⟩
 rw [List.length_map,hp.length_eq]
 exact Nat.le_trans (Nat.le_of_lt h64) (by decide)
end
section
variable {X:Cx}
end
theorem sub_len {α : Type} [DecidableEq α]:∀ {l m:List α},l.Nodup->(∀ x ∈ l,x ∈ m)->l.length<=m.length
 | [],_,_,_=>Nat.zero_le _
 | x :: l,m,nd,h=>by
  rw [List.nodup_cons] at nd
  have hx:=h x (List.mem_cons_self ..)
  have h1:=sub_len (l:=l) (m:=m.erase x) nd.2 fun y hy=>(List.mem_erase_of_ne (fun z=>nd.1 (by rw [<-z];exact hy))).mpr (h y (List.mem_cons_of_mem _ hy))
  rw [List.length_erase_of_mem hx] at h1
  have h2:0 < m.length:=List.length_pos_of_mem hx
  show l.length+1<=m.length
  omega
theorem hG:bootBuiltins "sorted" = some (.builtin "sorted"):=PyProof.Rows.boot_sorted
theorem tU {kvs:List (Key × V)} {k:Key} {v:V}:(putK kvs k v).map (·.1)=kvs.map (·.1)/\k ∈ kvs.map (·.1)\/(putK kvs k v).map (·.1)=kvs.map (·.1) ++ [k]/\¬ k ∈ kvs.map (·.1):=by
 unfold putK
 by_cases h:(kvs.any fun kv=>decide (kv.1=k))=true
 ·rw [if_pos h]
  refine .inl ⟨?_,?_⟩
  ·rw [List.map_map]
   refine List.map_congr_left fun p _=>?_
   show (if p.1=k then (p.1,v) else p).1=p.1
   split <;> rfl
  ·obtain⟨p,hp,he⟩:=List.any_eq_true.mp h
   exact List.mem_map.mpr ⟨p,hp,of_decide_eq_true he⟩
 ·rw [if_neg h]
  refine .inr ⟨by rw [List.map_append];rfl,fun hm=>h ?_⟩
  obtain⟨p,hp,he⟩:=List.mem_map.mp hm
  exact List.any_eq_true.mpr ⟨p,hp,decide_eq_true he⟩
def lG:bP->Str
 | .put x _=>x
 | .copy x _=>x
 | .add x _=>x
 | .read x=>x
 | .tell x=>x
theorem vi (dd:bP):gG (oq dd) 1=some (.str (lG dd)):=by cases dd <;> exact gH
theorem iu.name {xs:List Str} {dd:bP} (h:iu xs dd):lG dd ∈ xs:=by
 cases dd with
 | put x n=>exact h.1
 | copy x y=>exact h.1
 | add x n=>exact h.1
 | read x=>exact h
 | tell x=>exact h
section
variable {X:Cx}
end
section
variable {a0 a1 z:V}
end
section
variable {C D:Addr} {H H':Hp} {wp p pl d nl sl:Addr} {plv:V} {nums:List Int} {S:RS} {m:Nat}
theorem cb.keep (A:cb C H p pl d nl sl plv nums S m) (k:∀ c o,H c=some o->(c=p\/c=pl\/c=d\/c=nl\/c=sl)->H' c=some o):cb C H' p pl d nl sl plv nums S m:=by
 obtain⟨⟨dx,h1⟩,h2,h3,⟨kvs,h4,h5⟩,h6,h7,h8,h9⟩:=A
 exact⟨⟨dx,k _ _ h1 (.inl rfl)⟩,k _ _ h2 (.inr (.inl rfl)),h3,⟨kvs,k _ _ h4 (.inr (.inr (.inl rfl))),h5⟩,k _ _ h6 (.inr (.inr (.inr (.inl rfl)))),k _ _ h7 (.inr (.inr (.inr (.inr rfl)))),h8,h9⟩
end
section
variable (C D:Addr)
end
section
variable {C D:Addr} {H H':Hp} {wp p pl d nl sl st d2 tl bl np:Addr} {plv:V} {nums nums':List Int} {S S':RS} {m m':Nat}
end
section
variable (C D:Addr)
end
section
variable {C D:Addr} {H0 H H1 H2:Hp} {wp p pl d nl sl st st' d2 tl bl np b:Addr} {plv:V} {nums more:List Int} {S S':RS} {m m':Nat}
end
section
variable {X:Cx}
def zj:R2:=fun x y H Q=>∃ a b xs ys,x=.ref a/\y=.ref b/\H a=some (.tup xs)/\H b=some (.tup ys)/\xs.length+ys.length<=sizeLine/\∀ t H',H' t=some (.tup (xs++ys))->ah H H'->Q (.ref t) H'
theorem qH:dU X (binaryOp .Add) zj:=by
 intro pins s σ H x y v u Q I rx ry h
 obtain⟨a,b,xs,ys,rfl,rfl,ha,hb,hz,q⟩:=h
 cases rx
 cases ry
 obtain⟨its,r1,p1,_⟩:=I.tuple (ay.of ha)
 obtain⟨its2,r2,p2,_⟩:=I.tuple (ay.of hb)
 by_cases hx:xs = []
 ·subst hx
  have hi:its = []:=r1.mx.mpr rfl
  subst hi
  obtain⟨⟨cls,dd,data,sl⟩,ho,hc,n,hd⟩:=id p1
  obtain⟨⟨cls2,dd2,data2,sl2⟩,ho2,hc2,n2,hd2⟩:=id p2
  simp only at hc hd hc2 hd2
  subst hc hd hc2 hd2
  exact concat_meets ⟨_,ho,rfl⟩ ⟨_,ho2,rfl⟩ noFill_tuple_add seq_tuple_add PySem.F.slot_tuple_add PySem.F.entry_tuple_add (PySem.F.args_tuple_add_2 _ _)
   (tuple_addW0 a b [].toArray its2.toArray n n2 dd dd2 sl sl2 (by simp)) ⟨ho,ho2,⟨.ref b,H,I,rfl,q b H hb (ah.refl H)⟩⟩
 ·refine HT.w4 p1 p2 (fun z=>hx (r1.mx.mp z)) (fun z=>⟨.ref a,H,I,rfl,q a H (by rw [r2.mx.mp z,List.append_nil];exact ha) (ah.refl H)⟩) (fun z=>?_) (by rw [<-r1.length,<-r2.length];exact hz)
  have fr:=I.aL.fresh (a:=s.heap.objs.size) (Nat.le_refl _)
  refine⟨.ref s.heap.objs.size,_,I.laid (t':=s.toks) (o:=.tup (xs++ys)) (fun b ob q=>Heap.get?_push_of_some _ q) (Nat.le_refl _) ?_,rfl,q _ _ ae (ah.new fr)⟩
  exact⟨by rw [List.length_append];exact hz,_,r1.append r2,⟨_,Heap.get?_push_size _ rfl,rfl,_,rfl,rfl⟩⟩
end
section
variable {ps:List Piece} {nums more:List Int} {S S0:RS} {m n:Nat}
end
section
variable {ps:List Piece} {nums more:List Int} {S:RS} {m n:Nat}
end
inductive Call where
 | hand (ns:List Int)
 | go (n:Nat)
structure yB where
 S:RS
 nums:List Int
 m:Nat
structure WA where
 wp:Addr
 p:Addr
 pl:Addr
 d:Addr
 nl:Addr
 sl:Addr
section
variable {C D:Addr} {H H' H0:Hp} {x y:WA} {pv pv':V} {s s':yB} {c:Addr} {o:HO}
end
section
variable (C D:Addr)
end
section
variable {C D:Addr} {H0 H H1:Hp} {w0 w1 w2:WA} {wl cl nb:Addr} {plv ov:V} {x0 x1 x2 x':yB} {n0 n1 n':List Int} {vs:List V} {cs:List Call}
end
section
variable {prog:Program} {w:World} {A:Around} {E:Value->Shared->Prop} {s:Shared}
theorem o3 {j t:Addr} {n:Nat} {its:Array Value} {x:Value} {Q:Value->Shared->Prop} (hj:s.heap.IsTupleIter j t n) (ht:s.heap.IsTuple t its) (hx:its[n]? = some x)
  (hQ:∀ g,g.IsTupleIter j t (n+1)->Heap.SameBut j s.heap g->Q x { s with heap:=g }):wpAny (model prog w) A (Builtin.SmallTypes.nextOf (.ref j)) Q E s:=by
 obtain⟨ob,eo,ec,ed⟩:=id hj
 obtain⟨ot,et,_,k,ek⟩:=ht
 unfold Builtin.SmallTypes.nextOf
 refine wpAny_bind (wpAny_callSpecial?_slot (name:=Str.ofString "__next__") hj.typeIs F.slot_tuple_iterator_next (wpAny_call_entry F.slot_tuple_iterator_next hj.typeIs F.entry_tuple_iterator_next ?_ (F.args_tuple_iterator_next_1 _)))
 show wpAny _ _ (field (.ref j) 0 >>= _) _ _ s
 refine wpAny_bind (wpAny_field eo ed (x:=.ref t) rfl ?_)
 show wpAny _ _ (if (Value.ref t == Value.none)=true then _ else _) _ _ s
 refine (if_neg (c:=(Value.ref t == Value.none)=true) Bool.false_ne_true) ▸ ?_
 show wpAny _ _ (field (.ref j) 1 >>= _) _ _ s
 refine wpAny_bind (wpAny_field eo ed (x:=.int n 0) rfl (wpAny_bind (wpAny_seqItems et ek ?_)))
 simp only [hx,Int.toNat_natCast]
 refine wpAny_bind (wpAny_setField eo ed (by simp) (wpAny_pure ⟨x,rfl,wpAny_pure (hQ _ ⟨_,Heap.get?_update_self _ eo (Obj.isFreed_of_fields (Obj.data_mapFields ed _)),(Obj.cls_mapFields ..).trans ec,?_⟩ (Heap.SameBut.update ..))⟩))
 rw [Obj.data_mapFields ed];simp [rawInt]
theorem qI {j t:Addr} {n:Nat} {its:Array Value} {Q:Value->Shared->Prop} (ha:A.handled=none) (hj:s.heap.IsTupleIter j t n) (ht:s.heap.IsTuple t its) (hx:its[n]? = none)
    (hE:∀ g e,Heap.ExtBut j s.heap g->(∃ o,g.get? e=some o/\o.cls=.type "StopIteration")->E (.ref e) { s with heap:=g }):wpAny (model prog w) A (Builtin.SmallTypes.nextOf (.ref j)) Q E s:=by
  obtain⟨ob,eo,ec,ed⟩:=id hj
  obtain⟨ot,et,_,k,ek⟩:=ht
  unfold Builtin.SmallTypes.nextOf
  refine wpAny_bind (wpAny_callSpecial?_slot (name:=Str.ofString "__next__") hj.typeIs F.slot_tuple_iterator_next (wpAny_call_entry F.slot_tuple_iterator_next hj.typeIs F.entry_tuple_iterator_next ?_ (F.args_tuple_iterator_next_1 _)))
  show wpAny _ _ (field (.ref j) 0 >>= _) _ _ s
  refine wpAny_bind (wpAny_field eo ed (x:=.ref t) rfl ?_)
  show wpAny _ _ (if (Value.ref t == Value.none)=true then _ else _) _ _ s
  refine (if_neg (c:=(Value.ref t == Value.none)=true) Bool.false_ne_true) ▸ ?_
  show wpAny _ _ (field (.ref j) 1 >>= _) _ _ s
  refine wpAny_bind (wpAny_field eo ed (x:=.int n 0) rfl (wpAny_bind (wpAny_seqItems et ek ?_)))
  simp only [hx,Int.toNat_natCast]
  refine wpAny_bind (wpAny_rule (wpAny_bind (wpAny_setField eo ed (by simp) ?_)))
  show wpAny _ _ (newExc (.type "StopIteration") [] >>= fun _=>_) _ _ _
  refine wpAny_bind ?_
  simp only [newTuple,newExc]
  refine wpAny_bind (wpAny_newObj_type (wpAny_bind (m:=firstArgMember _ _) (wpAny_of_eq (a:=Value.none) (by first | rfl | (simp only [firstArgMember];rfl)) (wpAny_newObj_type ?_ (by size_fits)))) (by size_fits))
  simp only [raiseNew]
  refine wpAny_bind (wpAny_handled (by
    first | rw [show A.in1.handled=none from ha] | rw [ha]
    exact wpAny_bind (wpAny_pure (wpAny_throw (hE _ _ (((Heap.SameBut.update ..).extBut.push _).push _) ⟨_,Heap.get?_push_size _ rfl,rfl⟩)))))
structure qJ (z p q j k a b:Addr):Prop where
 pz:p ≠ z
 qz:q ≠ z
 jz:j ≠ z
 kz:k ≠ z
 pq:p ≠ q
 pj:p ≠ j
 pk:p ≠ k
 qj:q ≠ j
 qk:q ≠ k
 jk:j ≠ k
 az:a ≠ z
 aq:a ≠ q
 aj:a ≠ j
 ak:a ≠ k
 bz:b ≠ z
 bq:b ≠ q
 bj:b ≠ j
 bk:b ≠ k
theorem gf {h g:Heap} {a:Addr} {xs:Array Value} (x:h.IsTuple a xs) (k:∀ o,h.get? a=some o->g.get? a=some o):g.IsTuple a xs:=by
 obtain⟨o,e,r⟩:=x
 exact⟨o,k o e,r⟩
theorem xk {z p q j k a b:Addr} {m n:Nat} {xs ys:Array Value} {x y u v:Value} {Q:Value->Shared->Prop} (D:qJ z p q j k a b)
  (gz:IsZip s.heap z p q .none) (gp:IsPair s.heap p (.ref j) (.ref k)) (gq:IsPair s.heap q u v)
  (gj:s.heap.IsTupleIter j a m) (gk:s.heap.IsTupleIter k b n) (ga:s.heap.IsTuple a xs) (gb:s.heap.IsTuple b ys) (hx:xs[m]? = some x) (hy:ys[n]? = some y)
  (hQ:∀ g,IsZip g z p q (rawInt s.heap.objs.size)->IsPair g q x y->g.IsTupleIter j a (m+1)->g.IsTupleIter k b (n+1)->IsPair g s.heap.objs.size x y->g.objs.size=s.heap.objs.size+1 ->
   (∀ c o,c ≠ z->c ≠ q->c ≠ j->c ≠ k->s.heap.get? c=some o->g.get? c=some o)->Q (.ref s.heap.objs.size) { s with heap:=g }) :
  wpAny (model prog w) A (Builtin.«zip.__next__» ⟨[.ref z],[]⟩) (fun fin s'=>∃ v,fin=.done (.ret v)/\Q v s') E s:=by
 show wpAny _ _ (field (.ref z) 2 >>= fun _=>_) _ _ _
 refine wpAny_bind (wpAny_field gz rfl (x:=.bool false) rfl ?_)
 show wpAny _ _ (field (.ref z) 3 >>= fun _=>_) _ _ _
 refine wpAny_bind (wpAny_field gz rfl (x:=.ref p) rfl (wpAny_bind (wpAny_seqItems gp rfl ?_)))
 show wpAny _ _ (Builtin.SmallTypes.ownedTupleIsFree (.ref z) >>= fun _=>_) _ _ _
 refine wpAny_bind ?_
 unfold Builtin.SmallTypes.ownedTupleIsFree
 refine wpAny_bind (wpAny_field gz rfl (x:=.none) rfl (wpAny_pure ?_))
 simp only [if_true]
 refine wpAny_bind (wpAny_rule (wpAny_bind (wpAny_field gz rfl (x:=.ref q) rfl (wpAny_bind (wpAny_setField_rec gz (by simp) fun g1 gz1 t1=>?_)))))
 replace gz1:IsZip g1 z p q .ellipsis:=gz1
 refine wpAny_bind ?_
 simp only [List.forIn_cons,List.forIn_nil,List.zipIdx_cons,List.zipIdx_nil]
 refine wpAny_bind (wpAny_bind (wpAny_onRaise ?_))
 show wpAny _ _ (Builtin.SmallTypes.nextOf (.ref j) >>= fun _=>_) _ _ _
 refine wpAny_bind (o3 (gj.extBut t1.extBut D.jz) (gf ga fun o e=>t1.extBut _ _ D.az e) hx fun g2 gj2 t2=>wpAny_pure ?_)
 have gq2:IsPair g2 q u v:=t2.extBut _ _ D.qj (t1.extBut _ _ D.qz gq)
 refine wpAny_bind (wpAny_seqItems gq2 rfl (wpAny_bind (wpAny_updateSeq_pair gq2 fun g3 gq3 t3=>?_)))
 replace gq3:IsPair g3 q x v:=gq3
 refine wpAny_bind (wpAny_letGo (wpAny_pure (wpAny_bind (wpAny_bind (wpAny_onRaise ?_)))))
 show wpAny _ _ (Builtin.SmallTypes.nextOf (.ref k) >>= fun _=>_) _ _ _
 refine wpAny_bind (o3 (((gk.extBut t1.extBut D.kz).extBut t2.extBut D.jk.symm).extBut t3.extBut D.qk.symm) (gf gb fun o e=>t3.extBut _ _ D.bq (t2.extBut _ _ D.bj (t1.extBut _ _ D.bz e))) hy fun g4 gk4 t4=>wpAny_pure ?_)
 have gq4:IsPair g4 q x v:=t4.extBut _ _ D.qk gq3
 refine wpAny_bind (wpAny_seqItems gq4 rfl (wpAny_bind (wpAny_updateSeq_pair gq4 fun g5 gq5 t5=>?_)))
 replace gq5:IsPair g5 q x y:=gq5
 refine wpAny_bind (wpAny_letGo (wpAny_pure (wpAny_pure (wpAny_bind (wpAny_seqItems gq5 rfl (wpAny_bind (wpAny_newTuple ?_)))))))
 have ez:g5.objs.size=s.heap.objs.size:=by rw [t5.1,t4.1,t3.1,t2.1,t1.1]
 have gz5:IsZip g5 z p q .ellipsis:=t5.extBut _ _ D.qz.symm (t4.extBut _ _ D.kz.symm (t3.extBut _ _ D.qz.symm (t2.extBut _ _ D.jz.symm gz1)))
 have k5:∀ c o,c ≠ z->c ≠ q->c ≠ j->c ≠ k->s.heap.get? c=some o->g5.get? c=some o:=fun c o c1 c2 c3 c4 e=>t5.extBut _ _ c2 (t4.extBut _ _ c4 (t3.extBut _ _ c2 (t2.extBut _ _ c3 (t1.extBut _ _ c1 e))))
 have gj5:g5.IsTupleIter j a (m+1):=((gj2.extBut t3.extBut D.qj.symm).extBut t4.extBut D.jk).extBut t5.extBut D.qj.symm
 have gk5:g5.IsTupleIter k b (n+1):=gk4.extBut t5.extBut D.qk.symm
 have lz:z < g5.objs.size:=Heap.lt_size gz5
 show wpAny _ _ (Builtin.SmallTypes.ownedTupleHandOut (.ref z) (.ref g5.objs.size) >>= fun _=>_) _ _ _
 refine wpAny_bind ?_
 unfold Builtin.SmallTypes.ownedTupleHandOut
 have gz6:IsZip (g5.push { cls:=.type "tuple",data:=.seq #[x,y] }) z p q .ellipsis:=Heap.get?_push_of_some _ gz5
 refine wpAny_bind (wpAny_setField_rec gz6 (by simp) fun g7 gz7 t7=>?_)
 replace gz7:IsZip g7 z p q (rawInt g5.objs.size):=gz7
 refine wpAny_setField_rec gz7 (by simp) fun g8 gz8 t8=>?_
 replace gz8:IsZip g8 z p q (rawInt g5.objs.size):=gz8
 have up:∀ c o,c ≠ z->g5.get? c=some o->g8.get? c=some o:=fun c o c1 e=>t8.extBut _ _ c1 (t7.extBut _ _ c1 (Heap.get?_push_of_some _ e))
 have gT:IsPair g8 g5.objs.size x y:=t8.extBut _ _ (Nat.ne_of_gt lz) (t7.extBut _ _ (Nat.ne_of_gt lz) (Heap.get?_push_size _ rfl))
 have e8:g8.objs.size=g5.objs.size+1:=by rw [t8.1,t7.1,Heap.size_push]
 rw [ez] at gz8 gT e8
 refine wpAny_pure ⟨_,rfl,?_⟩
 show Q (.ref g5.objs.size) _
 rw [ez]
 refine hQ g8 gz8 (up _ _ D.qz gq5) ?_ ?_ gT e8 fun c o c1 c2 c3 c4 e=>up c o c1 (k5 c o c1 c2 c3 c4 e)
 ·obtain⟨o,e,r⟩:=gj5
  exact⟨o,up _ _ D.jz e,r⟩
 ·obtain⟨o,e,r⟩:=gk5
  exact⟨o,up _ _ D.kz e,r⟩
theorem yC {z p q j k a b:Addr} {m n:Nat} {xs ys:Array Value} {u v:Value} {Q:Fin->Shared->Prop} (ha:A.handled=none) (D:qJ z p q j k a b)
  (gz:IsZip s.heap z p q .none) (gp:IsPair s.heap p (.ref j) (.ref k)) (gq:IsPair s.heap q u v)
  (gj:s.heap.IsTupleIter j a m) (gk:s.heap.IsTupleIter k b n) (ga:s.heap.IsTuple a xs) (gb:s.heap.IsTuple b ys) (hend:xs[m]? = none\/ys[n]? = none)
  (hE:∀ g e,(∀ c o,c ≠ z->c ≠ q->c ≠ j->c ≠ k->s.heap.get? c=some o->g.get? c=some o)->(∃ o,g.get? e=some o/\o.cls=.type "StopIteration")->E (.ref e) { s with heap:=g }) :
  wpAny (model prog w) A (Builtin.«zip.__next__» ⟨[.ref z],[]⟩) Q E s:=by
 show wpAny _ _ (field (.ref z) 2 >>= fun _=>_) _ _ _
 refine wpAny_bind (wpAny_field gz rfl (x:=.bool false) rfl ?_)
 show wpAny _ _ (field (.ref z) 3 >>= fun _=>_) _ _ _
 refine wpAny_bind (wpAny_field gz rfl (x:=.ref p) rfl (wpAny_bind (wpAny_seqItems gp rfl ?_)))
 show wpAny _ _ (Builtin.SmallTypes.ownedTupleIsFree (.ref z) >>= fun _=>_) _ _ _
 refine wpAny_bind ?_
 unfold Builtin.SmallTypes.ownedTupleIsFree
 refine wpAny_bind (wpAny_field gz rfl (x:=.none) rfl (wpAny_pure ?_))
 simp only [if_true]
 refine wpAny_bind (wpAny_rule (wpAny_bind (wpAny_field gz rfl (x:=.ref q) rfl (wpAny_bind (wpAny_setField_rec gz (by simp) fun g1 gz1 t1=>?_)))))
 replace gz1:IsZip g1 z p q .ellipsis:=gz1
 refine wpAny_bind ?_
 simp only [List.forIn_cons,List.forIn_nil,List.zipIdx_cons,List.zipIdx_nil]
 refine wpAny_bind (wpAny_bind (wpAny_onRaise ?_))
 show wpAny _ _ (Builtin.SmallTypes.nextOf (.ref j) >>= fun _=>_) _ _ _
 cases hx:xs[m]? with
 | none =>
  refine wpAny_bind (qI ha (gj.extBut t1.extBut D.jz) (gf ga fun o e=>t1.extBut _ _ D.az e) hx fun g2 e t2 he=>?_)
  obtain⟨oe,eoe,ce⟩:=he
  have gz2:IsZip g2 z p q .ellipsis:=t2 _ _ D.jz.symm gz1
  have ne:e ≠ z:=fun x=>by subst x;rw [gz2] at eoe;cases eoe;simp at ce
  exact wpAny_setField_rec gz2 (by simp) fun g3 _ t3=>hE g3 e (fun c o c1 _ c3 _ x=>t3.extBut _ _ c1 (t2 _ _ c3 (t1.extBut _ _ c1 x))) ⟨oe,t3.extBut _ _ ne eoe,ce⟩
 | some x =>
  have hy:ys[n]? = none:=hend.elim (fun h=>by rw [hx] at h;cases h) id
  refine wpAny_bind (o3 (gj.extBut t1.extBut D.jz) (gf ga fun o e=>t1.extBut _ _ D.az e) hx fun g2 gj2 t2=>wpAny_pure ?_)
  have gq2:IsPair g2 q u v:=t2.extBut _ _ D.qj (t1.extBut _ _ D.qz gq)
  refine wpAny_bind (wpAny_seqItems gq2 rfl (wpAny_bind (wpAny_updateSeq_pair gq2 fun g3 gq3 t3=>?_)))
  refine wpAny_bind (wpAny_letGo (wpAny_pure (wpAny_bind (wpAny_bind (wpAny_onRaise ?_)))))
  show wpAny _ _ (Builtin.SmallTypes.nextOf (.ref k) >>= fun _=>_) _ _ _
  refine wpAny_bind (qI ha (((gk.extBut t1.extBut D.kz).extBut t2.extBut D.jk.symm).extBut t3.extBut D.qk.symm) (gf gb fun o e=>t3.extBut _ _ D.bq (t2.extBut _ _ D.bj (t1.extBut _ _ D.bz e))) hy fun g4 e t4 he=>?_)
  obtain⟨oe,eoe,ce⟩:=he
  have gz4:IsZip g4 z p q .ellipsis:=t4 _ _ D.kz.symm (t3.extBut _ _ D.qz.symm (t2.extBut _ _ D.jz.symm gz1))
  have ne:e ≠ z:=fun x=>by subst x;rw [gz4] at eoe;cases eoe;simp at ce
  exact wpAny_setField_rec gz4 (by simp) fun g5 _ t5=>hE g5 e (fun c o c1 c2 c3 c4 x=>t5.extBut _ _ c1 (t4 _ _ c4 (t3.extBut _ _ c2 (t2.extBut _ _ c3 (t1.extBut _ _ c1 x))))) ⟨oe,t5.extBut _ _ ne eoe,ce⟩
theorem xl {z p q j k a b:Addr} {m n:Nat} {xs ys:Array Value} {x y u v:Value} {Q:Option Value->Shared->Prop} (D:qJ z p q j k a b)
  (gz:IsZip s.heap z p q .none) (gp:IsPair s.heap p (.ref j) (.ref k)) (gq:IsPair s.heap q u v)
  (gj:s.heap.IsTupleIter j a m) (gk:s.heap.IsTupleIter k b n) (ga:s.heap.IsTuple a xs) (gb:s.heap.IsTuple b ys) (hx:xs[m]? = some x) (hy:ys[n]? = some y)
  (hQ:∀ g,IsZip g z p q (rawInt s.heap.objs.size)->IsPair g q x y->g.IsTupleIter j a (m+1)->g.IsTupleIter k b (n+1)->IsPair g s.heap.objs.size x y->g.objs.size=s.heap.objs.size+1 ->
   (∀ c o,c ≠ z->c ≠ q->c ≠ j->c ≠ k->s.heap.get? c=some o->g.get? c=some o)->Q (some (.ref s.heap.objs.size)) { s with heap:=g }) :
  wpAny (model prog w) A (pyNext (.ref z)) Q E s:=by
 have ty:s.TypeIs (.ref z) "zip" := ⟨_,gz,rfl⟩
 unfold pyNext
 exact wpAny_bind (wpAny_attempt (wpAny_callSpecial?_slot (name:=Str.ofString "__next__") ty F.slot_zip_next (wpAny_call_entry F.slot_zip_next ty F.entry_zip_next
   (xk D gz gp gq gj gk ga gb hx hy fun g a1 a2 a3 a4 a5 a6 a7=>wpAny_pure (hQ g a1 a2 a3 a4 a5 a6 a7)) (F.args_zip_next_1 _))))
theorem xm {z p q j k a b:Addr} {m n:Nat} {xs ys:Array Value} {u v:Value} {Q:Option Value->Shared->Prop} (ha:A.handled=none) (D:qJ z p q j k a b)
  (gz:IsZip s.heap z p q .none) (gp:IsPair s.heap p (.ref j) (.ref k)) (gq:IsPair s.heap q u v)
  (gj:s.heap.IsTupleIter j a m) (gk:s.heap.IsTupleIter k b n) (ga:s.heap.IsTuple a xs) (gb:s.heap.IsTuple b ys) (hend:xs[m]? = none\/ys[n]? = none)
  (hQ:∀ g,(∀ c o,c ≠ z->c ≠ q->c ≠ j->c ≠ k->s.heap.get? c=some o->g.get? c=some o)->Q none { s with heap:=g }):wpAny (model prog w) A (pyNext (.ref z)) Q E s:=by
 have ty:s.TypeIs (.ref z) "zip" := ⟨_,gz,rfl⟩
 unfold pyNext
 refine wpAny_bind (wpAny_attempt (wpAny_callSpecial?_slot (name:=Str.ofString "__next__") ty F.slot_zip_next (wpAny_call_entry F.slot_zip_next ty F.entry_zip_next
   (yC ha D gz gp gq gj gk ga gb hend fun g e hk he=>?_) (F.args_zip_next_1 _))))
 obtain⟨o,eo,ec⟩:=he
 exact wpAny_bind (wpAny_isInstance (T := "StopIteration") (b:=true) ⟨o,eo,ec⟩ isSubtype_stop (wpAny_pure (hQ _ hk)))
abbrev tV (h:Heap) (a:Addr):Heap:=h.push { cls:=.type "tuple_iterator",data:=.fields #[.ref a,.int 0 0] }
abbrev wz (h:Heap) (a b:Addr):Heap:=(tV h a).push { cls:=.type "tuple_iterator",data:=.fields #[.ref b,.int 0 0] }
abbrev wA (h:Heap) (a b:Addr):Heap:=(wz h a b).push { cls:=.type "tuple",data:=.seq #[.ref h.objs.size,.ref (tV h a).objs.size] }
abbrev wB (h:Heap) (a b:Addr):Heap:=(wA h a b).push { cls:=.type "tuple",data:=.seq #[.none,.none] }
abbrev qK (h:Heap) (a b:Addr):Heap:=(wB h a b).push { cls:=.type "zip",data:=.fields #[.none,.bool false,.bool false,.ref (wz h a b).objs.size,.ref (wA h a b).objs.size] }
theorem yD (a b:Addr) (xs ys:Array Value):Meets (Builtin.«zip.__new__» ⟨[.type "zip",.ref a,.ref b],[]⟩) (fun _ R s=>s.heap.IsTuple a xs/\s.heap.IsTuple b ys /\
   R (.ok (.ret (.ref (wB s.heap a b).objs.size))) { s with heap:=qK s.heap a b }) :=
 .of_wp fun P w' A' R' s' hh=>by
  obtain⟨hp,g,d,tk,os⟩:=s'
  obtain⟨ga,gb,hh⟩:=hh
  have hsub:=sub_zip
  have la:Heap.IsTuple (Shared.heap ⟨hp,g,d,tk,os⟩) a xs:=ga
  have lb:Heap.IsTuple (Shared.heap ⟨tV hp a,g,d,tk,os⟩) b ys:=gf gb fun o e=>Heap.get?_push_of_some _ e
  wp_walk using wpAny_pyIter_tuple la,wpAny_pyIter_tuple lb
  exact⟨_,rfl,hh⟩
theorem xn {a b:Addr} {xs ys:Array Value} {Q:Value->Shared->Prop} (ga:s.heap.IsTuple a xs) (gb:s.heap.IsTuple b ys)
  (h:∀ g,IsZip g (s.heap.objs.size+4) (s.heap.objs.size+2) (s.heap.objs.size+3) .none->IsPair g (s.heap.objs.size+2) (.ref s.heap.objs.size) (.ref (s.heap.objs.size+1)) ->
   IsPair g (s.heap.objs.size+3) .none .none->g.IsTupleIter s.heap.objs.size a 0->g.IsTupleIter (s.heap.objs.size+1) b 0 ->
   (∀ c o,s.heap.get? c=some o->g.get? c=some o)->Q (.ref (s.heap.objs.size+4)) { s with heap:=g }) :
  wpAny (model prog w) A (call (.type "zip") [.ref a,.ref b]) Q E s:=by
 refine callType_new F.called_zip (by decide) (F.typeCall_zip_2 _ _) (F.newCall_zip_2 _ _) (fun obj=>F.args_object_init_3 obj _ _) F.entry_zip_new (yD a b xs ys) ⟨ga,gb,?_⟩
 have z1:(tV s.heap a).objs.size=s.heap.objs.size+1:=Heap.size_push ..
 have z2:(wz s.heap a b).objs.size=s.heap.objs.size+2:=by rw [Heap.size_push,z1]
 have z3:(wA s.heap a b).objs.size=s.heap.objs.size+3:=by rw [Heap.size_push,z2]
 have z4:(wB s.heap a b).objs.size=s.heap.objs.size+4:=by rw [Heap.size_push,z3]
 have up:∀ {h:Heap} {c:Addr} {o o':Obj},h.get? c=some o->(h.push o').get? c=some o:=fun e=>Heap.get?_push_of_some _ e
 have q5:(qK s.heap a b).get? (wB s.heap a b).objs.size=some _:=Heap.get?_push_size _ rfl
 have q4:(qK s.heap a b).get? (wA s.heap a b).objs.size=some _:=up (Heap.get?_push_size _ rfl)
 have q3:(qK s.heap a b).get? (wz s.heap a b).objs.size=some _:=up (up (Heap.get?_push_size _ rfl))
 have q2:(qK s.heap a b).get? (tV s.heap a).objs.size=some _:=up (up (up (Heap.get?_push_size _ rfl)))
 have q1:(qK s.heap a b).get? s.heap.objs.size=some _:=up (up (up (up (Heap.get?_push_size _ rfl))))
 show _/\_
 rw [z2,z3,z4] at q5
 rw [z1,z2] at q3
 rw [z3] at q4
 rw [z1] at q2
 rw [z4]
 exact⟨⟨_,q5,rfl⟩,h _ q5 q3 q4 ⟨_,q1,rfl,rfl⟩ ⟨_,q2,rfl,rfl⟩ fun c o x=>up (up (up (up (up x))))⟩
end
section
variable {X:Cx} {pins:List (Addr × Obj)} {σ : List (Option V)} {H H':Hp} {s:Shared} {h':Heap}
theorem Inv.qL {t':Nat} {fp:List Addr} (I:Inv X pins σ H s) (k:∀ b o,b ∉ fp->s.heap.get? b=some o->h'.get? b=some o) (f:∀ b ∈ fp,gx X pins H b):Inv X pins σ H { s with heap:=h',toks:=t' }:=by
 have nit:∀ b u,H b=some u->b ∉ fp:=fun b u e z=>by rw [(f b z).1] at e;cases e
 refine I.step (g':=s.gens) (d':=s.drawn) (ch:=fp) (fun b hb=>?_) (fun b o _ _ hc e _=>k b o hc e) (fun b o _ _ hc e _=>⟨o.slots,k b o hc e⟩) (fun _ _ _ _ n=>n)
  (fun b o hc e=>⟨o,k b o hc e⟩) (fun _ _ e=>e) (fun _ _ _ e=>e) (fun b ps e=>⟨#[],by rw [e];simp⟩) (fun m hm=>?_) (fun b u e=>?_) I.bare
 ·obtain⟨f0,f1,f2,f3,f4,f5⟩:=f b hb
  exact⟨f3,f1,f4,f5⟩
 ·obtain⟨o,es,ep,ho,r⟩:=hm
  exact⟨o,es,ep,k _ o (fun z=>(f _ z).2.1 rfl) ho,r⟩
 ·refine (I.aL b u e).mh (fun c v hc q=>k c v ?_ q) (fun _ q=>q) fun _ _ q=>q
  rcases hc with z | z
  ·rw [z];exact nit b u e
  ·exact nit c _ z
def wC (K:PySem.W.Frag) (a b:Addr):It :=
 ⟨fun i H=>∃ xs ys x y,ay K H a xs/\ay K H b ys/\xs[i]? = some x/\ys[i]? = some y,
  fun i H v H'=>∃ t x y,v=.ref t/\H t=none/\H' = upd H t (.tup [x,y])/\∀ xs ys,ay K H a xs->ay K H b ys->xs[i]? = some x/\ys[i]? = some y,
  fun i H=>∃ xs ys,ay K H a xs/\ay K H b ys/\(xs.length<=i\/ys.length<=i)⟩
theorem vj {P:Program} {w:World} {K:PySem.W.Frag} {elts:List Expr} {kk:Nat} {pos:Pos} (a b z p q j k:Addr) (D:qJ z p q j k a b) :
    Turn P w K (.Tuple elts kk pos) (wC K a b) [z,p,q,j,k] z (fun i h=>IsZip h z p q .none/\IsPair h p (.ref j) (.ref k)/\(∃ u v,IsPair h q u v)/\h.IsTupleIter j a i/\h.IsTupleIter k b i) where
  mem:=by simp
  obj:=fun i h st c hc=>by
    obtain⟨gz,gp,⟨u,v,gq⟩,⟨oj,ej,cj,dj⟩,⟨ok,ek,ck,dk⟩⟩:=st
    simp only [List.mem_cons,List.not_mem_nil,or_false] at hc
    rcases hc with rfl | rfl | rfl | rfl | rfl
    · exact⟨_,gz,fun v e=>by cases e⟩
    · exact⟨_,gp,fun v e=>by cases e⟩
    · exact⟨_,gq,fun v e=>by cases e⟩
    · exact⟨oj,ej,fun v e=>by rw [dj] at e;cases e⟩
    · exact⟨ok,ek,fun v e=>by rw [dk] at e;cases e⟩
  keep:=fun i h g st kp=>by
    obtain⟨gz,gp,⟨u,v,gq⟩,⟨oj,ej,rj⟩,⟨ok,ek,rk⟩⟩:=st
    exact⟨kp z (by simp) _ gz,kp p (by simp) _ gp,⟨u,v,kp q (by simp) _ gq⟩,⟨oj,kp j (by simp) _ ej,rj⟩,⟨ok,kp k (by simp) _ ek,rk⟩⟩
  item:=by
    intro X hP hw hK hc i pins s σ H E I hf st hg
    subst hP hw hK
    obtain⟨gz,gp,⟨u,v,gq⟩,gj,gk⟩:=st
    obtain⟨xs,ys,x,y,ha,hb,hx,hy⟩:=hg
    obtain⟨is,ra,pa,_⟩:=I.tuple ha
    obtain⟨js,rb,pb,_⟩:=I.tuple hb
    obtain⟨xv,hxv,rx⟩:=ra.get hx
    obtain⟨yv,hyv,ry⟩:=rb.get hy
    have sz:∀ c ∈ [z,p,q,j,k],c ≠ s.heap.objs.size:=fun c hc e=>by
      subst e
      simp only [List.mem_cons,List.not_mem_nil,or_false] at hc
      rcases hc with e | e | e | e | e
      · exact absurd (Heap.lt_size gz) (by rw [<-e];exact Nat.lt_irrefl _)
      · exact absurd (Heap.lt_size gp) (by rw [<-e];exact Nat.lt_irrefl _)
      · exact absurd (Heap.lt_size gq) (by rw [<-e];exact Nat.lt_irrefl _)
      · obtain⟨oj,ej,_⟩:=gj
        exact absurd (Heap.lt_size ej) (by rw [<-e];exact Nat.lt_irrefl _)
      · obtain⟨ok,ek,_⟩:=gk
        exact absurd (Heap.lt_size ek) (by rw [<-e];exact Nat.lt_irrefl _)
    refine xl D gz gp gq gj gk (show s.heap.IsTuple a is.toArray from pa) (show s.heap.IsTuple b js.toArray from pb) (x:=xv) (y:=yv) (by simpa using hxv) (by simpa using hyv) fun g a1 a2 a3 a4 a5 a6 hk=>?_
    refine⟨.ref s.heap.objs.size,rfl,wpAny_letOwnedTupleGo_zip a1 fun g' gz' sb=>?_⟩
    have fr:=I.aL.fresh (a:=s.heap.objs.size) (Nat.le_refl _)
    have I1:Inv X pins σ (upd H s.heap.objs.size (.tup [x,y])) { s with heap:=s.heap.push { cls:=.type "tuple",data:=.seq #[xv,yv] },toks:=s.toks } :=
      I.laid (fun _ _ e=>Heap.get?_push_of_some _ e) (Nat.le_refl _) ⟨by show 2<=sizeLine;decide,[xv,yv],.cons rx (.cons ry .nil),by first | exact IsTup.new _ _ | exact⟨_,Heap.get?_push_size _ rfl,rfl,_,rfl,rfl⟩⟩
    have f1:∀ c ∈ [z,p,q,j,k],gx X pins (upd H s.heap.objs.size (.tup [x,y])) c:=fun c hc=>by
      obtain⟨f0,fr'⟩:=hf c hc
      exact⟨by rw [av (sz c hc)];exact f0,fr'⟩
    have I2:Inv X pins σ (upd H s.heap.objs.size (.tup [x,y])) { s with heap:=g',toks:=s.toks }:=Inv.qL (s:={ s with heap:=s.heap.push { cls:=.type "tuple",data:=.seq #[xv,yv] },toks:=s.toks }) (fp:=[z,p,q,j,k]) (h':=g') (t':=s.toks) I1 (fun c o hc e=>by
      simp only [List.mem_cons,List.not_mem_nil,or_false,not_or] at hc
      refine sb.extBut _ _ hc.1 ?_
      rcases Heap.get?_push_cases e with ⟨rfl,rfl⟩ | e
      · exact a5
      · exact hk c o hc.1 hc.2.2.1 hc.2.2.2.1 hc.2.2.2.2 e) f1
    refine⟨.ref s.heap.objs.size,_,I2,rfl,⟨_,x,y,rfl,fr,rfl,fun xs' ys' h1 h2=>?_⟩,⟨gz',sb.extBut _ _ D.pz (hk _ _ D.pz D.pq D.pj D.pk gp),⟨xv,yv,sb.extBut _ _ D.qz a2⟩,a3.extBut sb.extBut D.jz,a4.extBut sb.extBut D.kz⟩,fun c hc=>(f1 c hc).1⟩
    rw [I.i5 h1 ha,I.i5 h2 hb]
    exact⟨hx,hy⟩
  done:=by
    intro X hP hw hK hc i pins s σ H E I hf st hg
    subst hP hw hK
    obtain⟨gz,gp,⟨u,v,gq⟩,gj,gk⟩:=st
    obtain⟨xs,ys,ha,hb,hl⟩:=hg
    obtain⟨is,ra,pa,_⟩:=I.tuple ha
    obtain⟨js,rb,pb,_⟩:=I.tuple hb
    have la:=ra.length
    have lb:=rb.length
    have he:is.toArray[i]? = none\/js.toArray[i]? = none:=by
      rcases hl with h | h
      · exact .inl (by simp;omega)
      · exact .inr (by simp;omega)
    exact xm (I.ok.hd hc) D gz gp gq gj gk (show s.heap.IsTuple a is.toArray from pa) (show s.heap.IsTuple b js.toArray from pb) he fun g hk=>⟨rfl,I.qL (fp:=[z,p,q,j,k]) (t':=s.toks) (fun c o hc e=>by
      simp only [List.mem_cons,List.not_mem_nil,or_false,not_or] at hc
      exact hk c o hc.1 hc.2.2.1 hc.2.2.2.1 hc.2.2.2.2 e) hf⟩
  self:=fun _ _ _ _ _ st h=>wpAny_pyIter_zip st.1 h
theorem Ao {N a b:Nat} (ha:a < N) (hb:b < N):qJ (N+4:Nat) (N+2:Nat) (N+3:Nat) N (N+1:Nat) a b :=
 have ne:∀ {u v:Nat},u < v->¬ (u=v):=fun h e=>by omega
 have ne':∀ {u v:Nat},v < u->¬ (u=v):=fun h e=>by omega
 ⟨ne (by omega),ne (by omega),ne (by omega),ne (by omega),ne (by omega),ne' (by omega),ne' (by omega),ne' (by omega),ne' (by omega),ne (by omega),ne (by omega),ne (by omega),ne (by omega),ne (by omega),ne (by omega),ne (by omega),ne (by omega),ne (by omega)⟩
theorem yE:bootBuiltins "zip" = some (.type "zip"):=by decide +kernel
def z8 (K:PySem.W.Frag) (ta:TA):TI:=fun σ H R=>ta σ H fun vs H1=>∃ a b,vs = [.ref a,.ref b]/\(∃ xs,ay K H1 a xs)/\(∃ ys,ay K H1 b ys)/\R (wC K a b) H1
theorem tW {a b:Expr} {ta:TA} {p pos tp:Pos} {elts:List Expr} {kk:Nat} (hg:Gl X "zip") (hm:X.mg "zip" = none) (ha:PA X [a,b] ta) (hs:starEach [a,b] X.env = [(false,eval a X.env),(false,eval b X.env)]:=by rfl) (hs2:starEach [b] X.env = [(false,eval b X.env)]:=by rfl) :
  PI X (.Tuple elts kk tp) (.Call (.Name "zip" p) [a,b] [] pos) (z8 X.K ta):=by
 intro pins s σ H R I h
 refine Call_ (fF I hg hm yE (PyProof.Rows.callWith_type1 (aJ (ha pos pins s σ H _ I h) fun us s1 ⟨vs,H1,I1,r1,q1⟩=>?_) (by rw [hs,hs2]) (by rw [hs2];rfl)))
 obtain⟨x,y,e,⟨xs,hx⟩,⟨ys,hy⟩,q⟩:=q1
 subst e
 cases r1 with
 | cons r rr =>
  cases rr with
  | cons r' rr =>
   cases rr
   cases r
   cases r'
   obtain⟨is,rx,px,_⟩:=I1.tuple hx
   obtain⟨js,ry,py,_⟩:=I1.tuple hy
   have lx:x < s1.heap.objs.size:=px.lt
   have ly:y < s1.heap.objs.size:=py.lt
   refine xn (show s1.heap.IsTuple x is.toArray from px) (show s1.heap.IsTuple y js.toArray from py) fun g gz gp gq gj gk up=>?_
   refine wpAny_pyIter_zip gz ?_
   have I2:Inv X pins σ H1 { s1 with heap:=g }:=I1.kept (t':=s1.toks) up
   refine⟨_,[s1.heap.objs.size+4,s1.heap.objs.size+2,s1.heap.objs.size+3,s1.heap.objs.size,s1.heap.objs.size+1],_,wC X.K x y,H1,rfl,I2,vj x y _ _ _ _ _ ?_,⟨gz,gp,⟨_,_,gq⟩,gj,gk⟩,fun c hc=>?_,q⟩
   ·exact Ao lx ly
   ·have le:s1.heap.objs.size<=c:=by
     simp only [List.mem_cons,List.not_mem_nil,or_false] at hc
     rcases hc with rfl | rfl | rfl | rfl | rfl
     ·exact Nat.le_add_right _ _
     ·exact Nat.le_add_right _ _
     ·exact Nat.le_add_right _ _
     ·exact Nat.le_refl _
     ·exact Nat.le_add_right _ _
    exact I1.mm le (I1.aL.fresh le)
theorem tX {K:PySem.W.Frag} {a b acc:Addr} {xs ys:List V} {n:Nat} {js:List Nat} {g:TG} {ct:TT} {te:TE} {σ : St} {H1:Hp} {Q:VK} (Pv:Nat->List V->St->Hp->Prop) (h0:Pv 0 [] (kX n js σ) (upd H1 acc (.lst [])))
  (hl:∀ i zs τ H,i<=min xs.length ys.length->Pv i zs τ H->ay K H a xs/\ay K H b ys/\H acc=some (.lst zs)/\zs.length < sizeLine)
  (hs:∀ i x y zs τ H t,xs[i]? = some x->ys[i]? = some y->H t=none->Pv i zs τ H->g (.ref t) τ (upd H t (.tup [x,y])) fun τ1 H4=>ct τ1 H4 fun b H5=>if b=true then te τ1 H5 fun v H6=>H6 acc=some (.lst zs)/\Pv (i+1) (zs ++ [v]) τ1 (upd H6 acc (.lst (zs ++ [v]))) else Pv (i+1) zs τ1 H5)
  (hd:∀ zs τ H,Pv (min xs.length ys.length) zs τ H->Q (.ref acc) H) :
  tM (wC K a b) n js g ct te acc σ H1 Q:=by
 refine⟨fun i m zs τ H=>m=min xs.length ys.length - i/\i<=min xs.length ys.length/\Pv i zs τ H,⟨min xs.length ys.length,by simp,Nat.zero_le _,h0⟩,?_⟩
 rintro i m zs τ H ⟨rfl,hi,p⟩
 obtain⟨qa,qb,q2,q3⟩:=hl i zs τ H hi p
 refine⟨q2,q3,?_⟩
 by_cases hlt:i < min xs.length ys.length
 ·have l1:i < xs.length:=by omega
  have l2:i < ys.length:=by omega
  refine .inr ⟨⟨xs,ys,xs[i],ys[i],qa,qb,by simp [l1],by simp [l2]⟩,Pv (i+1),fun zs' τ' H' p'=>⟨min xs.length ys.length - (i+1),by omega,rfl,hlt,p'⟩,fun v H' y=>?_⟩
  obtain⟨t,x,y,rfl,ht,rfl,h⟩:=y
  obtain⟨h1,h2⟩:=h xs ys qa qb
  exact hs i x y zs τ H t h1 h2 ht p
 ·have e:i=min xs.length ys.length:=by omega
  subst e
  refine .inl ⟨⟨xs,ys,qa,qb,?_⟩,hd zs τ H p⟩
  rcases Nat.le_total xs.length ys.length with h | h
  ·exact .inl (by omega)
  ·exact .inr (by omega)
end
structure vk (K:PySem.W.Frag) (mg:Str->Option Value) (nm:Str) (a:Addr) (D:List (Str × Addr)):Prop where
 nF:mg nm=some (.ref a)
 lk:∃ es ep,K.lookup a=some ⟨.type "dict",none,.dict es ep,#[]⟩/\KTD.Rows (fun d v=>v=Value.ref d) es.toList D
section
variable {prog:Program} {w:World} {A:Around} {E:Value->Shared->Prop} {s:Shared}
theorem vm {a d:Addr} {o:Obj} {es:Array DictEntry} {ep:Nat} {k:Str} {t:Tok} {D:List (Str × Addr)} {Q:Option Value->Shared->Prop} (ho:s.heap.get? a=some o) (hd:o.data=.dict es ep)
  (hr:KTD.Rows (fun d v=>v=Value.ref d) es.toList D) (ha:KTD.datumAt k D=some d) (q:Q (some (.ref d)) { s with toks:=s.toks+1 }):wpAny (model prog w) A (dictGet a (.str k t)) Q E s:=by
 unfold dictGet
 try with_reducible refine wpAny_holding ?_
 refine wpAny_bind (wpAny_pyHash_str (wpAny_bind (KTD.kt_dictFind_strs (s:={ s with toks:=s.toks+1 }) ho hd (by have:=hr.exact;obtain⟨l⟩:=es;simpa using this) ?_)))
 have hq:Q (findBy (fun k v=>v.isStr k) es k) { s with toks:=s.toks+1 }:=by
  obtain⟨v,hv,rfl⟩:=hr.find_some ha
  have e:findBy (fun k v=>v.isStr k) es k=some (.ref d):=by
   rw [<-hv]
   obtain⟨l⟩:=es
   simp [findBy]
  rw [e]
  exact q
 rw [findBy_of_findIdx?] at hq
 cases hi:es.findIdx? fun e=>e.key.isStr k with
 | some i=>rw [hi] at hq;exact wpAny_bind (wpAny_dictEntries (s:={ s with toks:=s.toks+1 }) ho hd (wpAny_pure hq))
 | none=>rw [hi] at hq;exact wpAny_pure hq
theorem vn {a d:Addr} {o:Obj} {es:Array DictEntry} {ep:Nat} {k:Str} {t:Tok} {D:List (Str × Addr)} {Q:Value->Shared->Prop} (ty:s.TypeIs (.ref a) "dict") (ho:s.heap.get? a=some o) (hd:o.data=.dict es ep)
  (hr:KTD.Rows (fun d v=>v=Value.ref d) es.toList D) (ha:KTD.datumAt k D=some d) (q:Q (.ref d) { s with toks:=s.toks+1 }):wpAny (model prog w) A (getItem (.ref a) (.str k t)) Q E s:=by
 unfold getItem
 try with_reducible refine wpAny_holding ?_
 refine wpAny_bind (wpAny_sequenceKey ty (by decide) (wpAny_bind (wpAny_callSpecial?_slot (name:=Str.ofString "__getitem__") ty slot_dict_getitem (wpAny_call_entry slot_dict_getitem ty entry_dict_getitem ?_ (args_dict_getitem _ _)))))
 show wpAny _ _ (dictGet a (.str k t) >>= fun _=>_) _ _ s
 exact wpAny_bind (vm ho hd hr ha (wpAny_pure ⟨_,rfl,wpAny_pure q⟩))
end
section
variable {X:Cx}
theorem mJ {nm:Str} {a:Addr} {D:List (Str × Addr)} {i:Expr} {p pos:Pos} {ty:TE} (G:vk X.K X.mg nm a D) (hg:Gl X nm) (hi:PE X i ty) (hs:rQ i) (hdb:(nm == ("__debug__" : Str))=false:=by decide) :
  PE X (.Subscript (.Name nm p) i pos) (fun σ H Q=>ty σ H fun y H1=>∃ x d,y=.str x/\KTD.datumAt x D=some d/\Q (.ref d) H1):=by
 intro pins s σ H Q I h
 obtain⟨es,ep,hk,hr⟩:=G.lk
 refine mF PySem.F.slot_dict_getitem.lookup hs (aJ (eO (v:=.ref a) hg G.nF rfl hdb pins s σ H (fun x H1=>x=.ref a/\ty σ H1 fun y H1=>∃ x d,y=.str x/\KTD.datumAt x D=some d/\Q (.ref d) H1) I ⟨rfl,h⟩) fun u s1 ⟨x,H1,I1,rx,ex,q1⟩=>?_)
 subst ex
 obtain rfl:u=Value.ref a:=rx
 refine aJ (hi pins s1 σ H1 _ I1 q1) fun iv s2 ⟨y,H2,I2,ry,k,d,ey,hd,q2⟩=>?_
 subst ey
 obtain⟨t,rfl⟩:=(show ∃ t,iv=Value.str k t from ry)
 have ho:=I2.fR a _ hk
 exact⟨⟨_,ho,rfl⟩,vn ⟨_,ho,rfl⟩ ho rfl hr hd ⟨.ref d,H2,I2.tok _,rfl,q2⟩⟩
end
def pick (w:Str) (xs:List V) (ks:List Str):List V:=((xs.zip ks).filter fun p=>decide (p.2=w)).map (·.1)
def hJ (w:Str) (xs:List V) (ks:List Str) (i:Nat):List V:=(((xs.zip ks).take i).filter fun p=>decide (p.2=w)).map (·.1)
theorem rS {w:Str} {xs:List V} {ks:List Str} {i:Nat} {x:V} {k:Str} (hx:xs[i]? = some x) (hk:ks[i]? = some k):hJ w xs ks (i+1)=hJ w xs ks i++(if k=w then [x] else []):=by
 have hz:(xs.zip ks)[i]? = some (x,k):=by rw [List.getElem?_zip_eq_some];exact⟨hx,hk⟩
 unfold hJ
 rw [List.take_add_one,hz,List.filter_append,List.map_append]
 congr 1
 by_cases h:k=w
 ·rw [if_pos h];simp [h]
 ·rw [if_neg h];simp [h]
theorem tY {w:Str} {xs:List V} {ks:List Str}:hJ w xs ks (min xs.length (ks.map V.str).length)=pick w xs ks:=by
 unfold hJ pick
 rw [List.length_map,List.take_of_length_le (by rw [List.length_zip];exact Nat.le_refl _)]
theorem tZ {w:Str} {xs:List V} {ks:List Str} {i:Nat}:(hJ w xs ks i).length<=i:=by
 unfold hJ
 rw [List.length_map]
 exact Nat.le_trans (List.length_filter_le ..) (by rw [List.length_take];exact Nat.min_le_left ..)
theorem ay.same {K:PySem.W.Frag} {H H':Hp} {a:Addr} {xs:List V} (h:ay K H a xs) (s:ah H H'):ay K H' a xs:=by
 rcases h with h | h
 ·rcases h with h | h
  ·exact .inl (.inl (s _ _ h))
  ·obtain⟨b,hb⟩:=h
   exact .inl (.inr ⟨b,s _ _ hb⟩)
 ·exact .inr h
def jF (K:PySem.W.Frag):Sp:=fun vs H Q _=>∃ (t s:Addr) (v0:V) (xs:List V) (ks:List Str) (w:Str),vs = [.ref t,.ref s,.str w]/\H t=some (.tup (v0 :: xs))/\ay K H s (ks.map V.str)/\xs.length<=1000 /\
 ∀ l H',H' l=some (.lst (pick w xs ks))->ah H H'->Q (.ref l) H'
def KTup (K:PySem.W.Frag) (a:Addr) (ks:List Str):Prop:=∃ (o:Obj) (its:Array Value) (n:Nat),K.lookup a=some o/\o.cls=.type "tuple" /\ o.data=.seq its n/\its.size<=sizeLine/\Vals (ks.map V.str) its.toList
structure o4 (K:PySem.W.Frag) (mg:Str->Option Value) (aE s0 s1 s2 s3:Addr):Prop where
 tab:vk K mg "END_PARTS" aE [("stop",s0),("go",s1),("less",s2),("is",s3)]
 q0:KTup K s0 []
 q1:KTup K s1 ["piece"]
 q2:KTup K s2 ["name", "number", "piece", "piece"]
 q3:KTup K s3 ["name", "number", "piece", "piece"]
def aP:End->List Nat
 | .stop=>[]
 | .go p=>[p]
 | .bL _ _ _ p q=>[p,q]
def kE:End->List Str
 | .stop=>[]
 | .go _=>["piece"]
 | .bL ..=>["name", "number", "piece", "piece"]
def wE:End->Str
 | .stop => "stop"
 | .go _ => "go"
 | .bL b ..=>wT b
theorem t6 (e:End):∃ xs,de e=.str (wE e) :: xs/\xs.length<=1000/\pick "piece" xs (kE e)=(aP e).map fun k=>V.int (k:Nat):=by
 cases e with
 | stop=>exact⟨[],rfl,by decide,rfl⟩
 | go p=>exact⟨_,rfl,by show 1<=1000;decide,by simp [pick,kE,aP]⟩
 | bL b x n p q =>
  refine⟨_,rfl,by show 4<=1000;decide,?_⟩
  have h1:¬ ("name" : Str) = "piece" := by decide +kernel
  have h2:¬ ("number" : Str) = "piece" := by decide +kernel
  simp [pick,kE,aP,h1,h2]
theorem o4.at_ {K:PySem.W.Frag} {mg:Str->Option Value} {aE s0 s1 s2 s3:Addr} (G:o4 K mg aE s0 s1 s2 s3) (e:End):∃ s,KTD.datumAt (wE e) [(("stop" : Str),s0),("go",s1),("less",s2),("is",s3)] = some s/\KTup K s (kE e):=by
 have hit:∀ {k:Str} {d:Addr} {D:List (Str × Addr)},KTD.datumAt k ((k,d) :: D)=some d:=fun {k d D}=>by
  show (if decide (k=k)=true then some d else KTD.datumAt k D)=some d
  rw [if_pos (decide_eq_true rfl)]
 have miss:∀ {k x:Str} {d:Addr} {D:List (Str × Addr)} {o:Option Addr},¬ k=x->KTD.datumAt k D=o->KTD.datumAt k ((x,d) :: D)=o:=fun {k x d D o} h e=>by
  show (if decide (k=x)=true then some d else KTD.datumAt k D)=o
  rw [if_neg (by rw [decide_eq_false h];decide)]
  exact e
 cases e with
 | stop=>exact⟨s0,hit,G.q0⟩
 | go p=>exact⟨s1,miss (show ¬ (("go" : Str) = "stop") by decide +kernel) hit,G.q1⟩
 | bL b x n p q =>
  cases b with
  | true=>exact⟨s2,miss (show ¬ (("less" : Str) = "stop") by decide +kernel) (miss (show ¬ (("less" : Str) = "go") by decide +kernel) hit),G.q2⟩
  | false=>exact⟨s3,miss (show ¬ (("is" : Str) = "stop") by decide +kernel) (miss (show ¬ (("is" : Str) = "go") by decide +kernel) (miss (show ¬ (("is" : Str) = "less") by decide +kernel) hit)),G.q3⟩
def gN:Sp:=fun vs H Q _=>∃ (ea:Addr) (e:End),vs = [.ref ea]/\H ea=some (.tup (de e))/\∀ t H',H' t=some (.tup ((aP e).map fun k=>V.int (k:Nat)))->ah H H'->Q (.ref t) H'
end L2
namespace LS
open PySem
def Up (xs:Array Nat):Prop:=∀ (i j:Nat) (a b:Nat),i < j->xs[i]? = some a->xs[j]? = some b->a < b
theorem vo {xs:Array Nat} {j:Nat} (up:Up xs):∀ (fuel lo hi:Nat),hi - lo<=fuel->lo<=hi->hi<=xs.size ->
  (∀ i a,i < lo->xs[i]? = some a->a < j)->(∀ i a,hi<=i->xs[i]? = some a->j<=a) ->
  (∀ i a,i < SetTable.below.go xs j fuel lo hi->xs[i]? = some a->a < j)/\(∀ i a,SetTable.below.go xs j fuel lo hi<=i->xs[i]? = some a->j<=a)/\SetTable.below.go xs j fuel lo hi<=xs.size:=by
 intro fuel
 induction fuel with
 | zero =>
  intro lo hi h1 h2 h3 h4 h5
  have e:lo=hi:=by omega
  subst e
  unfold SetTable.below.go
  exact⟨h4,h5,h3⟩
 | succ f ih =>
  intro lo hi h1 h2 h3 h4 h5
  unfold SetTable.below.go
  by_cases hl:lo < hi
  ·rw [if_pos hl]
   dsimp only
   have hm:(lo+hi) / 2 < hi:=by omega
   have hm2:lo<=(lo+hi) / 2:=by omega
   generalize (lo+hi) / 2=mid at hm hm2
   have hs:mid < xs.size:=by omega
   have hg:xs[mid]? = some xs[mid]:=by simp [hs]
   have hd:xs.getD mid j=xs[mid]:=by simp [Array.getD,hs]
   rw [hd]
   by_cases hc:xs[mid] < j
   ·rw [if_pos hc]
    refine ih (mid+1) hi (by omega) (by omega) h3 (fun i a hi' he=>?_) h5
    by_cases e:i=mid
    ·subst e;rw [hg] at he;cases he;exact hc
    ·have:=up i mid a _ (by omega) he hg;omega
   ·rw [if_neg hc]
    refine ih lo mid (by omega) hm2 (by omega) h4 (fun i a hi' he=>?_)
    by_cases e:i=mid
    ·subst e;rw [hg] at he;cases he;omega
    ·have:=up mid i _ a (by omega) hg he;omega
  ·rw [if_neg hl]
   have e:lo=hi:=by omega
   subst e
   exact⟨h4,h5,h3⟩
theorem km {xs:Array Nat} {j:Nat} (up:Up xs) :
    (∀ i a,i < SetTable.below xs j->xs[i]? = some a->a < j)/\(∀ i a,SetTable.below xs j<=i->xs[i]? = some a->j<=a)/\SetTable.below xs j<=xs.size :=
  vo up xs.size 0 xs.size (by omega) (Nat.zero_le _) (Nat.le_refl _) (fun _ _ h=>absurd h (Nat.not_lt_zero _)) (fun i a h e=>by
    have:xs[i]? = none:=by simp;omega
    rw [this] at e;cases e)
theorem o5 {α : Type} {xs:Array α} {p:Nat} {x:α} (hp:p<=xs.size) (i:Nat) :
  (SetTable.insertAt xs p x)[i]? = if i < p then xs[i]? else if i=p then some x else xs[i - 1]?:=by
 unfold SetTable.insertAt
 have h1:(xs.extract 0 p).size=p:=by simp;omega
 rw [Array.getElem?_append]
 have h2:((xs.extract 0 p).push x).size=p+1:=by simp;omega
 rw [h2]
 by_cases a:i < p
 ·rw [if_pos (by omega),if_pos a,Array.getElem?_push,h1,if_neg (by omega)]
  rw [Array.getElem?_extract]
  simp;omega
 ·rw [if_neg a]
  by_cases b:i=p
  ·subst b
   rw [if_pos (by omega),if_pos rfl,Array.getElem?_push,h1,if_pos rfl]
  ·rw [if_neg (by omega),if_neg b]
   rw [Array.getElem?_extract]
   have:p+(i - (p+1))=i - 1:=by omega
   rw [this]
   by_cases c:i - 1 < xs.size
   ·simp;omega
   ·have:xs[i - 1]? = none:=by simp;omega
    rw [this];simp
theorem Up.insert {xs:Array Nat} {j:Nat} (up:Up xs) (hn:xs[SetTable.below xs j]? ≠ some j):Up (SetTable.insertAt xs (SetTable.below xs j) j):=by
 obtain⟨h1,h2,h3⟩:=km (j:=j) up
 generalize SetTable.below xs j=p at h1 h2 h3 hn
 have h2':∀ i a,p<=i->xs[i]? = some a->j < a:=fun i a hi e=>by
  have q:=h2 i a hi e
  by_cases z:i=p
  ·subst z
   rcases Nat.lt_or_ge j a with c | c
   ·exact c
   ·have:a=j:=by omega
    subst this;exact absurd e hn
  ·have hps:p < xs.size:=by
    have:i < xs.size:=by
     rcases Nat.lt_or_ge i xs.size with c | c
     ·exact c
     ·have:xs[i]? = none:=by simp;omega
      rw [this] at e;cases e
    omega
   have e1:xs[p]? = some xs[p]:=by simp [hps]
   have q1:=h2 p _ (Nat.le_refl _) e1
   have q2:=up p i _ _ (by omega) e1 e
   omega
 intro a b x y hab ha hb
 rw [o5 h3] at ha hb
 by_cases c1:a < p
 ·rw [if_pos c1] at ha
  by_cases d1:b < p
  ·rw [if_pos d1] at hb;exact up a b _ _ hab ha hb
  ·rw [if_neg d1] at hb
   by_cases d2:b=p
   ·rw [if_pos d2] at hb;cases hb;exact h1 a _ c1 ha
   ·rw [if_neg d2] at hb
    exact Nat.lt_trans (h1 a _ c1 ha) (h2' (b - 1) _ (by omega) hb)
 ·rw [if_neg c1] at ha
  by_cases c2:a=p
  ·rw [if_pos c2] at ha;cases ha
   rw [if_neg (by omega),if_neg (by omega)] at hb
   exact h2' (b - 1) _ (by omega) hb
  ·rw [if_neg c2] at ha
   rw [if_neg (by omega),if_neg (by omega)] at hb
   exact up (a - 1) (b - 1) _ _ (by omega) ha hb
def Rp (t:SetTable):Prop:=t.plain=true->Up t.place
theorem vp {t:SetTable} {f:Nat->Int} {h:Int}:∀ (fuel:Nat) (p:SetTable.Probe) (j:Nat) (d:Option Nat),(∀ x,p.dummy=some x->t.place[SetTable.below t.place x]? ≠ some x) ->
  SetTable.probe.go t f h fuel p=some (.empty j d)->t.place[SetTable.below t.place (d.getD j)]? ≠ some (d.getD j):=by
 intro fuel
 induction fuel with
 | zero=>intro p j d _ e;unfold SetTable.probe.go at e;cases e
 | succ n ih =>
  intro p j d hd e
  unfold SetTable.probe.go at e
  have adv:∀ q:SetTable.Probe,(t.advance q).dummy=q.dummy:=fun q=>by unfold SetTable.advance;split <;> rfl
  cases hs:t.slot p.j with
  | empty =>
   rw [hs] at e
   dsimp only at e
   injection e with e
   injection e with e1 e2
   subst e1;subst e2
   unfold SetTable.slot at hs
   dsimp only at hs
   split at hs
   ·cases hs
   ·rename_i hne
    cases hdm:p.dummy with
    | none=>intro z;exact hne (by rw [show (none:Option Nat).getD p.j=p.j from rfl] at z;simpa using z)
    | some x=>exact hd x hdm
  | dummy =>
   rw [hs] at e
   dsimp only at e
   refine ih _ j d (fun x hx=>?_) e
   rw [adv] at hx
   injection hx with hx
   subst hx
   unfold SetTable.slot at hs
   dsimp only at hs
   split at hs
   ·cases hs
   ·rename_i hne
    intro z;exact hne (by simpa using z)
  | live i =>
   rw [hs] at e
   dsimp only at e
   split at e
   ·cases e
   ·exact ih _ j d (fun x hx=>hd x (by rw [adv] at hx;exact hx)) e
theorem o6 {t:SetTable} {h:Int} {j:Nat} {b:Bool} (e:t.freeSlot h=some (j,b)):t.place[SetTable.below t.place j]? ≠ some j:=by
 unfold SetTable.freeSlot at e
 split at e
 ·rename_i j' d hp
  injection e with e
  injection e with e1 e2
  subst e1
  unfold SetTable.probe at hp
  exact vp _ _ _ _ (fun x hx=>by cases hx) hp
 ·cases e
theorem Rp.standIn (t:SetTable) (n:Nat):Rp (t.standIn n):=fun h=>by cases h
theorem Rp.layNew {t:SetTable} (r:Rp t) (es:Array (Int × Value)) (h:Int) (x:Value):Rp (layNew t es h x).2.1/\(layNew t es h x).2.1.led=t.led:=by
 unfold PySem.layNew
 split
 ·rename_i j b e
  dsimp only
  unfold SetTable.orStandIn
  split
  ·refine⟨fun hp=>?_,rfl⟩
   exact (r hp).insert (o6 e)
  ·exact⟨Rp.standIn _ _,rfl⟩
 ·exact⟨Rp.standIn _ _,rfl⟩
theorem vq (n:Nat) (f:Nat->Option Nat):Up (((List.range n).filterMap fun j=>(f j).map fun k=>(j,k)).map (·.1)).toArray:=by
 have hs:List.Pairwise (· < ·) (((List.range n).filterMap fun j=>(f j).map fun k=>(j,k)).map (·.1)):=by
  have hl:List.Sublist (((List.range n).filterMap fun j=>(f j).map fun k=>(j,k)).map (·.1)) (List.range n):=by
   generalize List.range n=l
   induction l with
   | nil=>exact List.Sublist.refl _
   | cons a l ih =>
    rw [List.filterMap_cons]
    cases e:f a with
    | none=>exact ih.cons a
    | some k=>exact ih.cons₂ a
  exact List.Pairwise.sublist hl List.pairwise_lt_range
 intro i j a b hij ha hb
 rw [List.getElem?_toArray] at ha hb
 have hi:i < _:=(List.getElem?_eq_some_iff.mp ha).1
 have hj:j < _:=(List.getElem?_eq_some_iff.mp hb).1
 have:=List.pairwise_iff_getElem.mp hs i j hi hj hij
 rw [(List.getElem?_eq_some_iff.mp ha).2,(List.getElem?_eq_some_iff.mp hb).2] at this
 exact this
theorem Rp.relayAll (t:SetTable) (es:Array (Int × Value)) (n:Nat):Rp (relayAll t es n).2.1/\(relayAll t es n).2.1.led=t.led:=by
 unfold PySem.relayAll
 split
 ·rename_i t' order e
  dsimp only
  split
  ·unfold SetTable.relaid SetTable.laid at e
   simp only [bind,Option.bind] at e
   split at e
   ·cases e
   ·rename_i owner _
    injection e with e
    injection e with e1 _
    subst e1
    exact⟨fun _=>vq _ _,rfl⟩
  ·exact⟨Rp.standIn _ _,rfl⟩
 ·exact⟨Rp.standIn _ _,rfl⟩
theorem rT {xs:Array Nat} (up:Up xs) {i a:Nat} (e:xs[i]? = some a):SetTable.below xs (a+1)=i+1:=by
 obtain⟨h1,h2,h3⟩:=km (j:=a+1) up
 have hi:i < xs.size:=(Array.getElem?_eq_some_iff.mp e).1
 rcases Nat.lt_trichotomy (SetTable.below xs (a+1)) (i+1) with c | c | c
 ·have:=h2 i a (by omega) e;omega
 ·exact c
 ·have hs:i+1 < xs.size:=by omega
  have e':xs[i+1]? = some xs[i+1]:=by simp [hs]
  have q1:=h1 (i+1) _ c e'
  have q2:=up i (i+1) _ _ (by omega) e e'
  omega
theorem rV {xs:Array Nat} (up:Up xs):SetTable.below xs 0=0:=by
 obtain⟨h1,h2,h3⟩:=km (j:=0) up
 rcases Nat.eq_zero_or_pos (SetTable.below xs 0) with c | c
 ·exact c
 ·have e':xs[0]? = some xs[0]:=by simp
  have:=h1 0 _ c e';omega
theorem Up.cn {xs:Array Nat} (h:xs.size<=1):Up xs:=fun i j a b hij ha hb=>by
 have:=(Array.getElem?_eq_some_iff.mp hb).1;omega
open PySem.Spec PyProof.Rows
section
variable {prog:Program} {w:World} {K:Type} [DecidableEq K] {knd:KeyKind prog w K}
variable {A:Around} {E:Value->Shared->Prop} {s:Shared}
def Ent (knd:KeyKind prog w K) (e:Int × Value) (k:K):Prop:=knd.is k e.2=true/\e.1=knd.hash k/\e.2.scannable=true
structure cb (knd:KeyKind prog w K) (h:Heap) (a:Addr) (ks:List K) (o:Obj) (es:Array (Int × Value)) (ep:Nat) (t:SetTable):Prop where
 at_:h.get? a=some o
 ex:o.ExactSet
 data:o.data=.set es ep t
 ents:∃ ls:List K,ls.Perm ks/\Paired (Ent knd) es.toList ls
 nd:ks.Nodup
 cn:es.size < scanBound
 fits:t.fits es.size=true
 led:t.led = !(w.params.followText "set-order")
 up:Rp t
def df (knd:KeyKind prog w K) (h:Heap) (a:Addr) (ks:List K):Prop:=∃ o es ep t,cb knd h a ks o es ep t
theorem ia {α β : Type} {F:α->β->Prop}:∀ {l l':List α},l.Perm l'->∀ {m':List β},Paired F l' m'->∃ m,m.Perm m'/\Paired F l m:=by
 intro l l' p
 induction p with
 | nil=>intro m' h;exact⟨m',.refl _,h⟩
 | cons x p ih =>
  intro m' h
  cases h with
  | cons r t=>obtain⟨m,q,e⟩:=ih t;exact⟨_,q.cons _,.cons r e⟩
 | swap x y l =>
  intro m' h
  cases h with
  | cons r t=>cases t with
   | cons r' t'=>exact⟨_,.swap _ _ _,.cons r' (.cons r t')⟩
 | trans p q ih1 ih2 =>
  intro m' h
  obtain⟨m1,a1,b1⟩:=ih2 h
  obtain⟨m2,a2,b2⟩:=ih1 b1
  exact⟨m2,a2.trans a1,b2⟩
theorem fW {α β : Type} {F:α->β->Prop}:∀ {l:List α} {m:List β},Paired F l m->(∀ x ∈ l,∃ y ∈ m,F x y)/\(∀ y ∈ m,∃ x ∈ l,F x y)
 | _,_,.nil=>⟨(fun _ h=>nomatch h),(fun _ h=>nomatch h)⟩
 | _,_,.cons r t=>by
  obtain⟨h1,h2⟩:=fW t
  refine⟨fun x hx=>?_,fun y hy=>?_⟩
  ·rcases List.mem_cons.mp hx with rfl | hx
   ·exact⟨_,List.mem_cons_self ..,r⟩
   ·obtain⟨y,hy,f⟩:=h1 x hx;exact⟨y,List.mem_cons_of_mem _ hy,f⟩
  ·rcases List.mem_cons.mp hy with rfl | hy
   ·exact⟨_,List.mem_cons_self ..,r⟩
   ·obtain⟨x,hx,f⟩:=h2 y hy;exact⟨x,List.mem_cons_of_mem _ hx,f⟩
theorem jZ {α β : Type} {F:α->β->Prop} {x:α} {y:β} (f:F x y):∀ {l:List α} {m:List β},Paired F l m->Paired F (l ++ [x]) (m ++ [y])
 | _,_,.nil=>.cons f .nil
 | _,_,.cons r t=>.cons r (jZ f t)
variable {a:Addr} {ks:List K} {o:Obj} {es:Array (Int × Value)} {ep:Nat} {t:SetTable} {h h':Heap}
theorem cb.elems (S:cb knd h a ks o es ep t):ElemsOf knd es.toList:=fun e he=>by
 obtain⟨ls,_,p⟩:=S.ents
 obtain⟨k,_,f⟩:=(fW p).1 e he
 exact⟨⟨k,f.1,f.2.1⟩,f.2.2⟩
theorem cb.len (S:cb knd h a ks o es ep t):es.size=ks.length:=by
 obtain⟨ls,q,p⟩:=S.ents
 rw [<-Array.length_toList,p.length,q.length_eq]
theorem cb.mem (S:cb knd h a ks o es ep t) (k:K):k ∈ ks ↔ ∃ e ∈ es.toList,knd.is k e.2=true:=by
 obtain⟨ls,q,p⟩:=S.ents
 rw [<-q.mem_iff]
 constructor
 ·intro hk
  obtain⟨e,he,f⟩:=(fW p).2 k hk
  exact⟨e,he,f.1⟩
 ·rintro⟨e,he,f⟩
  obtain⟨k',hk',f'⟩:=(fW p).1 e he
  rw [knd.inj e.2 k k' f f'.1];exact hk'
theorem cb.setOf (S:cb knd h a ks o es ep t):h.SetOf knd a (fun k=>decide (k ∈ ks)) ks.length :=
 ⟨o,es,ep,t,S.at_,S.ex,S.data,S.elems,fun k=>by rw [decide_eq_true_eq];exact S.mem k,S.cn,S.fits,S.len⟩
theorem cb.keep (S:cb knd h a ks o es ep t) (k:∀ o,h.get? a=some o->h'.get? a=some o):cb knd h' a ks o es ep t:={ S with at_:=k _ S.at_ }
theorem df.keep (S:df knd h a ks) (k:∀ o,h.get? a=some o->h'.get? a=some o):df knd h' a ks:=let ⟨o,es,ep,t,S⟩:=S;⟨o,es,ep,t,S.keep k⟩
theorem df.setOf (S:df knd h a ks):h.SetOf knd a (fun k=>decide (k ∈ ks)) ks.length:=let ⟨_,_,_,_,S⟩:=S;S.setOf
theorem o7 {o:Obj} {es es':Array (Int × Value)} {ep:Nat} {t t':SetTable} (hd:o.data=.set es ep t):Obj.putSet es' t' o = { o with data:=.set es' (ep+1) t' }:=putSet_of es' t' hd
theorem cb.store {es':Array (Int × Value)} {t':SetTable} {ks':List K} (S:cb knd h a ks o es ep t) (he:∃ ls:List K,ls.Perm ks'/\Paired (Ent knd) es'.toList ls) (nd:ks'.Nodup) (cn:es'.size < scanBound)
  (fits:t'.fits es'.size=true) (led:t'.led=t.led) (up:Rp t'):cb knd (h.update a (Obj.putSet es' t')) a ks' { o with data:=.set es' (ep+1) t' } es' (ep+1) t' where
 at_:=by
  have q:=Heap.get?_update_self (Obj.putSet es' t') S.at_ (by rw [o7 S.data];rfl)
  rw [o7 S.data] at q
  exact q
 ex:=S.ex
 data:=rfl
 ents:=he
 nd:=nd
 cn:=cn
 fits:=fits
 led:=led.trans S.led
 up:=up
theorem kn {g:Bool->Sem Unit} (hg:∀ (b:Bool) (s₁ : Shared) (Q':Unit->Shared->Prop),Q' () s₁->wpAny (model prog w) A (g b) Q' E s₁) {es1:Array (Int × Value)} {t2:SetTable} {ks':List K}
  (S:cb knd s.heap a ks o es ep t) (he:∃ ls:List K,ls.Perm ks'/\Paired (Ent knd) es1.toList ls) (nd:ks'.Nodup) (cn:es1.size < scanBound) (fits:t2.fits es1.size=true) (led:t2.led=t.led) (up:Rp t2) {wd:Bool}
  {R:Option Bool->Shared->Prop} (q:∀ h',Heap.SameBut a s.heap h'->df knd h' a ks'->R (some true) { s with heap:=h' }) :
  wpAny (model prog w) A (storeSet a es1 t2 >>= fun _=>if (!wd && t2.tooFull)=true then g (relayAll t2 es1 (SetTable.grown es1.size)).2.2 >>= fun _ =>
   storeSet a (relayAll t2 es1 (SetTable.grown es1.size)).1 (relayAll t2 es1 (SetTable.grown es1.size)).2.1 >>= fun _=>pure (some true) else pure (some true)) R E s:=by
 refine wpAny_bind (wpAny_storeSet_of S.at_ S.data ?_ (fits_of_scanBound cn))
 have S1:=S.store he nd cn fits led up
 have b1:=Heap.SameBut.update s.heap a (Obj.putSet es1 t2)
 by_cases hc:(!wd && t2.tooFull)=true
 ·rw [if_pos hc]
  have p1:=relayAll_perm t2 es1 (SetTable.grown es1.size)
  have p2:=relayAll_fits t2 es1 (SetTable.grown es1.size)
  have p3:=Rp.relayAll t2 es1 (SetTable.grown es1.size)
  generalize relayAll t2 es1 (SetTable.grown es1.size)=R3 at p1 p2 p3
  obtain⟨es3,t3,gv⟩:=R3
  obtain⟨ls,l1,l2⟩:=he
  obtain⟨ls3,l3,l4⟩:=ia p1 l2
  have z:es3.size=es1.size:=by rw [<-Array.length_toList,p1.length_eq,Array.length_toList]
  have few3:es3.size < scanBound:=by rw [z];exact cn
  refine wpAny_bind (hg _ _ _ ?_)
  refine wpAny_bind (wpAny_storeSet_of S1.at_ S1.data ?_ (fits_of_scanBound few3))
  exact wpAny_pure (q _ (b1.trans (Heap.SameBut.update _ a _)) ⟨_,_,_,_,S1.store ⟨ls3,l3.trans l1,l4⟩ nd few3 p2 p3.2 p3.1⟩)
 ·rw [if_neg hc]
  exact wpAny_pure (q _ b1 ⟨_,_,_,_,S1⟩)
theorem rW {k:K} {x:Value} {Q:Bool->Shared->Prop} (hk:knd.is k x=true) (hsc:x.scannable=true) (S:df knd s.heap a ks) (room:ks.length+1 < scanBound)
  (q:∀ h',Heap.SameBut a s.heap h'->df knd h' a (if k ∈ ks then ks else ks ++ [k])->Q (!decide (k ∈ ks)) { s with heap:=h' }) :
  wpAny (model prog w) A (setAddHashed a x (knd.hash k)) Q E s:=by
 obtain⟨o,es,ep,t,S⟩:=S
 have few1:es.size+1 < scanBound:=by rw [S.len];exact room
 unfold setAddHashed setAddHashedIn
 refine wpAny_holding (wpAny_bind (wpAny_setState_of S.at_ S.data S.fits ?_))
 dsimp only
 rw [byScan_of hsc S.cn S.elems]
 simp only [↓reduceIte]
 unfold setAddByScan
 refine wpAny_bind (wpAny_bind (wpAny_rule ?_))
 refine wpAny_bind (wpAny_setScan_of hk S.at_ S.data S.fits S.elems ?_)
 cases hr:List.findIdx? (fun e=>knd.is k e.2) es.toList with
 | some j =>
  obtain⟨hj,hpj,_⟩:=List.findIdx?_eq_some_iff_getElem.mp hr
  have hin:k ∈ ks:=(S.mem k).mpr ⟨es.toList[j],List.getElem_mem hj,hpj⟩
  refine wpAny_pure (wpAny_pure ?_)
  have:=q s.heap (Heap.SameBut.refl a s.heap) (by rw [if_pos hin];exact⟨o,es,ep,t,S⟩)
  rw [decide_eq_true hin] at this
  exact this
 | none =>
  have hin:¬ k ∈ ks:=fun z=>by
   obtain⟨e,he,hp⟩:=(S.mem k).mp z
   have:=List.findIdx?_eq_none_iff.mp hr e he
   rw [hp] at this;exact Bool.noConfusion this
  rw [if_neg hin,decide_eq_false hin] at q
  have p1:=layNew_perm t es (knd.hash k) x
  have p2:=layNew_fits t es (knd.hash k) x
  have p3:=S.up.layNew es (knd.hash k) x
  dsimp only
  generalize layNew t es (knd.hash k) x=L at p1 p2 p3 ⊢
  obtain⟨es1,t1,wd,gv⟩:=L
  dsimp only at p1 p2 p3 ⊢
  rw [Array.toList_push] at p1
  have hE:∃ ls:List K,ls.Perm (ks ++ [k])/\Paired (Ent knd) es1.toList ls:=by
   obtain⟨ls,l1,l2⟩:=S.ents
   obtain⟨m,m1,m2⟩:=ia p1 (jZ (F:=Ent knd) (x:=(knd.hash k,x)) (y:=k) ⟨hk,rfl,hsc⟩ l2)
   exact⟨m,m1.trans (l1.append_right _),m2⟩
  have nd1:(ks ++ [k]).Nodup:=by
   rw [List.nodup_append]
   exact⟨S.nd,by simp,fun y hy z hz e=>hin (by rw [List.mem_singleton] at hz;rw [<-hz,<-e];exact hy)⟩
  have few2:es1.size < scanBound:=by rw [<-Array.length_toList,p1.length_eq,List.length_append,Array.length_toList];simpa using few1
  have gw:∀ (b:Bool) (s₁ : Shared) (Q':Unit->Shared->Prop),Q' () s₁->wpAny (model prog w) A (match b with | true=>rule "set.scan.the-table-gave-way" | false=>pure ()) Q' E s₁:=fun b s₁ Q' hq=>by
   cases b
   ·exact wpAny_pure hq
   ·exact wpAny_rule hq
  refine wpAny_bind (gw _ _ _ ?_)
  by_cases hp:t1.plain=true
  ·rw [if_pos hp]
   refine wpAny_bind ?_
   rw [hashByValue_scannable 8 hsc]
   refine wpAny_pure ?_
   by_cases hv:plainKind x=true
   ·rw [if_pos hv]
    exact kn gw S hE nd1 few2 p2 p3.2 p3.1 fun h' b Sk=>wpAny_pure (q h' b Sk)
   ·rw [if_neg hv]
    exact kn gw S hE nd1 few2 (SetTable.fits_plain_off p2) p3.2 (fun z=>by cases z) fun h' b Sk=>wpAny_pure (q h' b Sk)
  ·rw [if_neg hp]
   refine wpAny_bind (wpAny_pure ?_)
   rw [if_pos rfl]
   exact kn gw S hE nd1 few2 p2 p3.2 p3.1 fun h' b Sk=>wpAny_pure (q h' b Sk)
theorem je {led:Bool} (hl:led = !(w.params.followText "set-order")) (at_:h.get? a=some { cls:=.type "set",dict:=none,data:=.set #[] 0 (.fresh 0 0 led) }):df knd h a [] :=
 ⟨_,#[],0,_,at_,⟨rfl,rfl,rfl⟩,rfl,⟨[],.refl _,.nil⟩,List.nodup_nil,by decide,by rfl,hl,fun _=>Up.cn (Nat.zero_le _)⟩
end
theorem iG {α : Type}:∀ (l:List α) (i:Nat) (h:i < l.length),(l[i] :: l.eraseIdx i).Perm l
 | x :: l,0,_=>.refl _
 | x :: l,i+1,h=>by
  have hi:i < l.length:=by simpa using h
  have ih:=iG l i hi
  show (l[i] :: x :: l.eraseIdx i).Perm (x :: l)
  exact (List.Perm.swap x _ _).trans (ih.cons x)
theorem t9 {α : Type} (f:Nat->Nat):∀ (n k:Nat) (l:List α) (out:Array α),l.length=n->(pickOrder.go f n k l out).toList.Perm (out.toList++l):=by
 intro n
 induction n with
 | zero =>
  intro k l out hl
  have:l = []:=List.length_eq_zero_iff.mp hl
  subst this
  unfold pickOrder.go
  simp
 | succ n ih =>
  intro k l out hl
  unfold pickOrder.go
  have hlt:f k % l.length < l.length:=Nat.mod_lt _ (by omega)
  rw [List.getElem?_eq_getElem hlt]
  dsimp only
  refine (ih _ _ _ (by rw [List.length_eraseIdx_of_lt hlt];omega)).trans ?_
  rw [Array.toList_push,List.append_assoc]
  refine List.Perm.append_left _ ?_
  exact iG _ _ hlt
theorem fA {α : Type} (f:Nat->Nat) (xs:Array α):(pickOrder f xs).toList.Perm xs.toList:=by
 unfold pickOrder
 have:=t9 f xs.size 0 xs.toList #[] (by simp)
 simpa using this
section
variable {prog:Program} {w:World} {A:Around} {E:Value->Shared->Prop} {s:Shared}
theorem jG {Q:Bool->Shared->Prop} (q:Q (w.params.followText "set-order") s):wpAny (model prog w) A setsByText Q E s:=by
 unfold setsByText
 exact wpAny_bind (wpAny_askSetting (wpAny_pure q))
theorem xo {src:Source} {n:Nat} {Q:Nat->Shared->Prop} (hn:n ≠ 0) (q:∀ (i:Nat) (d:_),i < n->Q i { s with drawn:=d }):wpAny (model prog w) A (choose src n) Q E s:=by
 intro Γ p hΓ
 show Sem.wp _ _ (.choose src n .pure) _ _ _ _
 rw [Sem.wp_choose]
 exact⟨hn,q _ _ (Nat.mod_lt _ (Nat.pos_of_ne_zero hn))⟩
theorem zk:∀ (n:Nat) (xs:List Nat) (s:Shared) {Q:List Nat->Shared->Prop},xs.length=n->(∀ (ys:List Nat) (d:_),ys.Perm xs->Q ys { s with drawn:=d })->wpAny (model prog w) A (drawOrder n xs) Q E s:=by
 intro n
 induction n with
 | zero =>
  intro xs s Q hl q
  have:xs = []:=List.length_eq_zero_iff.mp hl
  subst this
  unfold drawOrder
  exact wpAny_pure (q [] s.drawn (.refl _))
 | succ n ih =>
  intro xs s Q hl q
  cases xs with
  | nil=>cases hl
  | cons x0 xs =>
   unfold drawOrder
   refine wpAny_bind (xo (by simp) fun i d hi=>?_)
   rw [List.getElem?_eq_getElem hi]
   dsimp only
   refine wpAny_bind (ih _ _ (by rw [List.length_eraseIdx_of_lt hi];omega) fun ys d' hp=>?_)
   refine wpAny_pure (q _ d' ?_)
   exact (hp.cons _).trans (iG _ _ hi)
end
section
variable {prog:Program} {w:World} {K:Type} [DecidableEq K] {knd:KeyKind prog w K}
variable {A:Around} {E:Value->Shared->Prop} {s:Shared} {a:Addr} {ks:List K} {o:Obj} {es:Array (Int × Value)} {ep:Nat} {t:SetTable}
theorem ua {slot i:Nat} {Q:Option (Value × Nat)->Shared->Prop} (S:cb knd s.heap a ks o es ep t) (hb:w.params.followText "set-order" = true)
  (q:Q (((pickOrder (w.params.setOrder a ep) es)[i]?).map fun e=>(e.2,slot)) s):wpAny (model prog w) A (setNext a slot i ep) Q E s:=by
 unfold setNext
 refine wpAny_bind (wpAny_setState_of S.at_ S.data S.fits ?_)
 dsimp only
 refine wpAny_bind (jG ?_)
 rw [hb,if_pos rfl]
 rw [if_neg (by simp)]
 unfold setWalk
 refine wpAny_bind (wpAny_bind (wpAny_setState_of S.at_ S.data S.fits ?_))
 dsimp only
 refine wpAny_bind (jG ?_)
 rw [hb,if_pos rfl]
 exact wpAny_bind (wpAny_askSetting (wpAny_pure (wpAny_pure q)))
theorem ub {slot i:Nat} {Q:Option (Value × Nat)->Shared->Prop} (S:cb knd s.heap a ks o es ep t) (hb:w.params.followText "set-order" = false) (hd:t.plain=true\/es.size<=1) (hs:SetTable.below t.place slot=i)
  (q:Q (match es[i]?,t.place[i]? with | some (_,x),some j=>some (x,j+1) | _,_=>none) s):wpAny (model prog w) A (setNext a slot i ep) Q E s:=by
 unfold setNext
 refine wpAny_bind (wpAny_setState_of S.at_ S.data S.fits ?_)
 dsimp only
 refine wpAny_bind (jG ?_)
 rw [hb,if_neg Bool.false_ne_true]
 refine wpAny_ite_split (fun h=>absurd (show (!t.plain && decide (es.size > 1))=true from h) ?_) (fun _=>?_)
 ·rcases hd with h | h
  ·rw [h];simp
  ·rw [show decide (es.size > 1)=false by simp;omega];simp
 have hl:t.led=true:=by rw [S.led,hb];rfl
 refine wpAny_bind ?_
 show wpAny _ _ (if (!t.led && !es.isEmpty)=true then unsupported "set:maker-not-led" else pure ()) _ _ s
 rw [hl,if_neg (by simp)]
 refine wpAny_pure ?_
 rw [hs]
 exact wpAny_pure q
theorem yF {i:Nat} {e:Int × Value} {Q:Value->Shared->Prop} (S:cb knd s.heap a ks o es ep t) (he:es[i]? = some e) (q:Q e.2 s):wpAny (model prog w) A (setNextDrawn a i ep) Q E s:=by
 unfold setNextDrawn
 refine wpAny_bind (wpAny_setState_of S.at_ S.data S.fits ?_)
 dsimp only
 rw [if_neg (by simp)]
 rw [he]
 exact wpAny_pure q
theorem slot_next:Slot "set_iterator" "__next__" "set_iterator.__next__" :=
  Slot.of (owner := "set_iterator") (n := "__next__")
    (by rw [typeLookup_type,builtinLookup_eq_fast]
        kernel_rfl)
    (by decide +kernel)
    (by decide +kernel)
    (by decide +kernel)
    (by first
      | exact .inl (by decide +kernel)
      | exact .inr (by decide +kernel))
    (by rw [isSubtype_type]
        kernel_rfl)
theorem entry_next:entryFor table "set_iterator.__next__" = some Builtin.«set_iterator.__next__» :=
 entryFor_of_tree (by kernel_rfl)
theorem nG:Manifest.owners.lookup (String.ofList ['r','o','t','a','r','e','t','i','_','t','e','s'].reverse)=some Manifest.sig_set_iterator:=by
 kernel_rfl
theorem args_next (v:Value):argsOk "set_iterator.__next__" ⟨[v],[]⟩:=by
 unfold argsOk
 rw [signature?_of (id := "set_iterator.__next__") (n:=['_','_','t','x','e','n','_','_']) (o:=['r','o','t','a','r','e','t','i','_','t','e','s'])
  (by kernel_rfl) nG]
 kernel_rfl
end
def dC (h:Heap) (I:Addr) (first:Value) (i:Nat) (a:Addr) (n ep:Nat):Prop :=
 ∃ oI,h.get? I=some oI/\oI.cls=.type "set_iterator" /\ oI.data=.fields #[first,.int i 0,.ref a,.int n 0,.int ep 0]
theorem dC.type {s:Shared} {I:Addr} {first:Value} {i:Nat} {a:Addr} {n ep:Nat} (h:dC s.heap I first i a n ep):s.TypeIs (.ref I) "set_iterator" := let ⟨o,e,c,_⟩:=h;⟨o,e,c⟩
theorem dC.keep {h h':Heap} {I:Addr} {first:Value} {i:Nat} {a:Addr} {n ep:Nat} (x:dC h I first i a n ep) (k:∀ o,h.get? I=some o->h'.get? I=some o):dC h' I first i a n ep :=
 let ⟨o,e,c⟩:=x;⟨o,k _ e,c⟩
section
variable {prog:Program} {w:World} {K:Type} [DecidableEq K] {knd:KeyKind prog w K}
variable {A:Around} {E:Value->Shared->Prop} {s:Shared} {a I:Addr} {ks:List K} {o:Obj} {es:Array (Int × Value)} {ep:Nat} {t:SetTable}
theorem o8 {slot nx i:Nat} {x:Value} {Q:Option Value->Shared->Prop} (hit:dC s.heap I (.int slot 0) i a es.size ep) (S:cb knd s.heap a ks o es ep t)
  (hn:∀ (A:Around) (E:Value->Shared->Prop) (Q:Option (Value × Nat)->Shared->Prop),Q (some (x,nx)) s->wpAny (model prog w) A (setNext a slot i ep) Q E s)
  (q:∀ h',dC h' I (.int nx 0) (i+1) a es.size ep->Heap.SameBut I s.heap h'->Q (some x) { s with heap:=h' }):wpAny (model prog w) A (pyNext (.ref I)) Q E s:=by
 obtain⟨oI,ho,hc,hd⟩:=id hit
 unfold pyNext
 refine wpAny_bind (wpAny_attempt (wpAny_callSpecial?_slot (name:=Str.ofString "__next__") hit.type slot_next (wpAny_call_entry slot_next hit.type entry_next ?_ (args_next _))))
 unfold Builtin.«set_iterator.__next__»
 refine wpAny_bind (wpAny_pure ?_)
 refine wpAny_bind (wpAny_fieldsOf ho hd ?_)
 dsimp only
 refine wpAny_bind (wpAny_setEntries_of S.at_ S.data S.fits ?_)
 rw [if_neg (by simp)]
 simp only [Int.toNat_natCast]
 refine wpAny_bind (hn _ _ _ ?_)
 dsimp only
 refine wpAny_bind (wpAny_setField ho hd (by simp) ?_)
 have d1:(Obj.mapFields (·.setIfInBounds 0 (rawInt (nx:Int))) oI).data=.fields #[.int nx 0,.int i 0,.ref a,.int es.size 0,.int ep 0]:=by rw [Obj.data_mapFields hd];simp [rawInt]
 have g1:=Heap.get?_update_self (Obj.mapFields (·.setIfInBounds 0 (rawInt (nx:Int)))) ho (Obj.isFreed_of_fields (Obj.data_mapFields hd _))
 refine wpAny_bind (wpAny_setField g1 d1 (by simp) ?_)
 refine wpAny_pure ⟨_,rfl,wpAny_pure (q _ ⟨_,Heap.get?_update_self _ g1 (Obj.isFreed_of_fields (Obj.data_mapFields d1 _)),?_,?_⟩ ((Heap.SameBut.update ..).trans (Heap.SameBut.update ..)))⟩
 ·exact (Obj.cls_mapFields ..).trans ((Obj.cls_mapFields ..).trans hc)
 ·rw [Obj.data_mapFields d1];simp [rawInt]
theorem j0 {Q:Option Value->Shared->Prop} {s0:Shared} (hh:A.handled=none) (hk:∀ b o,b ≠ I->s0.heap.get? b=some o->s.heap.get? b=some o)
  (q:∀ h',(∀ b o,b ≠ I->s0.heap.get? b=some o->h'.get? b=some o)->Q none { s with heap:=h' }) :
  wpAny (model prog w) A.in1 (newExc (.type "StopIteration") [] >>= fun e=>(raiseNew e:Sem Fin)) (fun _ _=>False)
   (fun e s'=>wpAny (model prog w) A (isInstance e (.type "StopIteration") >>= fun b=>if b=true then pure none else throw e) Q E s') s:=by
 refine wpAny_bind ?_
 simp only [newExc,newTuple]
 refine wpAny_bind (wpAny_newObj_type ?_ (by size_fits))
 refine wpAny_bind (m:=firstArgMember _ _) (wpAny_of_eq (a:=Value.none) (by first | rfl | (simp only [firstArgMember];rfl)) ?_)
 refine wpAny_newObj_type ?_ (by size_fits)
 simp only [raiseNew]
 refine wpAny_bind (wpAny_handled ?_)
 rw [show A.in1.handled=none from hh]
 refine wpAny_bind (wpAny_pure (wpAny_throw ?_))
 refine wpAny_bind (wpAny_isInstance (T := "StopIteration") (b:=true) ⟨_,Heap.get?_push_size _ rfl,rfl⟩ isSubtype_stop ?_)
 exact wpAny_pure (q _ fun b o hb e=>Heap.get?_push_of_some _ (Heap.get?_push_of_some _ (hk b o hb e)))
theorem qM {slot i:Nat} {Q:Option Value->Shared->Prop} (hh:A.handled=none) (hit:dC s.heap I (.int slot 0) i a es.size ep) (S:cb knd s.heap a ks o es ep t)
  (hn:∀ (A:Around) (E:Value->Shared->Prop) (Q:Option (Value × Nat)->Shared->Prop),Q none s->wpAny (model prog w) A (setNext a slot i ep) Q E s)
  (q:∀ h',(∀ b o,b ≠ I->s.heap.get? b=some o->h'.get? b=some o)->Q none { s with heap:=h' }):wpAny (model prog w) A (pyNext (.ref I)) Q E s:=by
 obtain⟨oI,ho,hc,hd⟩:=id hit
 unfold pyNext
 refine wpAny_bind (wpAny_attempt (wpAny_callSpecial?_slot (name:=Str.ofString "__next__") hit.type slot_next (wpAny_call_entry slot_next hit.type entry_next ?_ (args_next _))))
 unfold Builtin.«set_iterator.__next__»
 refine wpAny_bind (wpAny_pure ?_)
 refine wpAny_bind (wpAny_fieldsOf ho hd ?_)
 dsimp only
 refine wpAny_bind (wpAny_setEntries_of S.at_ S.data S.fits ?_)
 rw [if_neg (by simp)]
 simp only [Int.toNat_natCast]
 refine wpAny_bind (hn _ _ _ ?_)
 dsimp only
 refine wpAny_bind (wpAny_setField ho hd (by simp) ?_)
 refine wpAny_mono (j0 (I:=I) (s0:=s) (E:=E) (Q:=Q) hh (fun b o hb e=>(Heap.get?_update_other _ _ (Ne.symm hb)).trans e) fun h' k=>q h' k) (fun _ _ z=>z.elim) fun e s' z=>z
theorem vt {T:Addr} {i k:Nat} {oT:Obj} {its:Array Value} {c:Nat} {x:Int × Value} {Q:Option Value->Shared->Prop} (hit:dC s.heap I (.ref T) i a es.size ep) (S:cb knd s.heap a ks o es ep t)
  (hT:s.heap.get? T=some oT) (dT:oT.data=.seq its c) (hk:its[i]? = some (.int k 0)) (hx:es[k]? = some x)
  (q:∀ h',dC h' I (.ref T) (i+1) a es.size ep->Heap.SameBut I s.heap h'->Q (some x.2) { s with heap:=h' }):wpAny (model prog w) A (pyNext (.ref I)) Q E s:=by
 obtain⟨oI,ho,hc,hd⟩:=id hit
 unfold pyNext
 refine wpAny_bind (wpAny_attempt (wpAny_callSpecial?_slot (name:=Str.ofString "__next__") hit.type slot_next (wpAny_call_entry slot_next hit.type entry_next ?_ (args_next _))))
 unfold Builtin.«set_iterator.__next__»
 refine wpAny_bind (wpAny_pure ?_)
 refine wpAny_bind (wpAny_fieldsOf ho hd ?_)
 dsimp only
 refine wpAny_bind (wpAny_setEntries_of S.at_ S.data S.fits ?_)
 rw [if_neg (by simp)]
 refine wpAny_bind (wpAny_seqItems hT dT ?_)
 dsimp only
 simp only [Int.toNat_natCast]
 rw [hk]
 dsimp only
 simp only [Int.toNat_natCast]
 refine wpAny_bind (yF S hx ?_)
 refine wpAny_bind (wpAny_setField ho hd (by simp) ?_)
 refine wpAny_pure ⟨_,rfl,wpAny_pure (q _ ⟨_,Heap.get?_update_self _ ho (Obj.isFreed_of_fields (Obj.data_mapFields hd _)),?_,?_⟩ (Heap.SameBut.update ..))⟩
 ·exact (Obj.cls_mapFields ..).trans hc
 ·rw [Obj.data_mapFields hd];simp [rawInt]
theorem xp {T:Addr} {i:Nat} {oT:Obj} {its:Array Value} {c:Nat} {Q:Option Value->Shared->Prop} (hh:A.handled=none) (hit:dC s.heap I (.ref T) i a es.size ep) (S:cb knd s.heap a ks o es ep t)
  (hT:s.heap.get? T=some oT) (dT:oT.data=.seq its c) (hk:its[i]? = none)
  (q:∀ h',(∀ b o,b ≠ I->s.heap.get? b=some o->h'.get? b=some o)->Q none { s with heap:=h' }):wpAny (model prog w) A (pyNext (.ref I)) Q E s:=by
 obtain⟨oI,ho,hc,hd⟩:=id hit
 unfold pyNext
 refine wpAny_bind (wpAny_attempt (wpAny_callSpecial?_slot (name:=Str.ofString "__next__") hit.type slot_next (wpAny_call_entry slot_next hit.type entry_next ?_ (args_next _))))
 unfold Builtin.«set_iterator.__next__»
 refine wpAny_bind (wpAny_pure ?_)
 refine wpAny_bind (wpAny_fieldsOf ho hd ?_)
 dsimp only
 refine wpAny_bind (wpAny_setEntries_of S.at_ S.data S.fits ?_)
 rw [if_neg (by simp)]
 refine wpAny_bind (wpAny_seqItems hT dT ?_)
 dsimp only
 simp only [Int.toNat_natCast]
 rw [hk]
 dsimp only
 refine wpAny_bind (wpAny_setField ho hd (by simp) ?_)
 have d1:(Obj.mapFields (·.setIfInBounds 0 (rawInt 0)) oI).data=.fields #[.int 0 0,.int i 0,.ref a,.int es.size 0,.int ep 0]:=by rw [Obj.data_mapFields hd];simp [rawInt]
 have g1:=Heap.get?_update_self (Obj.mapFields (·.setIfInBounds 0 (rawInt 0))) ho (Obj.isFreed_of_fields (Obj.data_mapFields hd _))
 refine wpAny_bind (wpAny_setField g1 d1 (by simp) ?_)
 refine wpAny_mono (j0 (I:=I) (s0:=s) (E:=E) (Q:=Q) hh (fun b o hb e=>(Heap.get?_update_other _ _ (Ne.symm hb)).trans ((Heap.get?_update_other _ _ (Ne.symm hb)).trans e)) fun h' k=>q h' k) (fun _ _ z=>z.elim) fun e s' z=>z
theorem lH:Slot "set_iterator" "__iter__" "set_iterator.__iter__" :=
  Slot.of (owner := "set_iterator") (n := "__iter__")
    (by rw [typeLookup_type,builtinLookup_eq_fast]
        kernel_rfl)
    (by decide +kernel)
    (by decide +kernel)
    (by decide +kernel)
    (by first
      | exact .inl (by decide +kernel)
      | exact .inr (by decide +kernel))
    (by rw [isSubtype_type]
        kernel_rfl)
theorem p5:entryFor table "set_iterator.__iter__" = some Builtin.«dict_keyiterator.__iter__» :=
 entryFor_alias (id' := "dict_keyiterator.__iter__")
  (by kernel_rfl) rfl
  (by decide +kernel)
  (by kernel_rfl)
theorem rX (v:Value):argsOk "set_iterator.__iter__" ⟨[v],[]⟩:=by
 unfold argsOk
 rw [signature?_of (id := "set_iterator.__iter__") (n:=['_','_','r','e','t','i','_','_']) (o:=['r','o','t','a','r','e','t','i','_','t','e','s'])
  (by kernel_rfl) nG]
 kernel_rfl
theorem jf {first:Value} {i:Nat} {Q:Value->Shared->Prop} {n:Nat} (hit:dC s.heap I first i a n ep) (q:Q (.ref I) s):wpAny (model prog w) A (pyIter (.ref I)) Q E s:=by
 refine wpAny_pyIter_slot hit.type lH (wpAny_call_entry lH hit.type p5 ?_ (rX _))
 show wpAny _ _ (ret (.ref I)) _ _ s
 exact wpAny_pure ⟨_,rfl, "set_iterator",_,hit.type,slot_next.lookup,q⟩
theorem yG (hh:A.handled=none) (hI:a ≠ I) (hb:w.params.followText "set-order" = true) (nd:True) :
  Walks prog w A I [I,a] [I] es.size (fun i v=>∃ e,(pickOrder (w.params.setOrder a ep) es)[i]? = some e/\e.2=v) (fun i h=>dC h I (.int 0 0) i a es.size ep/\cb knd h a ks o es ep t) where
 sub:=fun b hb=>by simp at hb;simp [hb]
 frame:=fun _ _ _ st k=>⟨st.1.keep fun o e=>k I (by simp) o e,st.2.keep fun o e=>k a (by simp) o e⟩
 item:=fun i s Q E hi st q=>by
  have z:(pickOrder (w.params.setOrder a ep) es).size=es.size:=by have:=(fA (w.params.setOrder a ep) es).length_eq;simpa using this
  have g:(pickOrder (w.params.setOrder a ep) es)[i]? = some ((pickOrder (w.params.setOrder a ep) es)[i]'(by omega)):=by simp
  refine o8 (slot:=0) (nx:=0) st.1 st.2 (fun A E Q h=>ua st.2 hb (by rw [g];exact h)) fun h' hit' sb=>?_
  exact q _ h' s.toks ⟨_,g,rfl⟩ ⟨hit',st.2.keep fun o e=>sb.extBut a o hI e⟩ fun b o hb e=>sb.extBut b o (fun z=>hb (by simp [z])) e
 done:=fun s Q E st q=>by
  have z:(pickOrder (w.params.setOrder a ep) es).size=es.size:=by have:=(fA (w.params.setOrder a ep) es).length_eq;simpa using this
  refine qM (slot:=0) hh st.1 st.2 (fun A E Q h=>ua st.2 hb (by rw [Array.getElem?_eq_none (by omega)];exact h)) fun h' k=>?_
  exact q h' s.toks fun b o hb e=>k b o (fun z=>hb (by simp [z])) e
 self:=fun _ _ _ _ st q=>jf st.1 q
theorem ko {α : Type} {es:Array α}:∀ {ys:List Nat},(∀ k ∈ ys,k < es.size)->∀ i:Nat,(ys.filterMap fun k=>es[k]?)[i]? = (ys[i]?).bind fun k=>es[k]?
 | [],_,i=>by simp
 | y :: ys,h,i=>by
  have hy:es[y]? = some (es[y]'(h y (List.mem_cons_self ..))):=by simp
  rw [List.filterMap_cons,hy]
  cases i with
  | zero=>simp
  | succ i =>
   have:=ko (ys:=ys) (fun k hk=>h k (List.mem_cons_of_mem _ hk)) i
   simpa using this
def lI (t:SetTable):Nat->Nat
 | 0=>0
 | i+1=>t.place.getD i 0+1
theorem lJ {t:SetTable} (up:Up t.place) {i:Nat} (h:i<=t.place.size):SetTable.below t.place (lI t i)=i:=by
 cases i with
 | zero=>exact rV up
 | succ i =>
  have hi:i < t.place.size:=by omega
  have e:t.place[i]? = some (t.place.getD i 0):=by simp [Array.getD,hi]
  exact rT up e
theorem yH (hh:A.handled=none) (hI:a ≠ I) (hb:w.params.followText "set-order" = false) (hd:t.plain=true\/es.size<=1) (hf:t.fits es.size=true) (hr:Rp t) :
  Walks prog w A I [I,a] [I] es.size (fun i v=>∃ e,es[i]? = some e/\e.2=v) (fun i h=>dC h I (.int (lI t i) 0) i a es.size ep/\cb knd h a ks o es ep t) where
 sub:=fun b hb=>by simp at hb;simp [hb]
 frame:=fun _ _ _ st k=>⟨st.1.keep fun o e=>k I (by simp) o e,st.2.keep fun o e=>k a (by simp) o e⟩
 item:=fun i s Q E hi st q=>by
  have z:t.place.size=es.size:=by simp only [SetTable.fits,Bool.and_eq_true,beq_iff_eq] at hf;exact hf.1
  have up:Up t.place:=by
   rcases hd with c | c
   ·exact hr c
   ·exact Up.cn (by omega)
  have g:es[i]? = some es[i]:=by simp [hi]
  have gp:t.place[i]? = some (t.place.getD i 0):=by simp [Array.getD,z,hi]
  refine o8 (slot:=lI t i) (nx:=lI t (i+1)) (x:=es[i].2) st.1 st.2 (fun A E Q h=>ub st.2 hb hd (lJ up (by omega)) (by rw [g,gp];exact h)) fun h' hit' sb=>?_
  exact q _ h' s.toks ⟨_,g,rfl⟩ ⟨hit',st.2.keep fun o e=>sb.extBut a o hI e⟩ fun b o hb e=>sb.extBut b o (fun z=>hb (by simp [z])) e
 done:=fun s Q E st q=>by
  have z:t.place.size=es.size:=by simp only [SetTable.fits,Bool.and_eq_true,beq_iff_eq] at hf;exact hf.1
  have up:Up t.place:=by
   rcases hd with c | c
   ·exact hr c
   ·exact Up.cn (by omega)
  refine qM (slot:=lI t es.size) hh st.1 st.2 (fun A E Q h=>ub st.2 hb hd (lJ up (by omega)) (by rw [Array.getElem?_eq_none (Nat.le_refl _)];exact h)) fun h' k=>?_
  exact q h' s.toks fun b o hb e=>k b o (fun z=>hb (by simp [z])) e
 self:=fun _ _ _ _ st q=>jf st.1 q
theorem yI {T:Addr} {oT:Obj} {ys:List Nat} (hh:A.handled=none) (hI:a ≠ I) (hT:T ≠ I) (dT:oT.data=.seq (ys.map fun (i:Nat)=>rawInt i).toArray 0) (hp:ys.Perm (List.range es.size)) :
  Walks prog w A I [I,a,T] [I] es.size (fun i v=>∃ e,((ys.filterMap fun k=>es[k]?))[i]? = some e/\e.2=v) (fun i h=>dC h I (.ref T) i a es.size ep/\cb knd h a ks o es ep t/\h.get? T=some oT) where
 sub:=fun b hb=>by simp at hb;simp [hb]
 frame:=fun _ _ _ st k=>⟨st.1.keep fun o e=>k I (by simp) o e,st.2.1.keep fun o e=>k a (by simp) o e,k T (by simp) _ st.2.2⟩
 item:=fun i s Q E hi st q=>by
  have hl:ys.length=es.size:=by rw [hp.length_eq,List.length_range]
  have hin:∀ k ∈ ys,k < es.size:=fun k hk=>List.mem_range.mp (hp.mem_iff.mp hk)
  have h1:ys[i]? = some (ys[i]'(by omega)):=by simp
  have hk:ys[i]'(by omega) < es.size:=hin _ (List.getElem_mem _)
  generalize ys[i]'(by omega)=k at h1 hk
  have hx:es[k]? = some es[k]:=by simp [hk]
  have hv:(ys.filterMap fun k=>es[k]?)[i]? = some es[k]:=by
   rw [ko hin,h1]
   exact hx
  refine vt (k:=k) (x:=es[k]) st.1 st.2.1 st.2.2 dT (by simp [h1,rawInt]) hx fun h' hit' sb=>?_
  exact q _ h' s.toks ⟨_,hv,rfl⟩ ⟨hit',st.2.1.keep fun o e=>sb.extBut a o hI e,sb.extBut T _ hT st.2.2⟩ fun b o hb e=>sb.extBut b o (fun z=>hb (by simp [z])) e
 done:=fun s Q E st q=>by
  have hl:ys.length=es.size:=by rw [hp.length_eq,List.length_range]
  refine xp hh st.1 st.2.1 st.2.2 dT (by simp [hl]) fun h' k=>?_
  exact q h' s.toks fun b o hb e=>k b o (fun z=>hb (by simp [z])) e
 self:=fun _ _ _ _ st q=>jf st.1 q
theorem jg {b x y:Addr} (h:b ∈ [x,y]):b=x\/b=y:=by simpa using h
theorem vv {b x y z:Addr} (h:b ∈ [x,y,z]):b=x\/b=y\/b=z:=by simpa using h
theorem rY:entryFor table "set.__iter__" = some Builtin.«frozenset.__iter__» :=
 entryFor_alias (id' := "frozenset.__iter__")
  (by kernel_rfl) rfl
  (by decide +kernel)
  (by kernel_rfl)
theorem cb.typeIs (S:cb knd s.heap a ks o es ep t):s.TypeIs (.ref a) "set" := ⟨o,S.at_,S.ex.1⟩
theorem p6 {Q:Bool->Shared->Prop} (S:cb knd s.heap a ks o es ep t) (q:Q (!(w.params.followText "set-order") && (!t.plain && decide (es.size > 1))) s):wpAny (model prog w) A (setDrawn a) Q E s:=by
 unfold setDrawn
 refine wpAny_bind (wpAny_setState_of S.at_ S.data S.fits ?_)
 dsimp only
 exact wpAny_bind (jG (wpAny_pure q))
def Comes (es:Array (Int × Value)) (P:Nat->Value->Prop):Prop:=∃ l:List (Int × Value),l.Perm es.toList/\P=fun i v=>∃ e,l[i]? = some e/\e.2=v
theorem vw {Q:Value->Shared->Prop} (hh:A.handled=none) (S:cb knd s.heap a ks o es ep t)
  (q:∀ (I:Addr) (h':Heap) (d:_) (fp:List Addr) (P:Nat->Value->Prop) (St:Nat->Heap->Prop),(∀ b o,s.heap.get? b=some o->h'.get? b=some o)->s.heap.objs.size<=I->(∀ b ∈ fp,b < h'.objs.size)->(∀ b,h'.objs.size<=b->b ∉ fp) ->
   (∀ b ∈ fp,b=a\/s.heap.objs.size<=b)->Comes es P->(∀ A:Around,A.handled=none->Walks prog w A I fp [I] es.size P St)->St 0 h'->Q (.ref I) { s with heap:=h',drawn:=d }) :
  wpAny (model prog w) A (pyIter (.ref a)) Q E s:=by
 have la:a < s.heap.objs.size:=Heap.lt_size S.at_
 refine wpAny_pyIter_slot S.typeIs PySem.F.slot_set_iter (wpAny_call_entry PySem.F.slot_set_iter S.typeIs rY ?_ (PySem.F.args_set_iter_1 _))
 unfold Builtin.«frozenset.__iter__»
 refine wpAny_bind ?_
 unfold Builtin.Frozenset.slot0
 refine wpAny_bind (wpAny_pure ?_)
 refine wpAny_pure ?_
 refine wpAny_bind ?_
 unfold Builtin.Frozenset.sizeOf
 refine wpAny_bind (wpAny_setEntries_of S.at_ S.data S.fits (wpAny_pure ?_))
 refine wpAny_bind (p6 S ?_)
 cases hb:w.params.followText "set-order" with
 | true =>
  rw [Bool.not_true,Bool.false_and,if_neg Bool.false_ne_true]
  refine wpAny_bind (wpAny_pure ?_)
  refine wpAny_bind (wpAny_setEpoch_of S.at_ S.data S.fits ?_)
  refine wpAny_bind ?_
  simp only [newFields]
  refine wpAny_newObj_type (wpAny_pure ⟨_,rfl, "set_iterator",_,⟨_,Heap.get?_push_size _ rfl,rfl⟩,slot_next.lookup,?_⟩) (by size_fits)
  refine q _ _ s.drawn [s.heap.objs.size,a] _ _ (fun b o e=>Heap.get?_push_of_some _ e) (Nat.le_refl _) (fun b hb=>?_) (fun b hb hm=>?_) (fun b hb=>?_) ⟨_,fA (w.params.setOrder a ep) es,?_⟩ (fun A hh=>yG (knd:=knd) (ks:=ks) (o:=o) (t:=t) hh (Nat.ne_of_lt la) hb trivial) ⟨⟨_,Heap.get?_push_size _ rfl,rfl,rfl⟩,S.keep fun o e=>Heap.get?_push_of_some _ e⟩
  ·rw [Heap.size_push]
   rcases jg hb with e | e
   ·rw [e];exact Nat.lt_succ_self _
   ·rw [e];exact Nat.lt_succ_of_lt la
  ·rw [Heap.size_push] at hb
   rcases jg hm with e | e
   ·rw [e] at hb;exact Nat.not_succ_le_self _ hb
   ·rw [e] at hb;exact Nat.lt_irrefl _ (Nat.lt_of_lt_of_le la (Nat.le_of_succ_le hb))
  ·rcases jg hb with e | e
   ·exact .inr (by rw [e];exact Nat.le_refl _)
   ·exact .inl e
  ·funext i v;simp
 | false =>
  rw [Bool.not_false,Bool.true_and]
  by_cases hd:(!t.plain && decide (es.size > 1))=true
  ·rw [hd,if_pos rfl]
   refine wpAny_bind (zk es.size (List.range es.size) s (by simp) fun ys d hp=>?_)
   have hz:(ys.map fun (i:Nat)=>rawInt i).length<=sizeLine:=by rw [List.length_map,hp.length_eq,List.length_range];exact fits_of_scanBound S.cn
   refine wpAny_bind (wpAny_newTuple ?_ hz)
   have S1:cb knd (s.heap.push { cls:=.type "tuple",data:=.seq (ys.map fun (i:Nat)=>rawInt i).toArray }) a ks o es ep t:=S.keep fun o e=>Heap.get?_push_of_some _ e
   refine wpAny_bind (wpAny_setEpoch_of S1.at_ S1.data S1.fits ?_)
   refine wpAny_bind ?_
   simp only [newFields]
   refine wpAny_newObj_type (wpAny_pure ⟨_,rfl, "set_iterator",_,⟨_,Heap.get?_push_size _ rfl,rfl⟩,slot_next.lookup,?_⟩) (by size_fits)
   refine q _ _ d [(s.heap.push { cls:=.type "tuple",data:=.seq (ys.map fun (i:Nat)=>rawInt i).toArray }).objs.size,a,s.heap.objs.size] _ _ (fun b o e=>Heap.get?_push_of_some _ (Heap.get?_push_of_some _ e)) (by rw [Heap.size_push];exact Nat.le_succ _) (fun b hb=>?_) (fun b hb hm=>?_) (fun b hb=>?_) ⟨ys.filterMap fun k=>es[k]?,?_,rfl⟩
    (fun A hh=>yI (knd:=knd) (ks:=ks) (o:=o) (t:=t) (oT:={ cls:=.type "tuple",data:=.seq (ys.map fun (i:Nat)=>rawInt i).toArray }) hh (by rw [Heap.size_push];exact Nat.ne_of_lt (Nat.lt_succ_of_lt la)) (by rw [Heap.size_push];exact Nat.ne_of_lt (Nat.lt_succ_self _)) rfl hp) ⟨⟨_,Heap.get?_push_size _ rfl,rfl,rfl⟩,S1.keep fun o e=>Heap.get?_push_of_some _ e,Heap.get?_push_of_some _ (Heap.get?_push_size _ rfl)⟩
   ·rw [Heap.size_push,Heap.size_push]
    rcases vv hb with e | e | e
    ·rw [e,Heap.size_push];exact Nat.lt_succ_self _
    ·rw [e];exact Nat.lt_succ_of_lt (Nat.lt_succ_of_lt la)
    ·rw [e];exact Nat.lt_succ_of_lt (Nat.lt_succ_self _)
   ·rw [Heap.size_push,Heap.size_push] at hb
    rcases vv hm with e | e | e
    ·rw [e,Heap.size_push] at hb;exact Nat.not_succ_le_self _ hb
    ·rw [e] at hb;exact Nat.lt_irrefl _ (Nat.lt_of_lt_of_le la (Nat.le_of_succ_le (Nat.le_of_succ_le hb)))
    ·rw [e] at hb;exact Nat.not_succ_le_self _ (Nat.le_of_succ_le hb)
   ·rcases vv hb with e | e | e
    ·exact .inr (by rw [e,Heap.size_push];exact Nat.le_succ _)
    ·exact .inl e
    ·exact .inr (by rw [e];exact Nat.le_refl _)
   ·refine (hp.filterMap _).trans ?_
    have:((List.range es.size).filterMap fun k=>es[k]?)=es.toList:=by
     refine List.ext_getElem? fun i=>?_
     rw [ko (fun k hk=>List.mem_range.mp hk)]
     by_cases hi:i < es.size
     ·rw [List.getElem?_range hi];simp
     ·rw [List.getElem?_eq_none (by simp;omega),List.getElem?_eq_none (by simp;omega)];rfl
    rw [this]
  ·rw [if_neg hd]
   refine wpAny_bind (wpAny_pure ?_)
   refine wpAny_bind (wpAny_setEpoch_of S.at_ S.data S.fits ?_)
   refine wpAny_bind ?_
   simp only [newFields]
   refine wpAny_newObj_type (wpAny_pure ⟨_,rfl, "set_iterator",_,⟨_,Heap.get?_push_size _ rfl,rfl⟩,slot_next.lookup,?_⟩) (by size_fits)
   have hd':t.plain=true\/es.size<=1:=by
    cases hp:t.plain with
    | true=>exact .inl rfl
    | false=>right;rw [hp] at hd;simp at hd;exact hd
   refine q _ _ s.drawn [s.heap.objs.size,a] _ _ (fun b o e=>Heap.get?_push_of_some _ e) (Nat.le_refl _) (fun b hb=>?_) (fun b hb hm=>?_) (fun b hb=>?_) ⟨es.toList,.refl _,?_⟩ (fun A hh=>yH (knd:=knd) (ks:=ks) (o:=o) (t:=t) hh (Nat.ne_of_lt la) hb hd' S.fits S.up) ⟨⟨_,Heap.get?_push_size _ rfl,rfl,rfl⟩,S.keep fun o e=>Heap.get?_push_of_some _ e⟩
   ·rw [Heap.size_push]
    rcases jg hb with e | e
    ·rw [e];exact Nat.lt_succ_self _
    ·rw [e];exact Nat.lt_succ_of_lt la
   ·rw [Heap.size_push] at hb
    rcases jg hm with e | e
    ·rw [e] at hb;exact Nat.not_succ_le_self _ hb
    ·rw [e] at hb;exact Nat.lt_irrefl _ (Nat.lt_of_lt_of_le la (Nat.le_of_succ_le hb))
   ·rcases jg hb with e | e
    ·exact .inr (by rw [e];exact Nat.le_refl _)
    ·exact .inl e
   ·funext i v;simp
theorem vx {Q:Bool->Shared->Prop} (hT:s.TypeIs (.ref a) "set") (q:Q false s):wpAny (model prog w) A (Builtin.List.listLengthHint (.ref a)) Q E s:=by
 unfold Builtin.List.listLengthHint
 refine wpAny_bind (wpAny_specialOf hT PySem.F.slot_set_len.lookup ?_)
 generalize hid:("set.__len__" : String)=id0
 wp_delta
 rw [show splitId id0=some ("set", "__len__") from by subst hid;decide +kernel]
 subst hid
 refine wpAny_bind (wpAny_isInstance (T := "set") (b:=true) hT sub_set_self ?_)
 refine wpAny_ite_split (fun hab=>absurd hab (by decide)) (fun _=>?_)
 refine wpAny_ite_split (fun _=>?_) (fun hab=>absurd (by decide +kernel) hab)
 refine wpAny_bind (wpAny_typeOf hT ?_)
 exact wpAny_pure q
end
open PySem.Calls PySem.W
section
variable {prog:Program} {w:World} {K:Type} [DecidableEq K] {knd:KeyKind prog w K}
variable {A:Around} {E:Value->Shared->Prop} {s:Shared} {a:Addr} {ks:List K} {o:Obj} {es:Array (Int × Value)} {ep:Nat} {t:SetTable}
theorem p7 {P:Nat->Value->Prop} {got:Array Value} (hc:Comes es P) (hi:ItemsOf P got es.size):∃ l:List (Int × Value),l.Perm es.toList/\got.toList=l.map (·.2):=by
 obtain⟨l,hp,rfl⟩:=hc
 refine⟨l,hp,?_⟩
 have hl:l.length=es.size:=by rw [hp.length_eq,Array.length_toList]
 refine List.ext_getElem? fun i=>?_
 rw [List.getElem?_map]
 by_cases h:i < es.size
 ·have e1:got.toList[i]? = some (got[i]'(by rw [hi.1];exact h)):=by simp [hi.1,h]
  obtain⟨e,he,hv⟩:=hi.2 i _ (by rw [<-Array.getElem?_toList];exact e1)
  rw [e1,he,<-hv];rfl
 ·rw [List.getElem?_eq_none (by rw [Array.length_toList,hi.1];omega),List.getElem?_eq_none (by omega)];rfl
theorem rZ {R:Result->Shared->Prop} (hh:A.handled=none) (S:cb knd s.heap a ks o es ep t) (L:Addr) (hLa:L ≠ a) (hL:s.heap.get? L=some { cls:=.type "list",data:=.seq #[] 0 }) (res:Value)
  (fin:∀ (g:Heap) (tk:Nat) (d:_) (got:Array Value) (c:Nat),(∀ b o,b ≠ L->s.heap.get? b=some o->g.get? b=some o)->g.get? L=some { cls:=.type "list",dict:=none,data:=.seq got c,slots:=#[] } ->
   (∃ l:List (Int × Value),l.Perm es.toList/\got.toList=l.map (·.2))->R (.ok (.ret res)) { s with heap:=g,toks:=tk,drawn:=d }) :
  wpAny (model prog w) A.in1 (Builtin.List.listExtendWith (.ref L) (.ref a) res)
   (fun fin s'=>match fin with | .done f=>R (.ok f) s' | .again c'=>c'.quiet=true/\codeAny (model prog w) A c' R s') (fun e s'=>R (.error e) s') s:=by
 have hz:es.size<=sizeLine:=fits_of_scanBound S.cn
 unfold Builtin.List.listExtendWith
 refine wpAny_bind (wpAny_typeOf S.typeIs ?_)
 have h1:Builtin.List.listSameRef (.ref L) (.ref a)=false:=by simp [Builtin.List.listSameRef,hLa]
 rw [h1]
 have h2:(Value.type "set" == Value.type "list")=false:=by decide
 have h3:(Value.type "set" == Value.type "tuple")=false:=by decide
 rw [h2,h3]
 rw [if_neg (by decide)]
 refine wpAny_bind (vw (A:=A.in1) hh S fun I h1 d fp P St keep hI hfp hnew hof hc W st=>?_)
 have hLlt:L < s.heap.objs.size:=Heap.lt_size hL
 have hLf:L ∉ fp:=fun hm=>by
  rcases hof L hm with e | e
  ·exact hLa e
  ·exact Nat.lt_irrefl _ (Nat.lt_of_lt_of_le hLlt e)
 have hLI:L ≠ I:=fun e=>Nat.lt_irrefl _ (Nat.lt_of_lt_of_le hLlt (e ▸ hI))
 have Wk:=W A.in1 hh
 have loop:∀ (g:Heap) (c tk:Nat),St 0 g->(∀ b o,b ≠ L->s.heap.get? b=some o->g.get? b=some o)->g.get? L=some { cls:=.type "list",data:=.seq #[] c } ->
   codeAny (model prog w) A (.builtin "list.extend.loop" ⟨[.ref L,.ref I,res],[]⟩) R { s with heap:=g,toks:=tk,drawn:=d }:=by
  intro g c tk st' kp gL
  refine codeAny_extend_loopS Wk.toS hz L hLf res es.size 0 _ #[] c rfl (Nat.zero_le _) st' gL (ItemsOf.nil _) fun s' got c' mv gL' its=>?_
  have e:=Moved.eq_with mv
  rw [e]
  refine fin s'.heap s'.toks d got c' (fun b o hb e=>mv.heap b o (fun hm=>?_) (kp b o hb e)) gL' (p7 hc its)
  rcases List.mem_cons.mp hm with e' | hm
  ·exact hb e'
  ·rw [List.mem_singleton] at hm
   subst hm
   exact Nat.lt_irrefl _ (Nat.lt_of_lt_of_le (Heap.lt_size e) hI)
 have gL1:=keep _ _ hL
 refine wpAny_bind (wpAny_holding (vx ⟨o,keep _ _ S.at_,S.ex.1⟩ ?_))
 refine wpAny_ite_split (fun _=>?_) (fun _=>wpAny_pure ⟨plainId_quiet PySem.F.plain_extend_loop _,loop _ 0 _ st (fun b o _ e=>keep b o e) gL1⟩)
 refine wpAny_bind (wpAny_rule ?_)
 refine wpAny_bind ?_
 show wpAny _ _ (updateSeq L (·.push .none) >>= fun _=>updateSeq L (·.pop)) _ _ _
 refine wpAny_bind (wpAny_updateSeq gL1 rfl ?_)
 have gL2:=Heap.get?_update_self (Obj.mapSeq (·.push Value.none)) gL1 rfl
 refine wpAny_updateSeq (hz:=by seq_fits) gL2 rfl ?_
 have gL3:=Heap.get?_update_self (Obj.mapSeq (·.pop)) gL2 rfl
 refine wpAny_pure ⟨plainId_quiet PySem.F.plain_extend_loop _,loop _ _ _ ?_ (fun b o hb e=>?_) gL3⟩
 ·refine Wk.frame 0 _ _ st fun b hb o e=>?_
  have hbL:b ≠ L:=fun h=>hLf (h ▸ hb)
  exact (Heap.get?_update_other _ _ (Ne.symm hbL)).trans ((Heap.get?_update_other _ _ (Ne.symm hbL)).trans e)
 ·exact (Heap.get?_update_other _ _ (Ne.symm hb)).trans ((Heap.get?_update_other _ _ (Ne.symm hb)).trans (keep b o e))
theorem lK {G:List Value->Shared->Prop} (calm:A.handled=none) (S:cb knd s.heap a ks o es ep t)
  (fin:∀ (g:Heap) (tk:Nat) (d:_) (got:Array Value),(∀ b o,s.heap.get? b=some o->g.get? b=some o)->(∃ l:List (Int × Value),l.Perm es.toList/\got.toList=l.map (·.2))->s.heap.objs.size<=g.objs.size->G got.toList { s with heap:=g,toks:=tk,drawn:=d }) :
  wpAny (model prog w) A (collect (.ref a)) G E s:=by
 have la:a < s.heap.objs.size:=Heap.lt_size S.at_
 unfold collect
 refine wpAny_bind (wpAny_runValue (codeAny_builtin entry_proto_collect' ?_))
 rw [Around.under_plainId PySem.F.plain_proto_collect _]
 show wpAny _ A.in1 (newList [] >>= fun z=>again (.builtin "list.__iadd__" ⟨[z,.ref a],[]⟩)) _ _ s
 refine wpAny_bind (wpAny_newObj_type (wpAny_pure ⟨plainId_quiet PySem.F.plain_list_iadd _,codeAny_builtin entry_list_iadd' ?_⟩))
 rw [Around.under_plainId PySem.F.plain_list_iadd _]
 show wpAny _ A.in1 (Builtin.List.listExtendWith (.ref s.heap.objs.size) (.ref a) (.ref s.heap.objs.size)) _ _ _
 have made:(s.heap.push { cls:=.type "list",data:=.seq ([]:List Value).toArray }).get? s.heap.objs.size=some { cls:=.type "list",data:=.seq #[] 0 }:=Heap.get?_push_size _ rfl
 have run:=rZ (A:=A) (s:={ s with heap:=s.heap.push { cls:=.type "list",data:=.seq ([]:List Value).toArray } })
  (R:=fun (z:Result) (t:Shared)=>∃ (g:Heap) (tk:Nat) (d:_) (got:Array Value) (c:Nat),z=.ok (.ret (.ref s.heap.objs.size))/\t = { s with heap:=g,toks:=tk,drawn:=d } /\
   (∀ b o,s.heap.get? b=some o->g.get? b=some o)/\g.get? s.heap.objs.size=some { cls:=.type "list",dict:=none,data:=.seq got c,slots:=#[] }/\∃ l:List (Int × Value),l.Perm es.toList/\got.toList=l.map (·.2))
  calm (S.keep fun o e=>Heap.get?_push_of_some _ e) s.heap.objs.size (Nat.ne_of_gt la) made (.ref s.heap.objs.size)
  (fun g tk d got c kept at_ its=>⟨g,tk,d,got,c,rfl,rfl,fun b o e=>kept b o (Nat.ne_of_lt (Heap.lt_size e)) (Heap.get?_push_of_some _ e),at_,its⟩)
 refine wpAny_mono run (fun z t x=>?_) fun z t ⟨_,_,_,_,_,bad,_⟩=>by cases bad
 cases z with
 | done f =>
  obtain⟨g,tk,d,got,c,e,rfl,kept,at_,its⟩:=x
  cases e
  show wpAny _ A (load s.heap.objs.size >>= _) _ _ _
  exact wpAny_bind (wpAny_load at_ (wpAny_pure (fin g tk d got kept its (Nat.le_of_lt (Heap.lt_size at_)))))
 | again more =>
  refine⟨x.1,codeAny_mono x.2 fun z' t' ⟨g,tk,d,got,c,e1,e2,kept,at_,its⟩=>?_⟩
  subst e1 e2
  show wpAny _ A (load s.heap.objs.size >>= _) _ _ _
  exact wpAny_bind (wpAny_load at_ (wpAny_pure (fin g tk d got kept its (Nat.le_of_lt (Heap.lt_size at_)))))
end
end LS
namespace L2
open PySem PySem.Spec PyProof.Rows LS
theorem p8 {P:Program} {w:World} {i:Int} {v:Value} (h:(aB P w).is (Sum.inl i) v=true):∃ t,v=.int i t:=by
 rcases bV (show fE (Sum.inl i) v=true from h) with ⟨j,t,e,rfl⟩ | ⟨x,t,e,rfl⟩
 ·cases e;exact⟨t,rfl⟩
 ·cases e
def lL (m:List Key):List Str:=m.filterMap fun k=>match k with | .inr x=>some x | .inl _=>none
def lM (m:List Key):List Int:=m.filterMap fun k=>match k with | .inl x=>some x | .inr _=>none
theorem uc (ss:List Str):lL (ss.map Sum.inr)=ss:=by
 induction ss with
 | nil=>rfl
 | cons x ss ih=>show x :: lL (ss.map Sum.inr)=x :: ss;rw [ih]
theorem ud (ss:List Int):lM (ss.map Sum.inl)=ss:=by
 induction ss with
 | nil=>rfl
 | cons x ss ih=>show x :: lM (ss.map Sum.inl)=x :: ss;rw [ih]
theorem vy {m:List Key} {ss:List Str} (p:m.Perm (ss.map Sum.inr)):m=(lL m).map Sum.inr/\(lL m).Perm ss:=by
 refine⟨?_,by have:=p.filterMap (fun k:Key=>match k with | .inr x=>some x | .inl _=>none);rw [show List.filterMap _ (ss.map Sum.inr)=ss from uc ss] at this;exact this⟩
 have hall:∀ k ∈ m,∃ x,k=Sum.inr x:=fun k hk=>by
  obtain⟨x,_,rfl⟩:=List.mem_map.mp (p.mem_iff.mp hk)
  exact⟨x,rfl⟩
 clear p
 induction m with
 | nil=>rfl
 | cons k m ih =>
  obtain⟨x,rfl⟩:=hall k (List.mem_cons_self ..)
  have:=ih fun k hk=>hall k (List.mem_cons_of_mem _ hk)
  show Sum.inr x :: m=Sum.inr x :: (lL m).map Sum.inr
  rw [<-this]
theorem vz {m:List Key} {ss:List Int} (p:m.Perm (ss.map Sum.inl)):m=(lM m).map Sum.inl/\(lM m).Perm ss:=by
 refine⟨?_,by have:=p.filterMap (fun k:Key=>match k with | .inl x=>some x | .inr _=>none);rw [show List.filterMap _ (ss.map Sum.inl)=ss from ud ss] at this;exact this⟩
 have hall:∀ k ∈ m,∃ x,k=Sum.inl x:=fun k hk=>by
  obtain⟨x,_,rfl⟩:=List.mem_map.mp (p.mem_iff.mp hk)
  exact⟨x,rfl⟩
 clear p
 induction m with
 | nil=>rfl
 | cons k m ih =>
  obtain⟨x,rfl⟩:=hall k (List.mem_cons_self ..)
  have:=ih fun k hk=>hall k (List.mem_cons_of_mem _ hk)
  show Sum.inl x :: m=Sum.inl x :: (lM m).map Sum.inl
  rw [<-this]
section
variable {prog:Program} {w:World} {A:Around} {E:Value->Shared->Prop} {s:Shared} {a:Addr} {ks:List Key} {o:Obj} {es:Array (Int × Value)} {ep:Nat} {t:SetTable}
theorem o9 {got:List Value} (S:LS.cb (aB prog w) s.heap a ks o es ep t) (h:∃ l:List (Int × Value),l.Perm es.toList/\got=l.map (·.2)):∃ m:List Key,m.Perm ks/\Paired (fun v k=>(aB prog w).is k v=true) got m:=by
 obtain⟨l,hp,rfl⟩:=h
 obtain⟨ls,q1,q2⟩:=S.ents
 obtain⟨m,m1,m2⟩:=ia hp q2
 refine⟨m,m1.trans q1,?_⟩
 clear hp q2 m1
 induction m2 with
 | nil=>exact .nil
 | cons r _ ih=>exact .cons r.1 ih
theorem jh:∀ {got:List Value} {ss:List Str},Paired (fun v k=>(aB prog w).is k v=true) got (ss.map Sum.inr)->StrsAre got ss
 | _,[],.nil=>.nil
 | _,x :: ss,.cons r t=>by
  obtain⟨t',rfl⟩:=jY r
  exact .cons x t' (jh t)
theorem ji:∀ {got:List Value} {ss:List Int},Paired (fun v k=>(aB prog w).is k v=true) got (ss.map Sum.inl)->IntsAre got ss
 | _,[],.nil=>.nil
 | _,x :: ss,.cons r t=>by
  obtain⟨t',rfl⟩:=p8 r
  exact .cons x t' (ji t)
theorem p9 {ss:List Str} {Q:Value->Shared->Prop} (hh:A.handled=none) (S:LS.cb (aB prog w) s.heap a (ss.map Sum.inr) o es ep t) (h64:ss.length < 64)
  (q:∀ (h':Heap) (tk:Nat) (d:_) (D:Addr) (out:Array Value) (ss':List Str) (e:Nat),(∀ b o,s.heap.get? b=some o->h'.get? b=some o)->s.heap.objs.size<=D->h'.get? D=some { cls:=.type "list",data:=.seq out e } ->
   StrsAre out.toList ss'->ss'.Perm ss->sortedS ss' = true->Q (.ref D) { s with heap:=h',toks:=tk,drawn:=d }) :
  wpAny (model prog w) A (call (.builtin "sorted") [.ref a]) Q E s:=by
 refine Calls.call_function_entry kind_sorted plain_sorted entry_sorted (args_sorted1 _) ?_
 unfold Builtin.«sorted»
 refine wpAny_bind (m:=checkCount "sorted" 1 1 _) (wpAny_pure ?_)
 refine wpAny_bind (lK (A:=A.in1) hh S fun h' tk d acc hkeep hacc hsz=>?_)
 obtain⟨m,m1,m2⟩:=o9 S hacc
 obtain⟨e1,p1⟩:=vy m1
 rw [e1] at m2
 have hS:=jh m2
 have hl:acc.toList.length < 64:=by rw [m2.length,List.length_map,p1.length_eq];exact h64
 refine wpAny_bind (wpAny_newList ?_ (Nat.le_trans (Nat.le_of_lt hl) (by decide)))
 have hoL:(h'.push (seqObj "list" acc.toList.toArray 0)).get? h'.objs.size=some (seqObj "list" acc.toList.toArray 0):=Heap.get?_push_size _ rfl
 refine wpAny_bind (wpAny_holding (wpAny_call_entry slot_list_sort ⟨_,hoL,rfl⟩ entry_list_sort (list_sort_treeK strKind_oneLt hoL hS.keysOf (fun v₁ v₂ rest e=>keyKind_strs (by rw [<-e];exact hS)) hl fun st' a1 a2=>⟨_,rfl,?_⟩) (args_list_sort _)))
 obtain⟨ss',b1,b2,b3⟩:=sorted_out_str hS a1 a2
 obtain⟨e,he⟩:=sortedHeap_at (out:=(arrOf st').map (·.2)) hoL
 refine wpAny_pure ⟨_,rfl,q _ tk d _ _ ss' e (fun b o ho=>?_) hsz he b1 (b2.trans p1) b3⟩
 have h1:=hkeep b o ho
 have hlt:=Heap.lt_size h1
 rw [sortedHeap_old (Nat.ne_of_lt hlt) (by rw [size_push'];exact Nat.lt_succ_of_lt hlt)]
 exact Heap.get?_push_of_some _ h1
theorem qc {ss:List Int} {Q:Value->Shared->Prop} (hh:A.handled=none) (S:LS.cb (aB prog w) s.heap a (ss.map Sum.inl) o es ep t) (h64:ss.length < 64)
  (q:∀ (h':Heap) (tk:Nat) (d:_) (D:Addr) (out:Array Value) (ss':List Int) (e:Nat),(∀ b o,s.heap.get? b=some o->h'.get? b=some o)->s.heap.objs.size<=D->h'.get? D=some { cls:=.type "list",data:=.seq out e } ->
   IntsAre out.toList ss'->ss'.Perm ss->ss'.Pairwise (· <= ·)->Q (.ref D) { s with heap:=h',toks:=tk,drawn:=d }) :
  wpAny (model prog w) A (call (.builtin "sorted") [.ref a]) Q E s:=by
 refine Calls.call_function_entry kind_sorted plain_sorted entry_sorted (args_sorted1 _) ?_
 unfold Builtin.«sorted»
 refine wpAny_bind (m:=checkCount "sorted" 1 1 _) (wpAny_pure ?_)
 refine wpAny_bind (lK (A:=A.in1) hh S fun h' tk d acc hkeep hacc hsz=>?_)
 obtain⟨m,m1,m2⟩:=o9 S hacc
 obtain⟨e1,p1⟩:=vz m1
 rw [e1] at m2
 have hS:=ji m2
 have hl:acc.toList.length < 64:=by rw [m2.length,List.length_map,p1.length_eq];exact h64
 refine wpAny_bind (wpAny_newList ?_ (Nat.le_trans (Nat.le_of_lt hl) (by decide)))
 have hoL:(h'.push (seqObj "list" acc.toList.toArray 0)).get? h'.objs.size=some (seqObj "list" acc.toList.toArray 0):=Heap.get?_push_size _ rfl
 refine wpAny_bind (wpAny_holding (wpAny_call_entry slot_list_sort ⟨_,hoL,rfl⟩ entry_list_sort (list_sort_tree hoL hS hl fun out ss' b1 b2 b3=>⟨_,rfl,?_⟩) (args_list_sort _)))
 obtain⟨e,he⟩:=sortedHeap_at (out:=out) hoL
 refine wpAny_pure ⟨_,rfl,q _ tk d _ _ ss' e (fun b o ho=>?_) hsz he b1 (b2.trans p1) b3⟩
 have h1:=hkeep b o ho
 have hlt:=Heap.lt_size h1
 rw [sortedHeap_old (Nat.ne_of_lt hlt) (by rw [size_push'];exact Nat.lt_succ_of_lt hlt)]
 exact Heap.get?_push_of_some _ h1
end
def bR (P:Program) (w:World) (a:Addr) (ks:List Key):HO:=.ext fun h=>df (aB P w) h a ks
theorem iw {P:Program} {w:World} {H:Hp} {h:Heap} {a:Addr} {ks:List Key} (S:df (aB P w) h a ks):bI P w H h a (bR P w a ks) :=
 ⟨S,let ⟨o,_,_,_,S⟩:=S;⟨o,S.at_⟩,fun h1 h2 S k=>S.keep k⟩
section
variable {X:Cx} {pins:List (Addr × Obj)} {σ : List (Option V)} {H:Hp} {s:Shared}
theorem Inv.mK {a:Addr} {ks:List Key} (I:Inv X pins σ H s) (h:H a=some (bR X.prog X.w a ks)):df (aB X.prog X.w) s.heap a ks:=(I.aL a _ h).1
theorem Inv.qN {d:_} (I:Inv X pins σ H s):Inv X pins σ H { s with drawn:=d }:=⟨I.ok,I.os,I.bare,I.base,I.loc,I.cell,I.free,I.eE,I.pin,I.aL,I.len⟩
theorem nZ (hc:X.calm=true):dB X (.builtin "sorted") (fun vs H Q=>∃ (a:Addr) (ss:List Str),vs = [.ref a]/\H a=some (bR X.prog X.w a (ss.map Sum.inr))/\ss.length < 64 /\
  ∀ (l:Addr) (ss':List Str),ss'.Perm ss->sortedS ss' = true->H l=none->Q (.ref l) (upd H l (.lst (ss'.map V.str)))):=by
 intro pins s σ H xs us Q I r h
 obtain⟨a,ss,rfl,ha,h64,q⟩:=h
 obtain⟨u,rfl,ru⟩:=vals1 r
 cases (show u=Value.ref a from ru)
 obtain⟨o,es,ep,t,S⟩:=I.mK ha
 refine p9 (I.ok.hd hc) S h64 fun h' tk d D out ss' e hkeep hD he hS hp hs=>?_
 have hv:Vals (ss'.map V.str) out.toList:=mI hS
 refine⟨.ref D,_,(I.qN (d:=d)).laid (t':=tk) (o:=.lst (ss'.map V.str)) hkeep hD (show bI X.prog X.w _ h' _ (.lst (ss'.map V.str)) from ⟨?_,out.toList,e,hv,by simpa using he⟩),rfl,q D ss' hp hs (I.aL.fresh hD)⟩
 rw [List.length_map,hp.length_eq]
 exact Nat.le_trans (Nat.le_of_lt h64) (by decide)
theorem iS (hc:X.calm=true):dB X (.builtin "sorted") (fun vs H Q=>∃ (a:Addr) (ss:List Int),vs = [.ref a]/\H a=some (bR X.prog X.w a (ss.map Sum.inl))/\ss.length < 64 /\
  ∀ (l:Addr) (ss':List Int),ss'.Perm ss->ss'.Pairwise (· <= ·)->H l=none->Q (.ref l) (upd H l (.lst (ss'.map V.int)))):=by
 intro pins s σ H xs us Q I r h
 obtain⟨a,ss,rfl,ha,h64,q⟩:=h
 obtain⟨u,rfl,ru⟩:=vals1 r
 cases (show u=Value.ref a from ru)
 obtain⟨o,es,ep,t,S⟩:=I.mK ha
 refine qc (I.ok.hd hc) S h64 fun h' tk d D out ss' e hkeep hD he hS hp hs=>?_
 have hv:Vals (ss'.map V.int) out.toList:=gX hS
 refine⟨.ref D,_,(I.qN (d:=d)).laid (t':=tk) (o:=.lst (ss'.map V.int)) hkeep hD (show bI X.prog X.w _ h' _ (.lst (ss'.map V.int)) from ⟨?_,out.toList,e,hv,by simpa using he⟩),rfl,q D ss' hp hs (I.aL.fresh hD)⟩
 rw [List.length_map,hp.length_eq]
 exact Nat.le_trans (Nat.le_of_lt h64) (by decide)
end
end L2
namespace LS
open PySem PySem.Spec PyProof.Rows L2
section
variable {K:Type} [DecidableEq K]
def putIn (acc:List K) (k:K):List K:=if k ∈ acc then acc else acc ++ [k]
def cH (ms:List K):List K:=ms.foldl putIn []
theorem dZ {acc:List K} {k x:K}:x ∈ putIn acc k ↔ x ∈ acc\/x=k:=by
 unfold putIn
 split
 ·rename_i h
  exact⟨.inl,fun z=>z.elim id (fun e=>e ▸ h)⟩
 ·simp
theorem ue (acc:List K) (k:K):(putIn acc k).length<=acc.length+1:=by unfold putIn;split <;> simp
theorem pd:∀ (ms acc:List K) (x:K),x ∈ ms.foldl putIn acc ↔ x ∈ acc\/x ∈ ms
 | [],acc,x=>by simp
 | k :: ms,acc,x=>by
  rw [List.foldl_cons,pd ms,dZ]
  simp [or_assoc]
theorem nH {ms:List K} {x:K}:x ∈ cH ms ↔ x ∈ ms:=by unfold cH;rw [pd];simp
theorem pf:∀ (ms acc:List K),(ms.foldl putIn acc).length<=acc.length+ms.length
 | [],acc=>by simp
 | k :: ms,acc=>by
  rw [List.foldl_cons]
  have:=pf ms (putIn acc k)
  have:=ue acc k
  simp only [List.length_cons];omega
theorem qO:∀ (ms acc:List K),acc.Nodup->(ms.foldl putIn acc).Nodup
 | [],acc,h=>h
 | k :: ms,acc,h=>by
  rw [List.foldl_cons]
  refine qO ms _ ?_
  unfold putIn
  split
  ·exact h
  ·rename_i hn
   rw [List.nodup_append]
   exact⟨h,by simp,fun a ha b hb e=>hn (by rw [List.mem_singleton] at hb;rw [<-hb,<-e];exact ha)⟩
theorem ph (ms:List K):(cH ms).Nodup:=qO ms [] List.nodup_nil
end
section
variable {prog:Program} {w:World} {A:Around} {E:Value->Shared->Prop} {s:Shared}
theorem pA {k:Key} {v:Value} (h:(aB prog w).is k v=true):v.scannable=true:=by
 rcases bV (show fE k v=true from h) with ⟨j,t,_,rfl⟩ | ⟨x,t,_,rfl⟩ <;> rfl
theorem mL {a:Addr} {ks:List Key} {k:Key} {v:Value} {Q:Bool->Shared->Prop} (hk:(aB prog w).is k v=true) (S:df (aB prog w) s.heap a ks) (room:ks.length+1 < scanBound)
  (q:∀ h',Heap.SameBut a s.heap h'->df (aB prog w) h' a (putIn ks k)->∀ c:Bool,Q c { s with heap:=h',toks:=s.toks+1 }):wpAny (model prog w) A (setAdd a v) Q E s:=by
 unfold setAdd
 refine wpAny_holding ?_
 refine wpAny_bind ((aB prog w).pyHash hk ?_)
 exact rW (s:={ s with toks:=s.toks+1 }) hk (pA hk) S room fun h' b S'=>q h' b S' _
theorem vA {a:Addr} {ks:List Key} {k:Key} {v:Value} {Q:Value->Shared->Prop} (hk:(aB prog w).is k v=true) (S:df (aB prog w) s.heap a ks) (room:ks.length+1 < scanBound)
  (q:∀ h',Heap.SameBut a s.heap h'->df (aB prog w) h' a (putIn ks k)->Q .none { s with heap:=h',toks:=s.toks+1 }):wpAny (model prog w) A (call (.builtin "set.add") [.ref a,v]) Q E s:=by
 refine wpAny_call_entry PySem.F.slot_set_add S.setOf.typeIs PySem.F.entry_set_add ?_ (PySem.F.args_set_add_2 _ _)
 unfold Builtin.«set.add» Builtin.Frozenset.oneOther
 simp only [List.isEmpty_nil,bind_assoc]
 unfold Builtin.Frozenset.addrOf
 refine wpAny_bind (wpAny_pure ?_)
 refine wpAny_bind (wpAny_pure ?_)
 refine wpAny_bind (mL hk S room fun h' b S' _=>?_)
 exact wpAny_pure ⟨_,rfl,q h' b S'⟩
theorem uf {I L:Addr} {fp wr:List Addr} {G:Array GenState->Array GenState->Prop} {n:Nat} {P:Nat->Value->Prop} {St:Nat->Shared->Prop} {R:Result->Shared->Prop} (W:WalksS prog w A.in1 I fp wr G n P St) (hLf:L ∉ fp)
  (ms:List Key) (hl:ms.length=n) (hm:∀ i v,P i v->∃ k,ms[i]? = some k/\(aB prog w).is k v=true) (hb:n+1 < scanBound) :
  ∀ (k i:Nat) (s:Shared),n - i=k->i<=n->St i s->df (aB prog w) s.heap L (cH (ms.take i)) ->
   (∀ s',Moved (L :: wr) G s s'->df (aB prog w) s'.heap L (cH ms)->R (.ok (.ret .none)) s') ->
   codeAny (model prog w) A (.builtin "set.update.loop" ⟨[.ref L,.ref I],[]⟩) R s:=by
 have hLw:L ∉ wr:=fun h=>hLf (W.sub _ h)
 intro k
 induction k with
 | zero =>
  intro i s hk hi st S q
  have e:i=n:=by omega
  subst e
  refine codeAny_builtin PyProof.Rows.F.entry_set_update_loop ?_
  rw [Around.under_plainId PyProof.Rows.F.plain_set_update_loop _]
  show wpAny _ A.in1 (pyNext (.ref I) >>= _) _ _ s
  refine wpAny_bind (W.done s _ _ st fun s' mv=>?_)
  refine wpAny_pure (q s' (mv.mono fun b hb=>List.mem_cons_of_mem _ hb) ?_)
  rw [List.take_of_length_le (by omega)] at S
  exact S.keep fun o e=>mv.heap L _ hLw e
 | succ k ih =>
  intro i s hk hi st S q
  have hlt:i < n:=by omega
  refine codeAny_builtin PyProof.Rows.F.entry_set_update_loop ?_
  rw [Around.under_plainId PyProof.Rows.F.plain_set_update_loop _]
  show wpAny _ A.in1 (pyNext (.ref I) >>= _) _ _ s
  refine wpAny_bind (W.item i s _ _ hlt st fun v s' hP st' mv=>?_)
  obtain⟨key,hkey,his⟩:=hm i v hP
  have S':df (aB prog w) s'.heap L (cH (ms.take i)):=S.keep fun o e=>mv.heap L _ hLw e
  refine wpAny_bind (wpAny_holding (mL his S' ?_ fun h' sb S2 _=>?_))
  ·have h1:=pf (ms.take i) []
   have h2:(ms.take i).length<=i:=by rw [List.length_take];omega
   have h3:(cH (ms.take i)).length<=0+(ms.take i).length:=h1
   omega
  ·have e1:putIn (cH (ms.take i)) key=cH (ms.take (i+1)):=by
    unfold cH
    rw [List.take_add_one,hkey,List.foldl_append];rfl
   rw [e1] at S2
   refine wpAny_pure ⟨plainId_quiet PyProof.Rows.F.plain_set_update_loop _,ih (i+1) _ (by omega) hlt (W.frame _ s' _ _ st' (Nat.le_succ _) fun b hb o e=>?_) S2 fun s'' mv2 S3=>?_⟩
   ·rw [sb.2 b (fun h:b=L=>hLf (by rw [<-h];exact hb))];exact e
   ·refine q s'' (Moved.trans W.gtrans ((mv.mono fun b hb=>List.mem_cons_of_mem _ hb).then_heap (Nat.le_succ _) fun b o hb e=>?_) mv2) S3
    rw [sb.2 b (fun h:b=L=>hb (by rw [h];exact List.mem_cons_self))];exact e
end
theorem iH {α β : Type} {F:α->β->Prop}:∀ {l:List α} {m:List β},Paired F l m->∀ {i:Nat} {x:α},l[i]? = some x->∃ y,m[i]? = some y/\F x y
 | _,_,.nil,i,x,e=>by simp at e
 | _,_,.cons r _,0,x,e=>by simp at e;subst e;exact⟨_,rfl,r⟩
 | _,_,.cons _ t,i+1,x,e=>by simpa using iH t (i:=i) (x:=x) (by simpa using e)
def bZ (w:World):Obj:={ cls:=.type "set",dict:=none,data:=.set #[] 0 (.fresh 0 0 (!(w.params.followText "set-order"))) }
section
variable {prog:Program} {w:World} {A:Around} {E:Value->Shared->Prop} {s:Shared}
theorem ug (rest:List Value) (hc:checkBuiltinCall "set.__new__" ⟨.type "set" :: rest,[]⟩=pure ()) {Q:Value->Shared->Prop} (q:Q (.ref s.heap.objs.size) { s with heap:=s.heap.push (bZ w) }) :
  codeAny (model prog w) A (.call (.builtin "set.__new__") ⟨.type "set" :: rest,[]⟩) (wants Q E) s:=by
 refine codeAny_of_tree ?_
 show wpAny _ A.in1 (checkBuiltinCall "set.__new__" ⟨.type "set" :: rest,[]⟩ >>= fun _=>again (.builtin "set.__new__" ⟨.type "set" :: rest,[]⟩)) _ _ s
 refine wpAny_bind (wpAny_of_eq hc (wpAny_pure ⟨plainId_quiet PySem.F.plain_set_new _,codeAny_builtin PySem.F.entry_set_new ?_⟩))
 rw [Around.under_plainId PySem.F.plain_set_new _]
 unfold Builtin.«set.__new__» Builtin.Frozenset.newClass
 have hsub:=sub_set_self
 obtain⟨hp,g,d,tk,os⟩:=s
 dsimp only
 wp_walk
 refine wpAny_askSetting (wpAny_pure ?_)
 dsimp only
 simp only [newObj]
 refine wpAny_bind (wpAny_alloc (wpAny_pure ?_))
 exact wpAny_pure q
theorem pB {rest:List Value} {Q:Value->Shared->Prop} (hct:checkTypeCall "set" ⟨rest,[]⟩=pure ()) (hcn:checkBuiltinCall "set.__new__" ⟨.type "set" :: rest,[]⟩=pure ())
  (hci:∀ (M:Model) (A:Around) (E:Value->Shared->Prop) (s':Shared) (Q':Unit->Shared->Prop),s'.TypeIs (.ref s.heap.objs.size) "set" -> Q' () s'->wpAny M A (checkBuiltinCall "set.__init__" ⟨.ref s.heap.objs.size :: rest,[]⟩) Q' E s')
  (init:∀ (R:Result->Shared->Prop),(∀ h' tk,(∀ b o,s.heap.get? b=some o->h'.get? b=some o)->Q (.ref s.heap.objs.size) { s with heap:=h',toks:=tk }->R (.ok (.ret .none)) { s with heap:=h',toks:=tk }) ->
   wpAny (model prog w) A.in1.in1 (Builtin.«set.__init__» ⟨.ref s.heap.objs.size :: rest,[]⟩) (fun fin s'=>match fin with | .done f=>R (.ok f) s' | .again c'=>c'.quiet=true/\codeAny (model prog w) A.in1 c' R s') (fun e s'=>R (.error e) s')
    { s with heap:=s.heap.push (bZ w) }) :
  wpAny (model prog w) A (call (.type "set") rest) Q E s:=by
 obtain⟨c,tl,hmro⟩:=PySem.F.called_set.mro
 have hmade:=PySem.F.called_set.made
 have hsub:=PySem.F.called_set.sub
 refine wpAny_call (codeAny_of_tree ?_)
 show wpAny _ _ (callAny (.type "set") _) _ _ _
 refine wpAny_pure ⟨Code.quiet_builtin _ (by decide +kernel),codeAny_builtin PySem.F.entry_type_call ?_⟩
 rw [Around.under_plain (weight_type_call_type "set" rest []) rfl]
 have h1:=PySem.F.called_set.notType
 have h2:=PySem.F.called_set.canCreate
 repeat (any_goals (first | assumption | wp_step))
 refine codeAny_mono (ug (w:=w) rest hcn (E:=E) (Q:=fun obj s₁=>obj=.ref s.heap.objs.size/\s₁ = { s with heap:=s.heap.push (bZ w) }) ⟨rfl,rfl⟩) fun r s₁ hr=>?_
 cases r with
 | error e=>exact hr
 | ok fl =>
  cases fl with
  | ret obj =>
   obtain⟨rfl,rfl⟩:=hr
   have hS:(s.heap.push (bZ w)).get? s.heap.objs.size=some (bZ w):=Heap.get?_push_size _ rfl
   have hT:Shared.TypeIs { s with heap:=s.heap.push (bZ w) } (.ref s.heap.objs.size) "set" := ⟨_,hS,rfl⟩
   have hli:=PySem.F.called_set.init.lookup
   have hbi:=PySem.F.called_set.init.bind (.ref s.heap.objs.size)
   repeat (any_goals (first | assumption | wp_step))
   refine codeAny_mono (codeAny_call_builtin (R:=wants (fun r s₂=>r=.none/\Q (.ref s.heap.objs.size) s₂) E) PySem.F.called_set.init.plain PySem.F.entry_set_init (hci _ _ _ _ _ hT (init _ fun h' tk _ q=>⟨rfl,q⟩))) fun r₂ s₂ hr₂=>?_
   cases r₂ with
   | error e=>exact hr₂
   | ok fl₂ =>
    cases fl₂ with
    | ret r =>
     obtain⟨rfl,hq⟩:=hr₂
     repeat (any_goals (first | assumption | wp_step))
    | _=>exact hr₂.elim
  | _=>exact hr.elim
theorem uh {Q:Value->Shared->Prop} (q:∀ h',df (aB prog w) h' s.heap.objs.size []->(∀ b o,s.heap.get? b=some o->h'.get? b=some o)->Q (.ref s.heap.objs.size) { s with heap:=h' }):wpAny (model prog w) A (call (.type "set") []) Q E s:=by
 refine pB PySem.F.typeCall_set_0 PySem.F.newCall_set_0 (fun M A E s' Q' hT q'=>check_set_init hT q') fun R fin=>?_
 have hS:(s.heap.push (bZ w)).get? s.heap.objs.size=some (bZ w):=Heap.get?_push_size _ rfl
 have hT:Shared.TypeIs { s with heap:=s.heap.push (bZ w) } (.ref s.heap.objs.size) "set" := ⟨_,hS,rfl⟩
 unfold bZ at hS hT ⊢
 unfold Builtin.«set.__init__» noKeywords
 wp_walk
 exact fin _ s.toks (fun b o e=>Heap.get?_push_of_some _ e) (q _ (je rfl hS) fun b o e=>Heap.get?_push_of_some _ e)
theorem set_list {l:Addr} {items:Array Value} {ms:List Key} {Q:Value->Shared->Prop} (hh:A.handled=none) (hl:s.heap.IsList l items) (hm:Paired (fun v k=>(aB prog w).is k v=true) items.toList ms) (hb:items.size+1 < scanBound)
  (q:∀ h' tk,df (aB prog w) h' s.heap.objs.size (cH ms)->(∀ b o,s.heap.get? b=some o->h'.get? b=some o)->Q (.ref s.heap.objs.size) { s with heap:=h',toks:=tk }):wpAny (model prog w) A (call (.type "set") [.ref l]) Q E s:=by
 refine pB (PySem.F.typeCall_set_1 _) (PySem.F.newCall_set_1 _) (fun M A E s' Q' hT q'=>check_set_init_1 hT q') fun R fin=>?_
 have hS:(s.heap.push (bZ w)).get? s.heap.objs.size=some (bZ w):=Heap.get?_push_size _ rfl
 have hT:Shared.TypeIs { s with heap:=s.heap.push (bZ w) } (.ref s.heap.objs.size) "set" := ⟨_,hS,rfl⟩
 have hz:(s.heap.push (bZ w)).objs.size=s.heap.objs.size+1:=Heap.size_push _ _
 obtain⟨ol,hol,hcl,nl,hdl⟩:=id hl
 obtain⟨ocls,odict,odata,oslots⟩:=ol
 simp only at hcl hdl
 subst hcl
 subst hdl
 have hol':(s.heap.push (bZ w)).get? l=some { cls:=.type "list",dict:=odict,data:=.seq items nl,slots:=oslots }:=Heap.get?_push_of_some _ hol
 have hsls:=PySem.F.sub_list_set
 have hslf:=PySem.F.sub_list_frozenset
 have hne:(Value.type "list" == Value.type "dict")=false:=by decide
 have hl1:(s.heap.push (bZ w)).IsList l items:=⟨_,hol',rfl,nl,rfl⟩
 have hlS:l < s.heap.objs.size:=Heap.lt_size hol
 unfold bZ at hS hT hz hol' hl1 ⊢
 unfold Builtin.«set.__init__» noKeywords Builtin.Frozenset.updateFrom
 generalize hPI:pyIter=PI
 wp_walk
 subst hPI
 refine wpAny_pyIter_list hl1 ?_
 refine wpAny_bind (wpAny_runValue ?_)
 have hh3:A.in1.in1.in1.handled=none:=by simp [hh]
 refine uf (L:=s.heap.objs.size) ((Walks.list hh3 _ l ?_ items).toS) ?_ ms ?_ (fun i v hv=>?_) hb (items.size - 0) 0 _ (by omega) (Nat.zero_le _) ⟨⟨_,Heap.get?_push_size _ rfl,rfl,rfl⟩,(hl1.push _)⟩ ?_ fun s' mv S'=>?_
 ·rw [hz];exact Nat.ne_of_lt (Nat.lt_succ_of_lt hlS)
 ·rw [hz]
  intro hmem
  rcases jg hmem with e | e
  ·exact absurd e (Nat.ne_of_lt (Nat.lt_succ_self _))
  ·exact absurd e (Nat.ne_of_gt hlS)
 ·rw [<-hm.length,Array.length_toList]
 ·have hv':items.toList[i]? = some v:=by rw [Array.getElem?_toList];exact hv
  exact iH hm hv'
 ·exact je rfl (Heap.get?_push_of_some _ hS)
 ·obtain⟨h',g',d',tk',os'⟩:=s'
  have eg:g' = s.gens:=mv.gens
  have ed:d' = s.drawn:=mv.drawn
  have eo:os' = s.os:=mv.os
  subst eg;subst ed;subst eo
  have kp:∀ b o,s.heap.get? b=some o->h'.get? b=some o:=fun b o e=>mv.heap b o (fun hm=>by
   rcases jg hm with e' | e'
   ·exact absurd e' (Nat.ne_of_lt (Heap.lt_size e))
   ·rw [hz] at e';exact absurd e' (Nat.ne_of_lt (Nat.lt_succ_of_lt (Heap.lt_size e)))) (Heap.get?_push_of_some _ (Heap.get?_push_of_some _ e))
  show wpAny _ _ _ _ _ _
  refine wpAny_pure ?_
  exact wpAny_pure (fin h' tk' kp (q h' tk' S' kp))
end
end LS
namespace L2
open PySem PySem.Spec PyProof.Rows LS
theorem ui:bootBuiltins "set" = some (.type "set"):=by decide +kernel
theorem xq {K:Type} [DecidableEq K] {k:K} {ks:List K}:decide (k ∈ ks)=true ↔ k ∈ ks:=decide_eq_true_iff
theorem jH {P:Program} {w:World} {k:Key} {v:Value} (r:RelV (kV k) v):(aB P w).is k v=true:=by
 cases k with
 | inl i=>obtain⟨t,rfl⟩:=r;exact jQ P w i t
 | inr x=>obtain⟨t,rfl⟩:=r;exact jR P w x t
theorem j5 {P:Program} {w:World}:∀ {ks:List Key} {us:List Value},Vals (ks.map kV) us->Paired (fun v k=>(aB P w).is k v=true) us ks
 | [],_,.nil=>.nil
 | k :: ks,_,.cons r t=>.cons (jH r) (j5 t)
section
variable {X:Cx}
theorem Inv.Ap {pins:List (Addr × Obj)} {σ : List (Option V)} {H:Hp} {s:Shared} {n:Nat} (I:Inv X pins σ H s):Inv X pins σ H { s with toks:=n }:=⟨I.ok,I.os,I.bare,I.base,I.loc,I.cell,I.free,I.eE,I.pin,I.aL,I.len⟩
theorem uj:dB X (.type "set") (fun vs H Q=>vs = []/\∀ l,H l=none->Q (.ref l) (upd H l (bR X.prog X.w l []))):=by
 intro pins s σ H xs us Q I r h
 obtain⟨rfl,q⟩:=h
 cases r
 refine uh fun h' S kp=>?_
 exact⟨.ref s.heap.objs.size,_,I.laid (t':=s.toks) kp (Nat.le_refl _) (iw S),rfl,q _ I.fresh⟩
theorem uk (hc:X.calm=true):dB X (.type "set") (fun vs H Q=>∃ (p:Addr) (ks:List Key),vs = [.ref p]/\aW X.K H p (ks.map kV)/\ks.length+1 < scanBound/\∀ l,H l=none->Q (.ref l) (upd H l (bR X.prog X.w l (cH ks)))):=by
 intro pins s σ H xs us Q I r h
 obtain⟨p,ks,rfl,hp,hz,q⟩:=h
 obtain⟨u,rfl,ru⟩:=vals1 r
 cases (show u=Value.ref p from ru)
 obtain⟨its,hv,pl,_⟩:=I.list hp
 have hm:=j5 (P:=X.prog) (w:=X.w) hv
 refine LS.set_list (I.ok.hd hc) pl.isList (by simpa using hm) (by have:=hm.length;simp at this ⊢;omega) fun h' tk S kp=>?_
 exact⟨.ref s.heap.objs.size,_,I.laid (t':=tk) kp (Nat.le_refl _) (iw S),rfl,q _ I.fresh⟩
def z9 (P:Program) (w:World) (neg:Bool):R2:=fun x y H Q=>∃ a ks k,y=.ref a/\H a=some (bR P w a ks)/\x=kV k/\∀ b:Bool,(b=true ↔ k ∈ ks)->Q (.bl (if neg then !b else b)) H
theorem um:dU X (compareOp .NotIn) (z9 X.prog X.w true):=by
 intro pins s σ H x y v u Q I rx ry h
 obtain⟨a,ks,k,rfl,ha,rfl,q⟩:=h
 cases ry
 have hk:(aB X.prog X.w).is k v=true:=jH rx
 have S:=(I.mK ha).setOf
 exact wpAny_notInSet_of hk (pA hk) S ⟨.bl _,H,I.Ap,rfl,q _ xq⟩
def Aa (P:Program) (w:World) (r:V->List V->Hp->VK->Prop) (to:TE) (t:TA):TE:=fun σ H Q=>to σ H fun x H1=>(∃ a ks,x=.ref a/\H1 a=some (bR P w a ks))/\t σ H1 fun xs H2=>r x xs H2 Q
variable {o e:Expr} {es:List Expr} {to:TE} {t:TA} {name:Str} {apos cpos:Pos} {id:String} {r:V->List V->Hp->VK->Prop}
theorem uo (slot:Slot "set" name id) (hty:typeOf (.builtin id)=pure (.type "method_descriptor")) (hm:tJ X id r) (ho:PE X o to) (ha:PA X (e :: es) t)
  (hbase:attributeBase o name X.env (eval o X.env)=eval o X.env:=by rfl)
  (hfew:((backTo cpos (starEach (e :: es) X.env)).all (fun x=>!x.1) && (backToKw cpos (keywordEach [] X.env)).all (fun x=>x.1.isSome)
   && decide ((e :: es).length+([]:List Keyword).length+(if ([]:List Keyword).isEmpty then 0 else 1) < 30))=true:=by rfl)
  (hline:(apos.endLine == cpos.line)=true:=by rfl) (hs:starEach (e :: es) X.env=(false,eval e X.env) :: starEach es X.env:=by rfl) (hplain:(backTo cpos (starEach es X.env)).any (·.1)=false:=by rfl) :
  PE X (.Call (.Attribute o name apos) (e :: es) [] cpos) (Aa X.prog X.w r to t):=by
 intro pins s σ H Q I h
 refine wpAny_Call_method_late hbase hfew hline rfl (aJ (ho pins s σ H _ I h) fun v s1 ⟨x,H1,I1,r1,ty,q1⟩=>?_)
 obtain⟨a,ks,rfl,hset⟩:=ty
 cases (show v=Value.ref a from r1)
 have S:=(I1.mK hset).setOf
 refine⟨"set",id,PySem.F.plainAttrs_set,slot,hty,S.typeIs,S.noDict,?_⟩
 have hA:=ha cpos pins s1 σ H1 _ I1 q1
 rw [hs] at hA ⊢
 refine Calls.callWith_builtin (by show (false || (backTo cpos (starEach es X.env)).any (·.1))=false;rw [hplain] <;> rfl) (Calls.evalArgs_plain ?_)
 exact aJ hA fun us s2 ⟨vs,H2,I2,r2,q2⟩=>hm pins s2 σ H2 (.ref a) vs (.ref a) us Q I2 rfl r2 q2
def zl (P:Program) (w:World):V->List V->Hp->VK->Prop:=fun x vs H Q=>∃ a ks k,x=.ref a/\vs = [kV k]/\H a=some (bR P w a ks)/\ks.length+1 < scanBound/\Q .bx (upd H a (bR P w a (putIn ks k)))
theorem qP:tJ X "set.add" (zl X.prog X.w):=by
 intro pins s σ H x xs v us Q I rx r h
 obtain⟨a,ks,k,rfl,rfl,ha,hz,q⟩:=h
 cases (show v=Value.ref a from rx)
 obtain⟨u,rfl,ru⟩:=vals1 r
 refine vA (jH ru) (I.mK ha) hz fun h' b S'=>?_
 refine⟨.bx,_,I.write (t':=s.toks+1) (x:=a) (e:=a) (by rw [ha];exact trivial) (.inl rfl) (fun c u' hc hu=>b.extBut c u' hc hu) ?_ (iw S'),rfl,q⟩
 obtain⟨o,_,_,_,So⟩:=S'
 exact⟨o,So.at_⟩
end
structure ou (K:PySem.W.Frag) (mg:Str->Option Value) (aD d0 d1 d2 d3 d4:Addr):Prop where
 tab:vk K mg "DEED_PARTS" aD [("put",d0),("copy",d1),("add",d2),("read",d3),("tell",d4)]
 q0:KTup K d0 ["name", "number"]
 q1:KTup K d1 ["name", "name"]
 q2:KTup K d2 ["name", "number"]
 q3:KTup K d3 ["name"]
 q4:KTup K d4 ["name"]
def cN:bP->List Str
 | .put x _=>[x]
 | .copy x y=>[x,y]
 | .add x _=>[x]
 | .read x=>[x]
 | .tell x=>[x]
def gO:End->List Str
 | .bL _ x _ _ _=>[x]
 | _=>[]
def pNames (p:Piece):List Str:=p.1.flatMap cN++gO p.2
def bh (ps:List Piece):List Str:=ps.flatMap pNames
def kD:bP->List Str
 | .put ..=>["name", "number"]
 | .copy ..=>["name", "name"]
 | .add ..=>["name", "number"]
 | .read ..=>["name"]
 | .tell ..=>["name"]
def wD:bP->Str
 | .put .. => "put"
 | .copy .. => "copy"
 | .add .. => "add"
 | .read .. => "read"
 | .tell .. => "tell"
theorem r9 (d:bP):∃ xs,oq d=.str (wD d) :: xs/\xs.length<=1000/\pick "name" xs (kD d)=(cN d).map V.str:=by
 have h2:¬ ("number" : Str) = "name" := by decide +kernel
 cases d with
 | put x n=>exact⟨_,rfl,by show 2<=1000;decide,by simp [pick,kD,cN,h2]⟩
 | copy x y=>exact⟨_,rfl,by show 2<=1000;decide,by simp [pick,kD,cN]⟩
 | add x n=>exact⟨_,rfl,by show 2<=1000;decide,by simp [pick,kD,cN,h2]⟩
 | read x=>exact⟨_,rfl,by show 1<=1000;decide,by simp [pick,kD,cN]⟩
 | tell x=>exact⟨_,rfl,by show 1<=1000;decide,by simp [pick,kD,cN]⟩
theorem sd (e:End):∃ xs,de e=.str (wE e) :: xs/\xs.length<=1000/\pick "name" xs (kE e)=(gO e).map V.str:=by
 have h1:¬ ("piece" : Str) = "name" := by decide +kernel
 have h2:¬ ("number" : Str) = "name" := by decide +kernel
 cases e with
 | stop=>exact⟨[],rfl,by decide,rfl⟩
 | go p=>exact⟨_,rfl,by show 1<=1000;decide,by simp [pick,kE,gO,h1]⟩
 | bL b x n p q=>exact⟨_,rfl,by show 4<=1000;decide,by simp [pick,kE,gO,h1,h2]⟩
theorem ix {k:Str} {d:Addr} {D:List (Str × Addr)}:KTD.datumAt k ((k,d) :: D)=some d:=by
 show (if decide (k=k)=true then some d else KTD.datumAt k D)=some d
 rw [if_pos (decide_eq_true rfl)]
theorem dn {k x:Str} {d:Addr} {D:List (Str × Addr)} {o:Option Addr} (h:¬ k=x) (e:KTD.datumAt k D=o):KTD.datumAt k ((x,d) :: D)=o:=by
 show (if decide (k=x)=true then some d else KTD.datumAt k D)=o
 rw [if_neg (by rw [decide_eq_false h];decide)]
 exact e
theorem ou.at_ {K:PySem.W.Frag} {mg:Str->Option Value} {aD d0 d1 d2 d3 d4:Addr} (G:ou K mg aD d0 d1 d2 d3 d4) (d:bP) :
  ∃ s,KTD.datumAt (wD d) [(("put" : Str),d0),("copy",d1),("add",d2),("read",d3),("tell",d4)] = some s/\KTup K s (kD d):=by
 cases d with
 | put x n=>exact⟨d0,ix,G.q0⟩
 | copy x y=>exact⟨d1,dn (show ¬ (("copy" : Str) = "put") by decide +kernel) ix,G.q1⟩
 | add x n=>exact⟨d2,dn (show ¬ (("add" : Str) = "put") by decide +kernel) (dn (show ¬ (("add" : Str) = "copy") by decide +kernel) ix),G.q2⟩
 | read x=>exact⟨d3,dn (show ¬ (("read" : Str) = "put") by decide +kernel) (dn (show ¬ (("read" : Str) = "copy") by decide +kernel) (dn (show ¬ (("read" : Str) = "add") by decide +kernel) ix)),G.q3⟩
 | tell x=>exact⟨d4,dn (show ¬ (("tell" : Str) = "put") by decide +kernel) (dn (show ¬ (("tell" : Str) = "copy") by decide +kernel) (dn (show ¬ (("tell" : Str) = "add") by decide +kernel) (dn (show ¬ (("tell" : Str) = "read") by decide +kernel) ix))),G.q4⟩
theorem vB (acc ys:List Str):(ys.map (Sum.inr:Str->Key)).foldl LS.putIn (acc.map Sum.inr)=(ys.foldl LS.putIn acc).map Sum.inr:=by
 induction ys generalizing acc with
 | nil=>rfl
 | cons y ys ih =>
  rw [List.map_cons,List.foldl_cons,List.foldl_cons,<-ih]
  congr 1
  unfold LS.putIn
  by_cases h:y ∈ acc
  ·rw [if_pos h,if_pos (List.mem_map.mpr ⟨y,h,rfl⟩)]
  ·rw [if_neg h,if_neg (fun z=>by obtain⟨x,hx,e⟩:=List.mem_map.mp z;cases e;exact h hx),List.map_append];rfl
theorem se (ys:List Str):cH (ys.map (Sum.inr:Str->Key))=(cH ys).map Sum.inr:=vB [] ys
theorem xr (ys:List Str):(ys.map (Sum.inr:Str->Key)).map kV=ys.map V.str:=by rw [List.map_map];rfl
theorem nI {xs:List Str} {m:Nat} {ps:List Piece} (ok:dm xs m ps):∀ x ∈ bh ps,x ∈ xs:=fun x hx=>by
 obtain⟨p,hp,hx⟩:=List.mem_flatMap.mp hx
 rcases List.mem_append.mp hx with h | h
 ·obtain⟨d,hd,h⟩:=List.mem_flatMap.mp h
  have dk:=(ok.lg p hp).2 d hd
  cases d with
  | put a n=>rw [List.mem_singleton.mp h];exact dk.1
  | copy a b =>
   rcases List.mem_cons.mp h with rfl | h
   ·exact dk.1
   ·rw [List.mem_singleton.mp h];exact dk.2
  | add a n=>rw [List.mem_singleton.mp h];exact dk.1
  | read a=>rw [List.mem_singleton.mp h];exact dk
  | tell a=>rw [List.mem_singleton.mp h];exact dk
 ·have ek:=ok.ends p hp
  obtain⟨ds,e⟩:=p
  cases e with
  | stop=>cases h
  | go q=>cases h
  | bL b a n q r=>rw [List.mem_singleton.mp h];exact ek.1
theorem nJ {α β : Type} {l:List α} {f:α->List β} {i:Nat} {x:α} (h:l[i]? = some x):(l.take (i+1)).flatMap f=(l.take i).flatMap f++f x:=by
 rw [List.take_add_one,h,List.flatMap_append];simp
theorem iT {α β : Type} {l:List α} {f:α->List β} (i:Nat):((l.take i).flatMap f).length<=(l.flatMap f).length:=by
 conv=>rhs;rw [<-List.take_append_drop i l,List.flatMap_append,List.length_append]
 exact Nat.le_add_right _ _
def jj:Sp:=fun vs H Q _=>∃ (plv:V) (ps:List Piece) (xs:List Str) (m:Nat),vs = [plv]/\aN H plv (fV ps)/\dm xs m ps/\xs.length < 64/\(bh ps).length<=4000 /\
 ∀ (t:Addr) (ss:List Str) (H':Hp),H' t=some (.tup (ss.map V.str))->ss.Perm (cH (bh ps))->sortedS ss=true->ss.length < 64->ah H H'->Q (.ref t) H'
theorem vC {xs:List Str} {m:Nat} {ps:List Piece} (ok:dm xs m ps):(cH (bh ps)).length<=xs.length :=
 sub_len (ph _) fun x hx=>nI ok x (nH.mp hx)
end L2
namespace PySem
theorem n5:typeLookup (.type "tuple") "keys" = pure none:=by rw [typeLookup_type,builtinLookup_eq_fast];kernel_rfl
section
variable {prog:Program} {w:World} {A:Around} {E:Value->Shared->Prop} {s:Shared}
theorem n6 {a:Addr} {xs:Array Value} {k:Nat} {sl:Array (Option Value)} {name:Str} {u:Tok} {Q:Value->Shared->Prop} (hx:s.heap.get? a=some { cls:=.type "tuple",dict:=none,data:=.seq xs k,slots:=sl })
  (miss:typeLookup (.type "tuple") name=pure none) (plain:(["__module__", "__name__", "__qualname__", "__doc__", "__annotations__"]:List Str).contains name=false) (calm:A.handled=none) (fits:name.length+100<=sizeLine)
  (fin:∀ g tk e,Heap.NewExcOf s.heap g e "AttributeError" -> E (.ref e) { s with heap:=g,toks:=tk }):wpAny (model prog w) A (getAttrBy (.ref a) (.str name u) false) Q E s:=by
 obtain⟨hp,gs,dr,tk,os⟩:=s
 have hT:∀ tk',(⟨hp,gs,dr,tk',os⟩:Shared).TypeIs (.ref a) "tuple" := fun _=>⟨_,hx,rfl⟩
 have f1:=sub_AttributeError
 have f3:=F.slot_tuple_getattribute.lookup
 have f4:=F.slot_tuple_getattribute.bind (.ref a)
 have f5:=am_tuple_getattr_none
 unfold getAttrBy
 repeat (any_goals (first | exact hT _ | assumption | ((with_reducible show wpAny _ _ (call (Value.builtin "tuple.__getattribute__") _ _) _ _ _);refine call_meets F.slot_tuple_getattribute (hT _) am_entry_tuple_getattribute (F.args_tuple_getattribute_2 _ _) (meets_getattribute_miss_tuple a xs k sl name _ miss plain fits) ⟨hx,calm,fun g t e ne=>?_⟩) | wp_step))
 obtain⟨t',u',there⟩:=ne.there
 show wpAny _ _ (getattributeRaised _ _ _ _ _ _ _) _ _ _
 unfold getattributeRaised
 repeat (any_goals (first | wp_step | assumption))
 exact fin g _ e ne.of
theorem lN {a:Addr} {xs:Array Value} {k:Nat} {sl:Array (Option Value)} {Q:Option Value->Shared->Prop} (hx:s.heap.get? a=some { cls:=.type "tuple",dict:=none,data:=.seq xs k,slots:=sl }) (calm:A.handled=none)
  (fin:∀ g tk,(∀ b o,s.heap.get? b=some o->g.get? b=some o)->Q none { s with heap:=g,toks:=tk }):wpAny (model prog w) A (getAttr? (.ref a) "keys") Q E s:=by
 unfold getAttr? getAttrBy?
 refine wpAny_bind (wpAny_mkText ?_)
 refine wpAny_bind (wpAny_attempt ?_)
 refine n6 (s:={ s with toks:=s.toks+1 }) hx n5 (by decide +kernel) calm (by decide +kernel) fun g tk e ne=>?_
 obtain⟨ob,vs,he,hc,_⟩:=ne.there
 have hT:({ s with heap:=g,toks:=tk }:Shared).TypeIs (.ref e) "AttributeError" := ⟨ob,he,hc⟩
 refine wpAny_bind (wpAny_isInstance hT sub_AttributeError ?_)
 exact wpAny_pure (fin g tk ne.keeps)
end
end PySem
namespace PySem
theorem iy:entryFor table "dict.update.loop" = some Builtin.«dict.update.loop»:=entryFor_of_tree (by kernel_rfl)
theorem d8:plainId "dict.update.loop" = true:=by decide +kernel
section
variable {prog:Program} {w:World} {K:Type} [DecidableEq K] {knd:KeyKind prog w K} {A:Around} {s:Shared}
def pC (knd:KeyKind prog w K) (h:Heap) (q:Addr) (p:K × Value):Prop:=∃ key n sl,h.get? q=some { cls:=.type "tuple",dict:=none,data:=.seq #[key,p.2] n,slots:=sl }/\knd.is p.1 key=true
theorem n9 {E:Value->Shared->Prop} {q:Addr} {x y:Value} {n:Nat} {sl:Array (Option Value)} {Q:List Value->Shared->Prop} (hq:s.heap.get? q=some { cls:=.type "tuple",dict:=none,data:=.seq #[x,y] n,slots:=sl })
  (fin:Q [x,y] s):wpAny (model prog w) A (Builtin.Dict.pairItems (.ref q)) Q E s:=by
 have hT:s.TypeIs (.ref q) "tuple" := ⟨_,hq,rfl⟩
 unfold Builtin.Dict.pairItems
 refine wpAny_bind (wpAny_typeOf hT ?_)
 rw [if_pos (by decide)]
 unfold seqItems?
 obtain⟨hp,gs,dr,tk,os⟩:=s
 repeat (any_goals (first | wp_step | assumption))
theorem sf {E:Value->Shared->Prop} {d I ax:Addr} {items:Array Value} {rs:List (K × Value)} {R:Result->Shared->Prop} {h0:Heap} (calm:A.handled=none) (ndI:d ≠ I) (nda:d ≠ ax) (nax:ax ≠ I) (len:rs.length=items.size) (cn:rs.length<=sizeLine)
  (pairs:∀ (i:Nat) (p:K × Value),rs[i]? = some p->∃ q,items[i]? = some (.ref q)/\q ≠ d/\q ≠ I/\pC knd h0 q p)
  (fin:∀ (g:Heap) (tk:Nat),g.DictOf knd d (merged [] rs)->(∀ b o,b ≠ d->b ≠ I->h0.get? b=some o->g.get? b=some o)->R (.ok (.ret .none)) { s with heap:=g,toks:=tk }) :
  ∀ (m i:Nat) (h:Heap) (tk:Nat) (t:Tok),rs.length - i=m->i<=rs.length->h.IsTupleIter I ax i->h.IsTuple ax items->h.DictOf knd d (merged [] (rs.take i))->(∀ b o,b ≠ d->b ≠ I->h0.get? b=some o->h.get? b=some o) ->
   codeAny (model prog w) A (.builtin "dict.update.loop" ⟨[.ref d,.ref I,.int i t,.none],[]⟩) R { s with heap:=h,toks:=tk }:=by
 have W:=Walks.tuple (prog:=prog) (w:=w) (A:=A.in1) calm I ax nax items
 intro m
 induction m with
 | zero =>
  intro i h tk t em hi it ta dd kp
  have ei:i=rs.length:=by omega
  subst ei
  refine codeAny_builtin iy ?_
  rw [Around.under_plainId d8 _]
  show wpAny _ A.in1 (pyNext (.ref I) >>= _) _ _ _
  refine wpAny_bind (W.done { s with heap:=h,toks:=tk } _ _ ⟨by rw [<-len];exact it,ta⟩ fun g tk' kg=>?_)
  show wpAny _ A.in1 (Builtin.Dict.addKeywords d [] >>= fun _=>ret Value.none) _ _ _
  refine wpAny_bind (wpAny_pure ?_)
  refine wpAny_pure (fin g tk' ?_ fun b o n1 n2 e=>kg b o (by simpa using n2) (kp b o n1 n2 e))
  rw [List.take_length] at dd
  obtain⟨ob,es,ep,ho,rest⟩:=dd
  exact⟨ob,es,ep,kg d ob (by simpa using ndI) ho,rest⟩
 | succ m ih =>
  intro i h tk t em hi it ta dd kp
  have hlt:i < rs.length:=by omega
  have hp:rs[i]? = some rs[i]:=by simp [hlt]
  generalize rs[i] = p at hp
  obtain⟨q,hq,nqd,nqI,key,n,sl,hqo,hkey⟩:=pairs i p hp
  refine codeAny_builtin iy ?_
  rw [Around.under_plainId d8 _]
  show wpAny _ A.in1 (pyNext (.ref I) >>= _) _ _ _
  refine wpAny_bind (W.item i { s with heap:=h,toks:=tk } _ _ (by omega) ⟨it,ta⟩ fun v g tk' hv st kg=>?_)
  rw [hq] at hv
  cases hv
  have kp':∀ b o,b ≠ d->b ≠ I->h0.get? b=some o->g.get? b=some o:=fun b o n1 n2 e=>kg b o (by simpa using n2) (kp b o n1 n2 e)
  refine wpAny_bind (wpAny_holding (wpAny_bind (wpAny_tryCatch (n9 (kp' q _ nqd nqI hqo) ?_))))
  have dd':g.DictOf knd d (merged [] (rs.take i)):=by
   obtain⟨ob,es,ep,ho,rest⟩:=dd
   exact⟨ob,es,ep,kg d ob (by simpa using ndI) ho,rest⟩
  refine wpAny_holding (wpAny_dictSet_pairs hkey dd' (fun g2 dd2 same=>?_) ?_)
  ·refine wpAny_pure ⟨plainId_quiet d8 _,?_⟩
   rw [<-merged_take_succ [] rs i p hp] at dd2
   have k2:∀ b o,b ≠ d->g.get? b=some o->g2.get? b=some o:=fun b o nb e=>(same.2 b nb).trans e
   refine ih (i+1) g2 _ _ (by omega) hlt ?_ ?_ dd2 fun b o n1 n2 e=>k2 b o n1 (kp' b o n1 n2 e)
   ·exact st.1.at fun o e=>k2 I o ndI.symm e
   ·exact st.2.at fun o e=>k2 ax o nda.symm e
  ·have e:=merged_length_le ([]:List (K × Value)) (rs.take i)
   rw [List.length_take] at e
   simp only [List.length_nil] at e
   omega
open PySem.Calls in
theorem oa {E:Value->Shared->Prop} {ax:Addr} {items:Array Value} {na:Nat} {sa:Array (Option Value)} {rs:List (K × Value)} {Q:Value->Shared->Prop} (calm:A.handled=none)
  (hx:s.heap.get? ax=some { cls:=.type "tuple",dict:=none,data:=.seq items na,slots:=sa }) (len:rs.length=items.size) (cn:rs.length<=sizeLine)
  (pairs:∀ (i:Nat) (p:K × Value),rs[i]? = some p->∃ q,items[i]? = some (.ref q)/\pC knd s.heap q p)
  (fin:∀ (g:Heap) (tk:Nat),g.DictOf knd s.heap.objs.size (merged [] rs)->(∀ b o,s.heap.get? b=some o->g.get? b=some o)->Q (.ref s.heap.objs.size) { s with heap:=g,toks:=tk }) :
  wpAny (model prog w) A (call (.type "dict") [.ref ax]) Q E s:=by
 refine callType_codes (Q₁:=fun ob s1=>ob=.ref s.heap.objs.size/\s1 = { s with heap:=s.heap.push { cls:=.type "dict",data:=.dict #[] } }) F.kt_called_dict (F.kt_typeCall_dict_1 _) F.entry_dict_init (kt_code_dict_new _ ⟨rfl,rfl⟩) fun ob s1 e1=>?_
 obtain⟨rfl,rfl⟩:=e1
 have fresh:(s.heap.push { cls:=.type "dict",data:=.dict #[] }).DictOf knd s.heap.objs.size []:=Heap.DictOf.new s.heap
 have hx1:=Heap.get?_push_of_some { cls:=.type "dict",data:=.dict #[] } hx
 refine⟨fresh.typeIs,F.args_dict_init_2 _ _,?_⟩
 have hT:({ s with heap:=s.heap.push { cls:=.type "dict",data:=.dict #[] } }:Shared).TypeIs (.ref ax) "tuple" := ⟨_,hx1,rfl⟩
 unfold Builtin.«dict.__init__»
 refine wpAny_bind ?_
 unfold Builtin.Dict.selfAndRest
 refine wpAny_bind (wpAny_notOrdered_dict fresh.typeIs (wpAny_pure ?_))
 show wpAny _ _ (Builtin.Dict.updateFrom "dict.__init__" s.heap.objs.size (.ref ax) [] .none) _ _ _
 unfold Builtin.Dict.updateFrom
 refine wpAny_bind (wpAny_typeOf hT ?_)
 rw [if_pos (by decide)]
 refine wpAny_bind (lN hx1 calm fun g tk kg=>?_)
 rw [if_pos (show (none:Option Value).isNone=true from rfl)]
 refine wpAny_bind (wpAny_rule ?_)
 have hxg:=kg _ _ hx1
 have hta:g.IsTuple ax items:=⟨_,hxg,rfl,na,rfl⟩
 refine wpAny_bind (wpAny_pyIter_tuple hta ?_)
 have dg:g.DictOf knd s.heap.objs.size []:=by
  obtain⟨ob,es,ep,ho,rest⟩:=fresh
  exact⟨ob,es,ep,kg _ _ ho,rest⟩
 have ltd:s.heap.objs.size < g.objs.size:=by
  obtain⟨ob,es,ep,ho,rest⟩:=dg
  exact Heap.lt_size ho
 have lta:ax < g.objs.size:=Heap.lt_size hxg
 have ltx:ax < s.heap.objs.size:=Heap.lt_size hx
 have kg':∀ b o,s.heap.get? b=some o->(g.push { cls:=.type "tuple_iterator",data:=.fields #[.ref ax,.int 0 0] }).get? b=some o:=fun b o e=>Heap.get?_push_of_some _ (kg b o (Heap.get?_push_of_some _ e))
 refine wpAny_pure ⟨plainId_quiet d8 _,?_⟩
 refine sf (E:=E) (knd:=knd) (s:=s) (A:=A.in1) (items:=items) (rs:=rs) (h0:=g.push { cls:=.type "tuple_iterator",data:=.fields #[.ref ax,.int 0 0] }) calm (Nat.ne_of_lt ltd) (Nat.ne_of_gt ltx) (Nat.ne_of_lt lta) len cn (fun i p hp=>?_) (fun g2 tk2 dd2 k2=>⟨rfl,fin g2 tk2 dd2 fun b o e=>k2 b o (Nat.ne_of_lt (Heap.lt_size e)) (Nat.ne_of_lt (Nat.lt_trans (Heap.lt_size e) ltd)) (kg' b o e)⟩) rs.length 0 _ _ _ (Nat.sub_zero _) (Nat.zero_le _) ⟨_,Heap.get?_push_size _ rfl,rfl,rfl⟩ (hta.push _) (dg.push _) fun b o _ _ e=>e
 obtain⟨q,hq,key,n,sl,hqo,hkey⟩:=pairs i p hp
 have hql:=Heap.lt_size hqo
 exact⟨q,hq,Nat.ne_of_lt hql,Nat.ne_of_lt (Nat.lt_trans hql ltd),key,n,sl,kg' q _ hqo,hkey⟩
end
end PySem
namespace L2
open PySem PySem.Spec PyProof.Rows
theorem wF:∀ (kvs:List (Key × V)) (P:Nat->Key × Value->Prop),(∀ (i:Nat) (k:Key) (v:V),kvs[i]? = some (k,v)->∃ u,RelV v u/\P i (k,u))->∃ rs:List (Key × Value),KV kvs rs/\∀ (i:Nat) (p:Key × Value),rs[i]? = some p->P i p
 | [],_,_=>⟨[],.nil,fun i p h=>by simp at h⟩
 | (k,v) :: r,P,h=>by
  obtain⟨u,ru,hu⟩:=h 0 k v rfl
  obtain⟨rs,kr,hr⟩:=wF r (fun i=>P (i+1)) fun i k' v' e=>h (i+1) k' v' (by simpa using e)
  refine⟨(k,u) :: rs,.cons ⟨rfl,ru⟩ kr,fun i p e=>?_⟩
  cases i with
  | zero=>cases (Option.some.inj e);exact hu
  | succ i=>exact hr i p (by simpa using e)
theorem pD:∀ {xs:List V} {us:List Value} {j:Nat} {x:V},Vals xs us->xs[j]? = some x->∃ u,us[j]? = some u/\RelV x u
 | _,_,_,_,.nil,e=>by simp at e
 | _,_,0,_,.cons r _,e=>by
  cases (Option.some.inj e)
  exact⟨_,rfl,r⟩
 | _,_,j+1,x,.cons _ t,e=>by
  obtain⟨u,h1,h2⟩:=pD (j:=j) (x:=x) t (by simpa using e)
  exact⟨u,by simpa using h1,h2⟩
section
variable {X:Cx}
theorem fg (hc:X.calm=true):dB X (.type "dict") (fun vs H Q=>∃ (a:Addr) (xs:List V) (kvs:List (Key × V)),vs = [.ref a]/\H a=some (.tup xs)/\xs.length=kvs.length /\
  (∀ (i:Nat) (k:Key) (v:V),kvs[i]? = some (k,v)->∃ q,xs[i]? = some (.ref q)/\H q=some (.tup [kV k,v]))/\(kvs.map (·.1)).Nodup/\∀ d,H d=none->Q (.ref d) (upd H d (.dK kvs))):=by
 intro pins s σ H vs us Q I r h
 obtain⟨a,xs,kvs,rfl,ha,hl,hp,nd,q⟩:=h
 obtain⟨u,rfl,ru⟩:=vals1 r
 cases (show u=Value.ref a from ru)
 obtain⟨hz,its,rv,⟨c,dct,dat,sl⟩,h1,h2,n,h3,h4⟩:=(show bI X.prog X.w H s.heap a (.tup xs) from I.aL a _ ha)
 dsimp only at h2 h3 h4
 subst h2 h3 h4
 have hil:its.length=kvs.length:=by rw [<-rv.length];exact hl
 obtain⟨rs,rel,prs⟩:=wF kvs (fun i p=>∃ q,its.toArray[i]? = some (.ref q)/\pC (aB X.prog X.w) s.heap q p) fun i k v e=>by
  obtain⟨q,e1,e2⟩:=hp i k v e
  obtain⟨_,its2,rv2,⟨c2,dct2,dat2,sl2⟩,g1,g2,n2,g3,g4⟩:=(show bI X.prog X.w H s.heap q (.tup [kV k,v]) from I.aL q _ e2)
  dsimp only at g2 g3 g4
  subst g2 g3 g4
  obtain⟨key,u2,rfl,rk,ru2⟩:=vals2 rv2
  refine⟨u2,ru2,q,?_,key,n2,sl2,g1,lh rk⟩
  obtain⟨w',hw,rw'⟩:=pD rv e1
  cases (show w' = Value.ref q from rw')
  simpa using hw
 have hkl:kvs.length<=sizeLine:=by rw [<-hl];exact hz
 have ndr:(rs.map (·.1)).Nodup:=by rw [<-rel.keys];exact nd
 refine oa (knd:=aB X.prog X.w) (rs:=rs) (I.ok.hd hc) h1 (by rw [<-rel.length,<-hil];simp) (by rw [<-rel.length];exact hkl) prs fun g tk dd kg=>?_
 rw [merged_nil_of_nodup rs ndr] at dd
 exact⟨.ref s.heap.objs.size,_,I.laid (a:=s.heap.objs.size) (o:=.dK kvs) (t':=tk) kg (Nat.le_refl _) (tR hkl (beq_eq_false_iff_ne.mpr (Ne.symm (Nat.ne_of_lt I.big))) rel dd),rfl,q _ (I.aL.fresh (Nat.le_refl _))⟩
end
def lO (a b:Str):Prop:=a.cps.toList<=b.cps.toList
theorem uq {a b c:Str} (h:lO a b) (g:lO b c):lO a c:=List.le_trans h g
theorem vD {a b:Str} (h:lO a b) (g:lO b a):a=b:=by
 have e:a.cps.toList=b.cps.toList:=List.le_antisymm h g
 have e2:a.cps=b.cps:=by rw [<-Array.toArray_toList (xs:=a.cps),e,Array.toArray_toList]
 cases a
 cases b
 cases e2
 rfl
theorem nK:∀ (l:List Str) (p:Str),risingS p l=true->(p :: l).Pairwise lO
 | [],p,_=>by simp
 | x :: r,p,h=>by
  have h':(!ltCps x.cps.toList p.cps.toList && risingS x r)=true:=h
  rw [Bool.and_eq_true,Bool.not_eq_true'] at h'
  have h1:lO p x:=by
   have:=h'.1
   rw [ltCps_eq] at this
   exact of_decide_eq_false this
  have ih:=nK r x h'.2
  refine List.Pairwise.cons (fun y hy=>?_) ih
  rcases List.mem_cons.mp hy with e | hy
  ·rw [e];exact h1
  ·exact uq h1 ((List.pairwise_cons.mp ih).1 y hy)
theorem nL {l:List Str} (h:sortedS l=true):l.Pairwise lO:=by
 cases l with
 | nil=>exact List.Pairwise.nil
 | cons x r=>exact nK r x h
structure hR (ss:List Str):Prop where
 pw:ss.Pairwise lO
 nd:ss.Nodup
theorem hR.tail {x:Str} {r:List Str} (h:hR (x :: r)):hR r:=⟨(List.pairwise_cons.mp h.pw).2,(List.nodup_cons.mp h.nd).2⟩
theorem hR.unique:∀ {l m:List Str},hR l->hR m->(∀ x,x ∈ l ↔ x ∈ m)->l=m
 | [],[],_,_,_=>rfl
 | [],b :: m,_,_,h=>absurd ((h b).mpr (List.mem_cons_self ..)) (by simp)
 | a :: l,[],_,_,h=>absurd ((h a).mp (List.mem_cons_self ..)) (by simp)
 | a :: l,b :: m,hl,hm,h=>by
  have e:a=b:=by
   rcases List.mem_cons.mp ((h a).mp (List.mem_cons_self ..)) with e | h1
   ·exact e
   ·rcases List.mem_cons.mp ((h b).mpr (List.mem_cons_self ..)) with e | h2
    ·exact e.symm
    ·exact vD ((List.pairwise_cons.mp hl.pw).1 b h2) ((List.pairwise_cons.mp hm.pw).1 a h1)
  subst e
  have na:=(List.nodup_cons.mp hl.nd).1
  have nb:=(List.nodup_cons.mp hm.nd).1
  rw [hR.unique hl.tail hm.tail fun x=>⟨fun hx=>?_,fun hx=>?_⟩]
  ·rcases List.mem_cons.mp ((h x).mp (List.mem_cons_of_mem _ hx)) with e | h1
   ·exact absurd (by rw [<-e];exact hx) na
   ·exact h1
  ·rcases List.mem_cons.mp ((h x).mpr (List.mem_cons_of_mem _ hx)) with e | h1
   ·exact absurd (by rw [<-e];exact hx) nb
   ·exact h1
theorem hR.filter {l:List Str} (h:hR l) (p:Str->Bool):hR (l.filter p):=⟨h.pw.filter p,h.nd.filter p⟩
abbrev Sx:=Option Int × Option Int
def cP:Sx:=(none,none)
structure fO (K:PySem.W.Frag) (mg:Str->Option Value) (aA:Addr):Prop where
 nF:mg "ALL" = some (.ref aA)
 at_:∃ dc n sl,K.lookup aA=some ⟨.type "tuple",dc,.seq #[.none,.none] n,sl⟩
theorem fO.sq {K:PySem.W.Frag} {mg:Str->Option Value} {aA:Addr} (h:fO K mg aA) (H:Hp):ay K H aA [.bx,.bx]:=by
 obtain⟨dc,n,sl,e⟩:=h.at_
 exact .inr ⟨_,#[.none,.none],n,e,rfl,rfl,by decide,.cons rfl (.cons rfl .nil)⟩
def SH (H:Hp) (v:V) (s:Sx):Prop:=∃ q,v=.ref q/\H q=some (.tup [vO s.1,vO s.2])
def SV (aA:Addr) (H:Hp) (v:V) (s:Sx):Prop:=SH H v s\/(v=.ref aA/\s=cP)
def dS (s:Sx):PyData:=.tuple [dO s.1,dO s.2]
theorem SH.rd {H:Hp} {v:V} {s:Sx} (h:SH H v s):aN H v (dS s):=by
 obtain⟨q,rfl,e⟩:=h
 exact .tup e (.cons (yy _) (.cons (yy _) .nil))
theorem SH.aI {H H':Hp} {v:V} {s:Sx} (h:SH H v s) (k:∀ p xs,H p=some (.tup xs)->H' p=some (.tup xs)):SH H' v s:=by
 obtain⟨q,e,h⟩:=h
 exact⟨q,e,k _ _ h⟩
theorem SV.aI {aA:Addr} {H H':Hp} {v:V} {s:Sx} (h:SV aA H v s) (k:∀ p xs,H p=some (.tup xs)->H' p=some (.tup xs)):SV aA H' v s:=h.elim (fun h=>.inl (h.aI k)) .inr
theorem SV.sq {K:PySem.W.Frag} {mg:Str->Option Value} {aA:Addr} {H:Hp} {v:V} {s:Sx} (g:fO K mg aA) (h:SV aA H v s):∃ q,v=.ref q/\ay K H q [vO s.1,vO s.2]:=by
 rcases h with ⟨q,e,h⟩ | ⟨e,rfl⟩
 ·exact⟨q,e,ay.of h⟩
 ·exact⟨aA,e,g.sq H⟩
theorem qQ {H:Hp} {v:V} {o:Option Int} (h:aN H v (dO o)):v=vO o:=by
 cases o with
 | none=>cases h;rfl
 | some i=>exact h.int_inv
structure Tb (aA:Addr) (H:Hp) (kvs:List (Key × V)) (ks:List Str) (T:Str->Sx):Prop where
 keys:kvs.map (·.1)=ks.map Sum.inr
 nd:ks.Nodup
 val:∀ x:Str,(cm kvs (Sum.inr x)=none/\T x=cP/\¬ x ∈ ks)\/(∃ v,cm kvs (Sum.inr x)=some v/\SV aA H v (T x)/\x ∈ ks)
def bE (T:Str->Sx) (x:Str) (s:Sx):Str->Sx:=fun y=>if y=x then s else T y
theorem Tb.aI {aA:Addr} {H H':Hp} {kvs:List (Key × V)} {ks:List Str} {T:Str->Sx} (h:Tb aA H kvs ks T) (k:∀ p xs,H p=some (.tup xs)->H' p=some (.tup xs)):Tb aA H' kvs ks T :=
 ⟨h.keys,h.nd,fun x=>(h.val x).elim .inl fun ⟨v,e,s,m⟩=>.inr ⟨v,e,s.aI k,m⟩⟩
theorem Tb.put {aA:Addr} {H:Hp} {kvs:List (Key × V)} {ks:List Str} {T:Str->Sx} (h:Tb aA H kvs ks T) {v:V} {s:Sx} (x:Str) (hv:SV aA H v s) :
  ∃ ks',Tb aA H (putK kvs (Sum.inr x) v) ks' (bE T x s)/\ks'.length<=ks.length+1/\∀ y,y ∈ ks' ↔ y ∈ ks\/y=x:=by
 have vals:∀ (ks':List Str),(∀ y,y ∈ ks' ↔ y ∈ ks\/y=x)->∀ y:Str,(cm (putK kvs (Sum.inr x) v) (Sum.inr y)=none/\bE T x s y=cP/\¬ y ∈ ks')\/(∃ u,cm (putK kvs (Sum.inr x) v) (Sum.inr y)=some u/\SV aA H u (bE T x s y)/\y ∈ ks'):=by
  intro ks' hk y
  rw [u9]
  unfold bE
  by_cases e:y=x
  ·subst e
   rw [if_pos rfl,if_pos rfl]
   exact .inr ⟨v,rfl,hv,(hk y).mpr (.inr rfl)⟩
  ·rw [if_neg (fun z=>e (Sum.inr.inj z)),if_neg e]
   rcases h.val y with ⟨a,b,c⟩ | ⟨u,a,b,c⟩
   ·exact .inl ⟨a,b,fun z=>((hk y).mp z).elim c e⟩
   ·exact .inr ⟨u,a,b,(hk y).mpr (.inl c)⟩
 rcases tU (kvs:=kvs) (k:=(Sum.inr x:Key)) (v:=v) with ⟨e1,hm⟩ | ⟨e1,hn⟩
 ·have hx:x ∈ ks:=by
   rw [h.keys] at hm
   obtain⟨y,hy,e⟩:=List.mem_map.mp hm
   cases e
   exact hy
  have hk:∀ y,y ∈ ks ↔ y ∈ ks\/y=x:=fun y=>⟨.inl,fun z=>z.elim id fun e=>by rw [e];exact hx⟩
  exact⟨ks,⟨by rw [e1];exact h.keys,h.nd,vals ks hk⟩,Nat.le_succ _,hk⟩
 ·have hx:¬ x ∈ ks:=fun z=>hn (by rw [h.keys];exact List.mem_map.mpr ⟨x,z,rfl⟩)
  have hk:∀ y,y ∈ ks ++ [x] ↔ y ∈ ks\/y=x:=fun y=>by simp
  refine⟨ks ++ [x],⟨by rw [e1,h.keys,List.map_append];rfl,?_,vals _ hk⟩,by simp,hk⟩
  rw [List.nodup_append]
  refine⟨h.nd,by simp,fun a ha b hb=>?_⟩
  rw [List.mem_singleton] at hb
  subst hb
  exact fun z=>hx (by rw [<-z];exact ha)
def dF (T:Str->Sx) (x:Str):PyData:=.tuple [.str x,dS (T x)]
def FV (H:Hp) (v:V) (T:Str->Sx):Prop:=∃ (p:Addr) (xs:List V) (ss:List Str),v=.ref p/\H p=some (.tup xs)/\hR ss/\(∀ x,x ∈ ss ↔ T x ≠ cP)/\aV H xs (ss.map (dF T))
def d5 (T:Str->Sx) (ss:List Str):PyData:=.tuple (ss.map (dF T))
theorem jI (T:Str->Sx):∀ ss:List Str,bS (ss.map (dF T))=true
 | []=>rfl
 | x :: ss=>by
  show (bN (dF T x) && bS (ss.map (dF T)))=true
  rw [jI T ss]
  show ((true && ((bN (dO (T x).1) && (bN (dO (T x).2) && true)) && true)) && true)=true
  cases (T x).1 <;> cases (T x).2 <;> rfl
theorem FV.aI {H H':Hp} {v:V} {T:Str->Sx} (h:FV H v T) (k:∀ p xs,H p=some (.tup xs)->H' p=some (.tup xs)):FV H' v T:=by
 obtain⟨p,xs,ss,e,hp,hs,hm,r⟩:=h
 exact⟨p,xs,ss,e,k _ _ hp,hs,hm,r.aI k (jI T ss)⟩
theorem FV.same {H H':Hp} {v:V} {T:Str->Sx} (h:FV H v T) (s:ah H H'):FV H' v T:=h.aI fun p xs e=>s _ _ e
theorem FV.tb {H:Hp} {xs:List V} {T:Str->Sx} {ss:List Str} (aA:Addr) (hs:hR ss) (hm:∀ x,x ∈ ss ↔ T x ≠ cP) (r:aV H xs (ss.map (dF T))) :
  ∃ kvs:List (Key × V),xs.length=kvs.length/\(∀ (i:Nat) (k:Key) (v:V),kvs[i]? = some (k,v)->∃ q,xs[i]? = some (.ref q)/\H q=some (.tup [kV k,v]))/\(kvs.map (·.1)).Nodup/\Tb aA H kvs ss T:=by
 have go:∀ (ss:List Str) (xs:List V),aV H xs (ss.map (dF T))->∃ kvs:List (Key × V),xs.length=kvs.length/\(∀ (i:Nat) (k:Key) (v:V),kvs[i]? = some (k,v)->∃ q,xs[i]? = some (.ref q)/\H q=some (.tup [kV k,v])) /\
   kvs.map (·.1)=ss.map Sum.inr/\∀ x:Str,(cm kvs (Sum.inr x)=none/\¬ x ∈ ss)\/(∃ v,cm kvs (Sum.inr x)=some v/\SH H v (T x)/\x ∈ ss):=by
  intro ss
  induction ss with
  | nil =>
   intro xs r
   have z:=aV.nil_inv r
   subst z
   exact⟨[],rfl,fun i k v e=>by simp at e,rfl,fun x=>.inl ⟨rfl,by simp⟩⟩
  | cons y ss ih =>
   intro xs r
   obtain⟨x1,t1,rfl,h1,r⟩:=aV.cons_inv r
   obtain⟨kvs,l1,l2,l3,l4⟩:=ih t1 r
   obtain⟨q,zs,rfl,hq,rz⟩:=aN.bM h1
   obtain⟨z1,t2,rfl,g1,rz⟩:=rz.cons_inv
   obtain⟨z2,t3,rfl,g2,rz⟩:=rz.cons_inv
   have z:=rz.nil_inv
   subst z
   obtain⟨q2,ws,rfl,hq2,rw2⟩:=aN.bM g2
   obtain⟨w1,t4,rfl,f1,rw2⟩:=rw2.cons_inv
   obtain⟨w2,t5,rfl,f2,rw2⟩:=rw2.cons_inv
   have z:=rw2.nil_inv
   subst z
   have e1:w1=vO (T y).1:=qQ f1
   have e2:w2=vO (T y).2:=qQ f2
   subst e1 e2
   rw [g1.str_inv] at hq
   refine⟨(Sum.inr y,.ref q2) :: kvs,by simp [l1],fun i k v e=>?_,by simp [l3],fun x=>?_⟩
   ·cases i with
    | zero=>cases (Option.some.inj e);exact⟨q,rfl,hq⟩
    | succ i =>
     obtain⟨q',a,b⟩:=l2 i k v (by simpa using e)
     exact⟨q',by simpa using a,b⟩
   ·by_cases e:x=y
    ·subst e
     exact .inr ⟨_,cK rfl,⟨q2,rfl,hq2⟩,List.mem_cons_self ..⟩
    ·rw [cL (fun z=>e (Sum.inr.inj z).symm)]
     rcases l4 x with ⟨a,b⟩ | ⟨v,a,b,c⟩
     ·exact .inl ⟨a,fun z=>(List.mem_cons.mp z).elim e b⟩
     ·exact .inr ⟨v,a,b,List.mem_cons_of_mem _ c⟩
 obtain⟨kvs,l1,l2,l3,l4⟩:=go ss xs r
 refine⟨kvs,l1,l2,?_,⟨l3,hs.nd,fun x=>?_⟩⟩
 ·rw [l3]
  exact List.Pairwise.map _ (fun a b n z=>n (Sum.inr.inj z)) hs.nd
 ·rcases l4 x with ⟨a,b⟩ | ⟨v,a,b,c⟩
  ·refine .inl ⟨a,?_,b⟩
   exact Classical.byContradiction fun z=>b ((hm x).mpr z)
  ·exact .inr ⟨v,a,.inl b,c⟩
theorem xt (s:Sx):PyData.eqv (dS s) (.tuple [.none,.none])=decide (s=cP):=by
 obtain⟨a,b⟩:=s
 cases a <;> cases b <;> rfl
theorem wG (s:Sx):(dS s).canLay0=true:=by
 obtain⟨a,b⟩:=s
 cases a <;> cases b <;> rfl
theorem zm (s:Sx):(dS s).depth<=60:=by
 obtain⟨a,b⟩:=s
 cases a <;> cases b <;> (show (1:Nat)<=60;decide)
section
variable {X:Cx}
theorem ur {pins:List (Addr × Obj)} {σ : St} {H:Hp} {s:Shared} {aA:Addr} (I:Inv X pins σ H s) (g:fO X.K X.mg aA):∃ as,Reads s.heap (.ref aA) (.tuple [.none,.none]) as:=by
 obtain⟨dc,n,sl,e⟩:=g.at_
 exact⟨_,.tuple (I.fR aA _ e) rfl rfl (.cons .none (.cons .none .nil))⟩
theorem yJ {aA:Addr} (hu:X.A.units+64 < cLine) (g:fO X.K X.mg aA):dU X (compareOp .NotEq) (fun x y H Q=>∃ s,SV aA H x s/\y=.ref aA/\Q (.bl (!decide (s=cP))) H):=by
 intro pins sh σ H x y v u Q I rx ry h
 obtain⟨s,hs,rfl,q⟩:=h
 cases (show u=Value.ref aA from ry)
 obtain⟨bs,rb⟩:=ur I g
 rcases hs with hs | ⟨rfl,rfl⟩
 ·obtain⟨as,ra⟩:=hs.rd.reads I.aL rx
  refine PySem.SeqAt.neOverData X.prog X.w X.A X.xe sh v _ _ _ as bs _ ra rb (wG s) rfl (by have:=zm s;omega) ⟨.bl _,H,I,?_,q⟩
  show _=Value.bool (!decide (s=cP))
  rw [xt]
 ·cases (show v=Value.ref aA from rx)
  exact PySem.SeqAt.neOverData X.prog X.w X.A X.xe sh _ _ _ _ bs bs _ rb rb rfl rfl (by show X.A.units+1 < cLine;omega) ⟨.bl _,H,I,rfl,q⟩
end
def hU (aA:Addr):Sp:=fun vs H Q _=>∃ (d:Addr) (kvs:List (Key × V)) (ks:List Str) (T:Str->Sx),vs = [.ref d]/\H d=some (.dK kvs)/\Tb aA H kvs ks T/\ks.length < 64/\∀ v H',FV H' v T->ah H H'->Q v H'
def wH (o:Option Int) (n:Int):Option Int:=o.map (· + n)
def yK (s:Sx) (n:Int):Sx:=(wH s.1 n,wH s.2 n)
def yL (T:Str->Sx):bP->Sx
 | .put _ n=>(some n,some n)
 | .copy _ y=>T y
 | .add x n=>yK (T x) n
 | .read _=>cP
 | .tell x=>T x
def pE (T:Str->Sx) (d:bP):Str->Sx:=bE T (lG d) (yL T d)
def aw (T:Str->Sx):List bP->(Str->Sx):=fun ds=>ds.foldl pE T
def mM (K:PySem.W.Frag):Sp:=fun vs H Q _=>∃ (q:Addr) (s:Sx) (n:Int),vs = [.ref q,.int n]/\ay K H q [vO s.1,vO s.2]/\∀ v H',SH H' v (yK s n)->ah H H'->Q v H'
def iI (aA:Addr):Sp:=fun vs H Q _=>∃ (d q:Addr) (kvs:List (Key × V)) (ks:List Str) (T:Str->Sx) (dd:bP),vs = [.ref d,.ref q]/\H d=some (.dK kvs)/\Tb aA H kvs ks T/\H q=some (.tup (oq dd))/\∀ v H',SV aA H' v (yL T dd)->ah H H'->Q v H'
def kq:Sp:=fun vs H Q _=>∃ (fv:V) (p:Addr) (ws:List V) (ds:List bP) (T:Str->Sx) (m:Nat),vs = [fv,.ref p]/\FV H fv T/\H p=some (.tup ws)/\aV H ws (ds.map eF)/\(∀ ss:List Str,(∀ x ∈ ss,T x ≠ cP)->ss.Nodup->ss.length<=m)/\m+ds.length < 64/\∀ v H',FV H' v (aw T ds)->ah H H'->Q v H'
theorem Tb.getD {aA:Addr} {H:Hp} {kvs:List (Key × V)} {ks:List Str} {T:Str->Sx} (h:Tb aA H kvs ks T) (x:Str):∃ v,(cm kvs (Sum.inr x)).getD (.ref aA)=v/\SV aA H v (T x):=by
 rcases h.val x with ⟨a,b,_⟩ | ⟨v,a,b,_⟩
 ·exact⟨_,by rw [a];rfl,.inr ⟨rfl,b⟩⟩
 ·exact⟨v,by rw [a];rfl,b⟩
section
variable {C D:Addr} {H0 H H1:Hp} {w0 w1:WA} {plv:V} {x0 x1 x':yB}
end
mutual
def dD:PyData->Bool
 | .none=>true
 | .int _=>true
 | .str _=>true
 | .tuple xs=>cI xs
 | _=>false
def cI:List PyData->Bool
 | []=>true
 | x :: xs=>dD x && cI xs
end
mutual
def ow:PyData->Nat
 | .tuple xs=>jl xs+1
 | _=>1
def jl:List PyData->Nat
 | []=>0
 | x :: xs=>ow x+jl xs
end
noncomputable instance yR:DecidableEq PyData:=fun a b=>Classical.propDecidable (a=b)
mutual
theorem qR:∀ {a b:PyData},dD a=true->dD b=true->(PyData.eqv a b=true ↔ a=b)
 | .none,.none,_,_=>⟨fun _=>rfl,fun _=>rfl⟩
 | .int i,.int j,_,_=>by show ((i == j)=true) ↔ _;rw [beq_iff_eq];exact⟨fun h=>by rw [h],fun h=>by injection h⟩
 | .str x,.str y,_,_=>by show ((x == y)=true) ↔ _;rw [beq_iff_eq];exact⟨fun h=>by rw [h],fun h=>by injection h⟩
 | .tuple xs,.tuple ys,ha,hb=>by
  show (PyData.eqvAll xs ys=true) ↔ _
  rw [lP (show cI xs=true from ha) (show cI ys=true from hb)]
  exact⟨fun h=>by rw [h],fun h=>by injection h⟩
 | .none,.int _,_,_ | .none,.str _,_,_ | .none,.tuple _,_,_ | .int _,.none,_,_ | .int _,.str _,_,_ | .int _,.tuple _,_,_
 | .str _,.none,_,_ | .str _,.int _,_,_ | .str _,.tuple _,_,_ | .tuple _,.none,_,_ | .tuple _,.int _,_,_ | .tuple _,.str _,_,_=>⟨fun h=>(by cases h),fun h=>(by cases h)⟩
 | .bool _,_,h,_ | .list _,_,h,_ | .dict _,_,h,_=>by cases h
 | .none,.bool _,_,h | .none,.list _,_,h | .none,.dict _,_,h | .int _,.bool _,_,h | .int _,.list _,_,h | .int _,.dict _,_,h
 | .str _,.bool _,_,h | .str _,.list _,_,h | .str _,.dict _,_,h | .tuple _,.bool _,_,h | .tuple _,.list _,_,h | .tuple _,.dict _,_,h=>by cases h
theorem lP:∀ {a b:List PyData},cI a=true->cI b=true->(PyData.eqvAll a b=true ↔ a=b)
 | [],[],_,_=>⟨fun _=>rfl,fun _=>rfl⟩
 | x :: xs,y :: ys,ha,hb=>by
  have ha:(dD x && cI xs)=true:=ha
  have hb:(dD y && cI ys)=true:=hb
  rw [Bool.and_eq_true] at ha hb
  show ((PyData.eqv x y && PyData.eqvAll xs ys)=true) ↔ _
  rw [Bool.and_eq_true,qR ha.1 hb.1,lP ha.2 hb.2]
  exact⟨fun ⟨h1,h2⟩=>by rw [h1,h2],fun h=>by injection h with h1 h2;exact⟨h1,h2⟩⟩
 | [],_ :: _,_,_ | _ :: _,[],_,_=>⟨fun h=>(by cases h),fun h=>(by cases h)⟩
end
mutual
theorem nO {h:Heap}:∀ {v:Value} {a b:PyData} {as bs:List Addr},Reads h v a as->Reads h v b bs->dD a=true->dD b=true->a=b
 | _,_,_,_,_,.none,.none,_,_=>rfl
 | _,_,_,_,_,.int i t,.int _ _,_,_=>rfl
 | _,_,_,_,_,.str x t,.str _ _,_,_=>rfl
 | _,_,_,_,_,.tuple e1 c1 d1 r1,.tuple e2 c2 d2 r2,ha,hb=>by
  rw [e1] at e2
  cases e2
  rw [d1] at d2
  cases d2
  rw [jm r1 r2 ha hb]
 | _,_,_,_,_,.tuple e1 c1 d1 r1,.list e2 c2 d2 r2,_,hb=>by cases hb
 | _,_,_,_,_,.tuple e1 c1 d1 r1,.dict e2 c2 d2 r2 r3,_,hb=>by cases hb
 | _,_,_,_,_,.bool _,_,ha,_=>by cases ha
 | _,_,_,_,_,.list ..,_,ha,_=>by cases ha
 | _,_,_,_,_,.dict ..,_,ha,_=>by cases ha
theorem jm {h:Heap}:∀ {vs:List Value} {a b:List PyData} {as bs:List Addr},ReadsAll h vs a as->ReadsAll h vs b bs->cI a=true->cI b=true->a=b
 | _,_,_,_,_,.nil,.nil,_,_=>rfl
 | _,_,_,_,_,.cons (d:=x) (ds:=xs) r1 t1,.cons (d:=y) (ds:=ys) r2 t2,ha,hb=>by
  have ha:(dD x && cI xs)=true:=ha
  have hb:(dD y && cI ys)=true:=hb
  rw [Bool.and_eq_true] at ha hb
  rw [nO r1 r2 ha.1 hb.1,jm t1 t2 ha.2 hb.2]
end
mutual
theorem lQ {h h':Heap} (k:∀ a o n vs,h.get? a=some o->o.data=.seq vs n->h'.get? a=some o):∀ {v:Value} {a:PyData} {as:List Addr},Reads h v a as->dD a=true->Reads h' v a as
 | _,_,_,.none,_=>.none
 | _,_,_,.int i t,_=>.int i t
 | _,_,_,.str x t,_=>.str x t
 | _,_,_,.tuple e1 c1 d1 r1,ha=>.tuple (k _ _ _ _ e1 d1) c1 d1 (iU k r1 ha)
 | _,_,_,.bool _,ha=>by cases ha
 | _,_,_,.list ..,ha=>by cases ha
 | _,_,_,.dict ..,ha=>by cases ha
theorem iU {h h':Heap} (k:∀ a o n vs,h.get? a=some o->o.data=.seq vs n->h'.get? a=some o):∀ {vs:List Value} {a:List PyData} {as:List Addr},ReadsAll h vs a as->cI a=true->ReadsAll h' vs a as
 | _,_,_,.nil,_=>.nil
 | _,_,_,.cons (d:=x) (ds:=xs) r1 t1,ha=>by
  have ha:(dD x && cI xs)=true:=ha
  rw [Bool.and_eq_true] at ha
  exact .cons (lQ k r1 ha.1) (iU k t1 ha.2)
end
section
variable {prog:Program} {w:World} {E:Value->Shared->Prop}
abbrev wI (w:World) (d:PyData):Int:=PySem.W.hashW w.params (PySem.W.ofPy d)
mutual
theorem lR:∀ (d:PyData) (v:Value) (as:List Addr) (A:Around) (s:Shared) (Q:Int->Shared->Prop),dD d=true->Reads s.heap v d as->A.units+d.depth < cLine ->
  Q (wI w d) { s with toks:=s.toks+ow d }->wpAny (model prog w) A (pyHash v) Q E s
 | .none,_,_,A,s,Q,_,x,hu,h=>by
  cases x
  exact PySem.W.pyHash_slot (T := "NoneType") rfl F.slot_NoneType_hash F.entry_NoneType_hash (F.args_NoneType_hash_1 _) (beq_builtin_none _) (.inr (by omega)) (wpAny_bind (wpAny_pure (wpAny_bind (wpAny_mkInt (wpAny_pure ⟨_,_,rfl,h⟩)))))
 | .int i,_,_,A,s,Q,_,x,_,h=>by
  cases x
  refine wpAny_pyHash_int ?_
  have e:=PySem.W.hashW_int w.params i
  rw [<-e]
  exact h
 | .str y,_,_,A,s,Q,_,x,_,h=>by cases x;exact wpAny_pyHash_str h
 | .tuple xs,_,_,A,s,Q,hk,x,hu,h=>by
  cases x with
  | @tuple a o vs n _ _ hg hc hd hw =>
   refine PySem.W.pyHash_slot (T := "tuple") ⟨_,hg,hc⟩ F.slot_tuple_hash F.entry_tuple_hash (F.args_tuple_hash_1 _) (beq_builtin_none _) (.inr (by omega)) ?_
   show wpAny _ _ (Builtin.Tuple.tupleItemsOf (.ref a) >>= _) _ _ s
   refine wpAny_bind (wpAny_tupleItemsOf hg hd ?_)
   refine wpAny_bind ?_
   rw [<-Array.forIn_toList]
   refine nP xs vs.toList _ A.in1 s #[] _ hk hw (by have:(PyData.tuple xs).depth=PyData.depthAll xs+1:=rfl;rw [Around.in1_units];omega) fun b hb=>?_
   show wpAny _ _ (retInt (Builtin.Tuple.tupleHashOf b.toList)) _ _ _
   rw [hb]
   exact wpAny_bind (wpAny_mkInt (wpAny_pure ⟨_,_,rfl,h⟩))
 | .bool _,_,_,_,_,_,hk,_,_,_ | .list _,_,_,_,_,_,hk,_,_,_ | .dict _,_,_,_,_,_,hk,_,_,_=>by cases hk
theorem nP:∀ (xs:List PyData) (vs:List Value) (as:List Addr) (A:Around) (s:Shared) (b:Array Int) (Q:Array Int->Shared->Prop),cI xs=true->ReadsAll s.heap vs xs as->A.units+PyData.depthAll xs < cLine ->
  (∀ b',b'.toList=b.toList++PySem.W.hashesW w.params (PySem.W.ofPys xs)->Q b' { s with toks:=s.toks+jl xs }) ->
  wpAny (model prog w) A (forIn vs b fun x r=>do let h <-pyHash x;pure PUnit.unit;pure (ForInStep.yield (r.push h))) Q E s
 | [],_,_,A,s,b,Q,_,x,_,h=>by cases x;exact wpAny_pure (h b (by simp [PySem.W.hashesW,PySem.W.ofPys]))
 | k :: xs,_,_,A,s,b,Q,hk,x,hu,h=>by
  cases x with
  | cons x1 x2 =>
   have hk:(dD k && cI xs)=true:=hk
   rw [Bool.and_eq_true] at hk
   have hu:A.units+max k.depth (PyData.depthAll xs) < cLine:=hu
   rw [List.forIn_cons]
   refine wpAny_bind (wpAny_bind (lR k _ _ A s _ hk.1 x1 (by omega) ?_))
   refine wpAny_bind (wpAny_pure (wpAny_pure ?_))
   refine nP xs _ _ A _ _ Q hk.2 x2 (by omega) fun b' hb=>?_
   have h2:=h b' (by simp [hb,PySem.W.hashesW,PySem.W.ofPys])
   have e:jl (k :: xs)=ow k+jl xs:=rfl
   rw [e,<-Nat.add_assoc] at h2
   exact h2
end
mutual
theorem nQ:∀ (d:PyData) (v:Value) (as:List Addr) (A:Around) (s:Shared) (n:Nat) (Q:Bool->Shared->Prop),dD d=true->Reads s.heap v d as->d.depth<=n->Q true s->wpAny (model prog w) A (eqIsQuiet n v) Q E s
 | .none,_,_,A,s,n,Q,_,x,_,h=>by cases x;unfold eqIsQuiet;exact wpAny_pure h
 | .int i,_,_,A,s,n,Q,_,x,_,h=>by cases x;unfold eqIsQuiet;exact wpAny_pure h
 | .str y,_,_,A,s,n,Q,_,x,_,h=>by cases x;unfold eqIsQuiet;exact wpAny_pure h
 | .tuple xs,_,_,A,s,n,Q,hk,x,hn,h=>by
  cases x with
  | @tuple a o vs n' _ _ hg hc hd hw =>
   have hn:PyData.depthAll xs+1<=n:=hn
   obtain⟨n,rfl⟩:∃ m,n=m+1:=⟨n - 1,by omega⟩
   have hT:s.TypeIs (.ref a) "tuple" := ⟨_,hg,hc⟩
   unfold eqIsQuiet
   refine wpAny_bind (wpAny_specialOf hT F.slot_tuple_eq.lookup ?_)
   show wpAny _ _ (isInstance (.ref a) (.type "tuple") >>= _) _ _ s
   refine wpAny_bind (wpAny_isInstance hT isSubtype_tuple_tuple ?_)
   simp only [Bool.not_true,Bool.false_eq_true,if_false]
   refine wpAny_bind (wpAny_seqItems hg hd ?_)
   refine wpAny_bind ?_
   show wpAny _ _ (forIn vs _ _) _ _ s
   rw [<-Array.forIn_toList]
   have hall:=nR xs vs.toList _ A s n hk hw (by omega)
   refine wpAny_forIn_list _ (fun rest r s'=>r.1=none/\s' = s/\∀ v ∈ rest,∀ Q:Bool->Shared->Prop,Q true s->wpAny (model prog w) A (eqIsQuiet n v) Q E s) _ ?_ ?_ _ _ ⟨rfl,rfl,hall⟩
   ·rintro v rest r s' ⟨hr,rfl,hq⟩
    refine wpAny_bind (hq v List.mem_cons_self _ ?_)
    simp only [Bool.not_true,Bool.false_eq_true,if_false]
    exact wpAny_pure ⟨rfl,rfl,fun u hu'=>hq u (List.mem_cons_of_mem _ hu')⟩
   ·rintro⟨r1,r2⟩ s' ⟨hr,rfl,_⟩
    simp only at hr
    subst hr
    exact wpAny_pure h
 | .bool _,_,_,_,_,_,_,hk,_,_,_ | .list _,_,_,_,_,_,_,hk,_,_,_ | .dict _,_,_,_,_,_,_,hk,_,_,_=>by cases hk
theorem nR:∀ (xs:List PyData) (vs:List Value) (as:List Addr) (A:Around) (s:Shared) (n:Nat),cI xs=true->ReadsAll s.heap vs xs as->PyData.depthAll xs<=n->∀ v ∈ vs,∀ Q:Bool->Shared->Prop,Q true s->wpAny (model prog w) A (eqIsQuiet n v) Q E s
 | [],_,_,A,s,n,_,x,_=>by cases x;intro v hv;cases hv
 | k :: xs,_,_,A,s,n,hk,x,hn=>by
  cases x with
  | cons x1 x2 =>
   have hk:(dD k && cI xs)=true:=hk
   rw [Bool.and_eq_true] at hk
   have hn:max k.depth (PyData.depthAll xs)<=n:=hn
   intro v hv Q h
   rcases List.mem_cons.mp hv with rfl | hv
   ·exact nQ k _ _ A s n Q hk.1 x1 (by omega) h
   ·exact nR xs _ _ A s n hk.2 x2 (by omega) v hv Q h
end
end
structure ib (d:PyData):Prop where
 key:dD d=true
 lay:d.canLay0=true
 dep:d.depth<=7
 tup:∃ xs,d=.tuple xs
def gP (prog:Program) (w:World):HeapKind prog w PyData where
 is:=fun h d a=>ib d/\∃ as,Reads h (.ref a) d as
 hash:=wI w
 draws:=ow
 room:=fun A=>A.units+64 < cLine
 inj:=fun ⟨h1,_,r1⟩ ⟨h2,_,r2⟩=>nO r1 r2 h1.key h2.key
 keeps:=fun {h h' k a d o es ep} ⟨h1,as,r1⟩ hd he hs=>⟨h1,as,lQ (fun b u n vs e1 e2=>by
  have hne:b ≠ d:=by
   rintro rfl
   rw [hd] at e1
   cases e1
   rw [he] at e2
   cases e2
  exact (hs.2 b hne).trans e1) r1 h1.key⟩
 pyHash:=fun hu ⟨h1,_,r1⟩ h=>lR _ _ _ _ _ _ h1.key r1 (by have:=h1.dep;omega) h
 eqBool:=fun {A E s x y a b Q} hu ⟨h1,_,r1⟩ ⟨h2,_,r2⟩ h=>by
  refine PySem.SeqAt.eqAt_reads x y A s (.ref a) (.ref b) _ _ r1 r2 h1.lay h2.lay (by have:=h1.dep;have:=h2.dep;omega) prog w E Q ?_
  have e:PyData.eqv x y=decide (x=y):=by
   have:=qR h1.key h2.key
   by_cases hxy:x=y
   ·rw [decide_eq_true hxy];exact this.mpr hxy
   ·rw [decide_eq_false hxy];exact Bool.eq_false_iff.mpr fun z=>hxy (this.mp z)
  rw [e]
  exact h
 quiet:=fun ⟨h1,_,r1⟩ h=>nQ _ _ _ _ _ _ _ h1.key r1 (by have:=h1.dep;omega) h
abbrev KX (kvs:List (PyData × Addr × V)) (xs:List (PyData × Addr × Value)):Prop:=Paired (fun (p:PyData × Addr × V) (q:PyData × Addr × Value)=>p.1=q.1/\p.2.1=q.2.1/\RelV p.2.2 q.2.2) kvs xs
def jn (P:Program) (w:World) (a:Addr) (kvs:List (PyData × Addr × V)) (h:Heap):Prop:=(a == sysModules)=false/\kvs.length<=sizeLine /\
 ∃ (xs:List (PyData × Addr × Value)) (o:Obj) (es:Array DictEntry) (ep:Nat),h.get? a=some o/\o.ExactDict/\o.data=.dict es ep/\es.toList=xs.map (entryOfKey (gP P w))/\(xs.map (·.1)).Nodup/\KX kvs xs
def dE (P:Program) (w:World) (a:Addr) (kvs:List (PyData × Addr × V)):HO:=.ext (jn P w a kvs)
theorem ku {P:Program} {w:World} {H:Hp} {h:Heap} {a:Addr} {kvs:List (PyData × Addr × V)} (S:jn P w a kvs h):bI P w H h a (dE P w a kvs) :=
 ⟨S,let ⟨_,_,_,o,_,_,e,_⟩:=S;⟨o,e⟩,fun h1 h2 ⟨s1,s2,xs,o,es,ep,e,r⟩ k=>⟨s1,s2,xs,o,es,ep,k o e,r⟩⟩
def wJ (H:Hp) (kvs:List (PyData × Addr × V)):Prop:=∀ p ∈ kvs,ib p.1/\aN H (.ref p.2.1) p.1
noncomputable def dv (kvs:List (PyData × Addr × V)) (d:PyData):Option V:=(kvs.find? fun p=>decide (p.1=d)).map (·.2.2)
noncomputable def putD (kvs:List (PyData × Addr × V)) (d:PyData) (k:Addr) (v:V):List (PyData × Addr × V):=if (dv kvs d).isSome then kvs.map (fun p=>if p.1=d then (p.1,p.2.1,v) else p) else kvs ++ [(d,k,v)]
theorem KX.val {d:PyData}:∀ {kvs:List (PyData × Addr × V)} {xs:List (PyData × Addr × Value)},KX kvs xs->(dv kvs d=none/\atKey xs d=none)\/∃ v a u,dv kvs d=some v/\atKey xs d=some (a,u)/\RelV v u
 | _,_,.nil=>.inl ⟨rfl,rfl⟩
 | _,_,.cons (a:=p) (b:=q) (l₁:=kvs) (l₂:=xs) ⟨e1,e2,e3⟩ t=>by
  by_cases h:p.1=d
  ·refine .inr ⟨p.2.2,q.2.1,q.2.2,?_,?_,e3⟩
   ·unfold dv;rw [List.find?_cons_of_pos (by exact decide_eq_true h)];rfl
   ·unfold atKey;rw [List.find?_cons_of_pos (by exact decide_eq_true (e1 ▸ h))];rfl
  ·have h':¬ q.1=d:=fun z=>h (e1.trans z)
   have e4:dv (p :: kvs) d=dv kvs d:=by unfold dv;rw [List.find?_cons_of_neg (by rw [decide_eq_false h];decide)]
   have e5:atKey (q :: xs) d=atKey xs d:=by unfold atKey;rw [List.find?_cons_of_neg (by rw [decide_eq_false h'];decide)]
   rw [e4,e5]
   exact KX.val t
theorem KX.put {d:PyData} {k:Addr} {v:V} {u:Value} (r:RelV v u) {kvs:List (PyData × Addr × V)} {xs:List (PyData × Addr × Value)} (h:KX kvs xs):KX (putD kvs d k v) (storedH xs d k u):=by
 have hv:=h.val (d:=d)
 unfold putD storedH
 rcases hv with ⟨h1,h2⟩ | ⟨v',a',u',h1,h2,_⟩
 ·rw [h1,h2]
  have app:∀ {l:List (PyData × Addr × V)} {m:List (PyData × Addr × Value)},KX l m->KX (l ++ [(d,k,v)]) (m ++ [(d,k,u)]):=by
   intro l m q
   induction q with
   | nil=>exact .cons ⟨rfl,rfl,r⟩ .nil
   | cons hq _ ih=>exact .cons hq ih
  exact app h
 ·rw [h1,h2]
  show KX (kvs.map fun p=>if p.1=d then (p.1,p.2.1,v) else p) (xs.map (putAt d u))
  have go:∀ {l:List (PyData × Addr × V)} {m:List (PyData × Addr × Value)},KX l m->KX (l.map fun p=>if p.1=d then (p.1,p.2.1,v) else p) (m.map (putAt d u)):=by
   intro l m q
   induction q with
   | nil=>exact .nil
   | @cons p q ps qs hq _ ih =>
    refine .cons ?_ ih
    unfold putAt
    dsimp only
    by_cases e:p.1=d
    ·rw [if_pos e,if_pos (hq.1 ▸ e)]
     exact⟨hq.1,hq.2.1,r⟩
    ·rw [if_neg e,if_neg (fun z=>e (hq.1.trans z))]
     exact hq
  exact go h
theorem vE (kvs:List (PyData × Addr × V)) (d:PyData) (k:Addr) (v:V):(putD kvs d k v).length<=kvs.length+1:=by
 unfold putD
 split
 ·rw [List.length_map];omega
 ·rw [List.length_append];exact Nat.le_refl _
theorem KX.keys:∀ {kvs:List (PyData × Addr × V)} {xs:List (PyData × Addr × Value)},KX kvs xs->∀ q ∈ xs,∃ p ∈ kvs,p.1=q.1/\p.2.1=q.2.1
 | _,_,.nil,q,hq=>nomatch hq
 | _,_,.cons (a:=p) (l₁:=kvs) ⟨e1,e2,_⟩ t,q,hq=>by
  rcases List.mem_cons.mp hq with rfl | hq
  ·exact⟨p,List.mem_cons_self ..,e1,e2⟩
  ·obtain⟨p',hp',r⟩:=KX.keys t q hq
   exact⟨p',List.mem_cons_of_mem _ hp',r⟩
section
variable {X:Cx} {pins:List (Addr × Obj)} {σ : St} {H:Hp} {s:Shared} {a k:Addr} {kvs:List (PyData × Addr × V)} {d:PyData}
theorem key_is (I:Inv X pins σ H s) (hk:ib d) (r:aN H (.ref k) d):(gP X.prog X.w).is s.heap d k:=⟨hk,r.reads I.aL rfl⟩
theorem lS (I:Inv X pins σ H s) (e:H a=some (dE X.prog X.w a kvs)) (hk:wJ H kvs):(a == sysModules)=false/\kvs.length<=sizeLine/\∃ xs,KX kvs xs/\s.heap.DictOfH (gP X.prog X.w) a xs:=by
 obtain⟨h1,h2,xs,o,es,ep,g1,g2,g3,g4,g5,g6⟩:=(show jn X.prog X.w a kvs s.heap from (I.aL a _ e).1)
 refine⟨h1,h2,xs,g6,o,es,ep,g1,g2,g3,g4,fun x hx=>?_,g5⟩
 obtain⟨p,hp,e1,e2⟩:=g6.keys x hx
 have:=hk p hp
 rw [<-e1,<-e2]
 exact key_is I this.1 this.2
theorem KX.len:∀ {kvs:List (PyData × Addr × V)} {xs:List (PyData × Addr × Value)},KX kvs xs->kvs.length=xs.length
 | _,_,.nil=>rfl
 | _,_,.cons _ t=>congrArg (· + 1) (KX.len t)
theorem ox {A:Around} (hu:A.units+66 < cLine) {P:Program} {w:World}:(gP P w).room A.in1:=by show A.in1.units+64 < cLine;rw [Around.in1_units];omega
structure sg (X:Cx) (H:Hp) (a k:Addr) (kvs:List (PyData × Addr × V)) (d:PyData):Prop where
 at_:H a=some (dE X.prog X.w a kvs)
 keys:wJ H kvs
 key:ib d
 rd:aN H (.ref k) d
theorem xu (hu:X.A.units+66 < cLine):dU X (compareOp .In) (fun x y H Q=>∃ k a d kvs,x=.ref k/\y=.ref a/\sg X H a k kvs d/\Q (.bl (dv kvs d).isSome) H):=by
 intro pins s σ H x y v u Q I rx ry h
 obtain⟨k,a,d,kvs,rfl,rfl,D,q⟩:=h
 cases rx
 cases ry
 obtain⟨h1,h2,xs,kx,dd⟩:=lS I D.at_ D.keys
 refine wpAny_in_heap (ox hu) (key_is I D.key D.rd) h1 dd ?_
 have e:(atKey xs d).isSome=(dv kvs d).isSome:=by
  rcases kx.val (d:=d) with ⟨e1,e2⟩ | ⟨_,_,_,e1,e2,_⟩ <;> rw [e1,e2] <;> rfl
 rw [e]
 exact⟨.bl _,H,I.tok _,rfl,q⟩
theorem si (hu:X.A.units+66 < cLine):dU X (compareOp .NotIn) (fun x y H Q=>∃ k a d kvs,x=.ref k/\y=.ref a/\sg X H a k kvs d/\Q (.bl (!(dv kvs d).isSome)) H):=by
 intro pins s σ H x y v u Q I rx ry h
 obtain⟨k,a,d,kvs,rfl,rfl,D,q⟩:=h
 cases rx
 cases ry
 obtain⟨h1,h2,xs,kx,dd⟩:=lS I D.at_ D.keys
 refine wpAny_notIn_heap (ox hu) (key_is I D.key D.rd) h1 dd ?_
 have e:(atKey xs d).isSome=(dv kvs d).isSome:=by
  rcases kx.val (d:=d) with ⟨e1,e2⟩ | ⟨_,_,_,e1,e2,_⟩ <;> rw [e1,e2] <;> rfl
 rw [e]
 exact⟨.bl _,H,I.tok _,rfl,q⟩
theorem xw {o i:Expr} {pos:Pos} {td ty:TE} (hu:X.A.units+66 < cLine) (ho:PE X o td) (hi:PE X i ty) (hs:rQ i) :
  PE X (.Subscript o i pos) (fun σ H Q=>td σ H fun x H1=>ty σ H1 fun y H2=>∃ k a d kvs v,x=.ref a/\y=.ref k/\sg X H2 a k kvs d/\dv kvs d=some v/\Q v H2):=by
 intro pins s σ H Q I h
 refine mF PySem.F.slot_dict_getitem.lookup hs (aJ (ho pins s σ H _ I h) fun u s1 ⟨x,H1,I1,rx,q1⟩=>aJ (hi pins s1 σ H1 _ I1 q1) fun iv s2 ⟨y,H2,I2,ry,k,a,d,kvs,v,ex,ey,D,hv,q2⟩=>?_)
 subst ex ey
 obtain rfl:u=Value.ref a:=rx
 obtain rfl:iv=Value.ref k:=ry
 obtain⟨h1,h2,xs,kx,dd⟩:=lS I2 D.at_ D.keys
 rcases kx.val (d:=d) with ⟨e1,_⟩ | ⟨v',a',u',e1,e2,e3⟩
 ·rw [e1] at hv;cases hv
 ·rw [e1] at hv
  cases hv
  exact⟨dd.typeIs,wpAny_getItem_heap (ox hu) (key_is I2 D.key D.rd) dd e2 ⟨_,H2,I2.tok _,e3,q2⟩⟩
theorem vF (hu:X.A.units+66 < cLine):uM X (fun o i v H Q=>∃ k a d kvs,o=.ref a/\i=.ref k/\sg X H a k kvs d/\kvs.length < sizeLine/\Q (upd H a (dE X.prog X.w a (putD kvs d k v)))):=by
 intro pins s σ H o i v ov iv u Q I ro ri rv h
 obtain⟨k,a,d,kvs,rfl,rfl,D,hz,q⟩:=h
 cases ro
 cases ri
 obtain⟨h1,h2,xs,kx,dd⟩:=lS I D.at_ D.keys
 refine wpAny_setItem_heap (ox hu) (key_is I D.key D.rd) dd (fun h' hm' hs'=>?_) (by rw [<-kx.len];exact h2)
 obtain⟨o',es,ep,g1,g2,g3,g4,g5,g6⟩:=id hm'
 refine⟨_,I.write (t':=_) (x:=a) (e:=a) (by rw [D.at_];exact trivial) (.inl rfl) (fun c u' hc hu=>(hs'.2 c hc).trans hu) ⟨o',g1⟩ (ku ⟨h1,?_,storedH xs d k u,o',es,ep,g1,g2,g3,g4,g6,kx.put rv⟩),q⟩
 have:=vE kvs d k v
 omega
end
open LS
section
variable {X:Cx}
end
def mN (a0 a1:V):List (Str × V):=[("members",a0),("places",a1)]
section
variable {a0 a1 z:V}
theorem fh:(mN a0 a1).lookup ("members" : Str)=some a0:=yz
theorem fL:(mN a0 a1).lookup ("places" : Str)=some a1:=(vh (by decide +kernel) yz)
theorem lT:cZ "members" a0 ([]:List (Str × V))=([("members",a0)]:List (Str × V)):=yA
theorem uu:cZ "places" a1 ([("members",a0)]:List (Str × V))=mN a0 a1:=(z7 (by decide +kernel) yA)
theorem pF:(mN a0 a1).lookup ("place_of" : Str)=none:=(vh (by decide +kernel) (vh (by decide +kernel) rfl))
end
structure pG (K:PySem.W.Frag) (C:Addr):Prop where
 cl:jV K C
 members:fK K C "members"
 places:fK K C "places"
abbrev vN (ms:List Nat):List V:=ms.map fun k=>V.int (k:Nat)
def iJ (m d:Addr) (H H':Hp):Prop:=∀ c o,H c=some o->c ≠ m->c ≠ d->H' c=some o
theorem iJ.refl {m d:Addr} {H:Hp}:iJ m d H H:=fun _ _ h _ _=>h
theorem iJ.of_same {m d:Addr} {H H':Hp} (h:ah H H'):iJ m d H H':=fun c o e _ _=>h c o e
section
variable {C r m d:Addr} {H H':Hp} {ms:List Nat}
end
section
variable (C:Addr)
end
def Au:Piece->Bool
 | ([],.go _)=>true
 | _=>false
theorem eQ {l:List Nat} {n:Nat} (nd:l.Nodup) (h:∀ x ∈ l,x < n):l.length<=n:=by
 have:=sub_len nd (m:=List.range n) fun x hx=>List.mem_range.mpr (h x hx)
 simpa using this
def fi:End->List V
 | .stop=>[.str "stop"]
 | .go _=>[.str "go"]
 | .bL b x n _ _=>[.str (wT b),.str x,.int n]
def vG:End->List Nat->End
 | .go _,[a]=>.go a
 | .bL b x n _ _,[a,c]=>.bL b x n a c
 | e,_=>e
theorem vH {e:End} {ns:List Nat} (h:ns.length=(aP e).length):de (vG e ns)=fi e++vN ns:=by
 cases e with
 | stop=>match ns,h with | [],_=>rfl
 | go p=>match ns,h with | [a],_=>rfl
 | bL b x n p q=>match ns,h with | [a,c],_=>rfl
theorem uv {H:Hp} {t:Addr} {e:End} (h:H t=some (.tup (de e))):aN H (.ref t) (mC e):=by
 cases e with
 | stop=>exact .tup h (.cons (.str _) .nil)
 | go p=>exact .tup h (.cons (.str _) (.cons (.int _) .nil))
 | bL b x n p q=>exact .tup h (.cons (.str _) (.cons (.str _) (.cons (.int _) (.cons (.int _) (.cons (.int _) .nil)))))
theorem vI {ms:List Nat} {k:Nat} (h:ms.Nodup):(LS.putIn ms k).Nodup:=by
 unfold LS.putIn
 split
 ·exact h
 ·next hk =>
  rw [List.nodup_append]
  refine⟨h,by simp,fun x hx y hy z=>?_⟩
  rw [List.mem_singleton.mp hy] at z
  exact hk (z ▸ hx)
def jo:Sp:=fun vs H Q _=>∃ (ea:Addr) (e:End),vs = [.ref ea]/\H ea=some (.tup (de e))/\∀ t H',H' t=some (.tup (fi e))->ah H H'->Q (.ref t) H'
theorem mO (k:Nat):∀ ms:List Nat,nu (.int (k:Nat)) (vN ms)=decide (k ∈ ms)
 | []=>rfl
 | m :: ms=>by
  have ih:=mO k ms
  show ((((m:Nat):Int) == ((k:Nat):Int)) || nu (.int (k:Nat)) (vN ms))=_
  rw [ih]
  by_cases e:m=k
  ·subst e;simp
  ·have e':¬ (m:Int)=(k:Int):=by omega
   rw [beq_false_of_ne e',Bool.false_or]
   have:k ∈ m :: ms ↔ k ∈ ms:=by rw [List.mem_cons];exact⟨fun h=>h.resolve_left fun z=>e z.symm,.inr⟩
   simp only [this]
theorem qS (ms:List Nat):(vN ms).all fU=true:=by rw [List.all_eq_true];intro v hv;obtain⟨k,_,rfl⟩:=List.mem_map.mp hv;rfl
theorem uw (ms:List Nat):vN ms=(ms.map fun k:Nat=>(k:Int)).map V.int:=by rw [List.map_map];rfl
theorem sj {K:PySem.W.Frag} {H:Hp} {ea:Addr} {e:End} {Q:VK} (he:H ea=some (.tup (de e))) (q:∀ t H',H' t=some (.tup (fi e))->ah H H'->Q (.ref t) H'):wy K (.ref ea) none (some ((fi e).length:Nat)) H Q:=by
 have ec:ft (de e) none (some ((fi e).length:Nat))=fi e:=by
  unfold ft
  rw [HT.oS,HT.qw]
  cases e <;> rfl
 refine⟨ea,_,rfl,ay.of he,fun hw=>?_,fun _ p hp=>?_⟩
 ·unfold ft at ec
  rw [hw.1,hw.2] at ec
  refine q ea H ?_ (ah.refl H)
  rw [he,<-ec]
  simp
 ·rw [ec]
  exact q p _ ae (ah.new hp)
section
variable {X:Cx} {pins:List (Addr × Obj)} {σ : L2.St} {H:Hp} {s:Shared} {a:Addr}
end
section
variable {X:Cx}
end
theorem vJ {x:Str} (h:ir x):PyData.canLay0 (.str x)=true:=by
 show (x.cps.all fun c=>decide (c < 0x110000))=true
 rw [<-Array.all_toList,List.all_eq_true]
 intro c hc
 have:=h.az c hc
 exact decide_eq_true (by omega)
def sm (T:Str->Sx) (m:Nat):Prop:=∀ ss:List Str,(∀ x ∈ ss,T x ≠ cP)->ss.Nodup->ss.length<=m
def mP (aA:Addr):Sp:=fun vs H Q _=>∃ (fv:V) (x:Str) (T:Str->Sx),vs = [fv,.str x]/\FV H fv T/\∀ v H',SV aA H' v (T x)->ah H H'->Q v H'
def ic (aA:Addr):Sp:=fun vs H Q _=>∃ (fv sv:V) (x:Str) (T:Str->Sx) (s:Sx),vs = [fv,.str x,sv]/\FV H fv T/\SV aA H sv s/\sm T 62/\∀ v H',FV H' v (bE T x s)->ah H H'->Q v H'
section
variable {X:Cx}
end
def mQ (K:PySem.W.Frag):Sp:=fun vs H Q _=>∃ (n:Int) (q:Addr) (lo hi:Option Int),vs = [.int n,.ref q]/\ay K H q [vO lo,vO hi]/\Q (.bl (bg n lo hi)) H
def fP (K:PySem.W.Frag) (F:Option Int->Option Int->Int->Rs):Sp:=fun vs H Q _=>∃ (p:Addr) (n:Int) (lo hi:Option Int),vs = [.ref p,.int n]/\ay K H p [vO lo,vO hi]/\∀ v H',RV H' v (F lo hi n)->ah H H'->Q v H'
def mR (K:PySem.W.Frag):Sp:=fun vs H Q _=>∃ (p:Addr) (w:Str) (n:Int) (side:Bool) (lo hi:Option Int),vs = [.ref p,.str w,.int n,.bl side]/\ay K H p [vO lo,vO hi]/\∀ v H',RV H' v (cO w lo hi n side)->ah H H'->Q v H'
def bW (T:Str->Sx) (b:Bool) (x:Str) (n:Int) (side:Bool):Rs:=cO (wT b) (T x).1 (T x).2 n side
def fQ (T:Str->Sx):End->List (Option (Str->Sx))
 | .stop=>[]
 | .go _=>[some T]
 | .bL b x n _ _=>[(bW T b x n true).map (bE T x),(bW T b x n false).map (bE T x)]
def BV (H:Hp) (u:V):Option (Str->Sx)->Prop
 | none=>u=.bx
 | some T=>FV H u T
theorem BV.aI {H H':Hp} {u:V} {o:Option (Str->Sx)} (h:BV H u o) (k:∀ p xs,H p=some (.tup xs)->H' p=some (.tup xs)):BV H' u o:=by
 cases o with
 | none=>exact h
 | some T=>exact FV.aI h k
def iV (H:Hp) (us:List V) (os:List (Option (Str->Sx))):Prop:=Paired (BV H) us os
def bT (T:Str->Sx) (e:End):List (Nat × (Str->Sx)):=((aP e).zip (fQ T e)).filterMap fun p=>p.2.map fun U=>(p.1,U)
def ky (aA:Addr):Sp:=fun vs H Q _=>∃ (fv:V) (ea:Addr) (T:Str->Sx) (e:End),vs = [fv,.ref ea]/\FV H fv T/\H ea=some (.tup (de e))/\sm T 62 /\
 ∀ (t:Addr) (us:List V) (H':Hp),H' t=some (.tup us)->iV H' us (fQ T e)->ah H H'->Q (.ref t) H'
def PV (H:Hp) (v:V) (p:Nat × (Str->Sx)):Prop:=∃ q u,v=.ref q/\H q=some (.tup [.int p.1,u])/\FV H u p.2
theorem PV.aI {H H':Hp} {v:V} {p:Nat × (Str->Sx)} (h:PV H v p) (k:∀ p xs,H p=some (.tup xs)->H' p=some (.tup xs)):PV H' v p:=by
 obtain⟨q,u,e,h1,h2⟩:=h
 exact⟨q,u,e,k _ _ h1,h2.aI k⟩
def jq (H:Hp) (vs:List V) (ps:List (Nat × (Str->Sx))):Prop:=Paired (PV H) vs ps
theorem jq.aI {H H':Hp} (k:∀ p xs,H p=some (.tup xs)->H' p=some (.tup xs)):∀ {vs:List V} {ps:List (Nat × (Str->Sx))},jq H vs ps->jq H' vs ps
 | _,_,.nil=>.nil
 | _,_,.cons h t=>.cons (h.aI k) (jq.aI k t)
theorem iV.aI {H H':Hp} (k:∀ p xs,H p=some (.tup xs)->H' p=some (.tup xs)):∀ {vs:List V} {ps:List (Option (Str->Sx))},iV H vs ps->iV H' vs ps
 | _,_,.nil=>.nil
 | _,_,.cons h t=>.cons (h.aI k) (iV.aI k t)
theorem jq.same {H H':Hp} {vs:List V} {ps:List (Nat × (Str->Sx))} (h:jq H vs ps) (s:ah H H'):jq H' vs ps:=h.aI fun p xs e=>s _ _ e
theorem iV.same {H H':Hp} {vs:List V} {ps:List (Option (Str->Sx))} (h:iV H vs ps) (s:ah H H'):iV H' vs ps:=h.aI fun p xs e=>s _ _ e
def mS (aA:Addr):Sp:=fun vs H Q _=>∃ (fv:V) (ea:Addr) (T:Str->Sx) (e:End),vs = [fv,.ref ea]/\FV H fv T/\H ea=some (.tup (de e))/\sm T 62 /\
 ∀ (t:Addr) (vs:List V) (H':Hp),H' t=some (.tup vs)->jq H' vs (bT T e)->ah H H'->Q (.ref t) H'
def pH (T:Str->Sx):Prop:=∀ x,T x ≠ cP->PyData.canLay0 (.str x)=true
theorem ux {T:Str->Sx} (h:pH T):∀ ss:List Str,(∀ x ∈ ss,T x ≠ cP)->(d5 T ss).canLay0=true
 | [],_=>rfl
 | x :: ss,hs=>by
  have ih:=ux h ss fun y hy=>hs y (List.mem_cons_of_mem _ hy)
  show ((PyData.canLay0 (.str x) && ((dS (T x)).canLay0 && true)) && (d5 T ss).canLay0)=true
  rw [h x (hs x (List.mem_cons_self ..)),wG,ih]
  rfl
theorem yM (T:Str->Sx) (ss:List Str):(d5 T ss).depth<=3:=by
 have go:∀ ss:List Str,PyData.depthAll (ss.map (dF T))<=2:=by
  intro ss
  induction ss with
  | nil=>exact Nat.zero_le _
  | cons x ss ih =>
   show max (max 0 (max ((dS (T x)).depth) 0)+1) (PyData.depthAll (ss.map (dF T)))<=2
   have hd:(dS (T x)).depth<=1:=by
    obtain⟨a,b⟩:=T x
    cases a <;> cases b <;> (show (1:Nat)<=1;decide)
   omega
 show PyData.depthAll (ss.map (dF T))+1<=3
 have:=go ss
 omega
theorem xx {T:Str->Sx} {e:End} (h:(aP e).length < 2):fQ T e=(aP e).map fun _=>some T:=by
 cases e with
 | stop=>rfl
 | go p=>rfl
 | bL b x n p q=>exact absurd h (by show ¬ 2 < 2;omega)
theorem qT {H:Hp} {fv:V} {T:Str->Sx} (h:FV H fv T):∀ l:List Nat,iV H (List.replicate l.length fv) (l.map fun _=>some T)
 | []=>.nil
 | _ :: l=>.cons h (qT h l)
def j6 (H:Hp) (vs:List V) (rs:List Rs):Prop:=Paired (RV H) vs rs
theorem j6.same {H H':Hp} (s:ah H H'):∀ {vs:List V} {rs:List Rs},j6 H vs rs->j6 H' vs rs
 | _,_,.nil=>.nil
 | _,_,.cons h t=>.cons (h.same s) (j6.same s t)
theorem j6.put {H:Hp} {l:Addr} {xs:List V} {o:HO} (hl:H l=some (.lst xs)):∀ {vs:List V} {rs:List Rs},j6 H vs rs->j6 (upd H l o) vs rs
 | _,_,.nil=>.nil
 | _,_,.cons h t=>.cons (h.put hl) (j6.put hl t)
theorem RV.sv {aA:Addr} {H:Hp} {v:V} {s:Sx} (h:RV H v (some s)):SV aA H v s:=by
 obtain⟨a,b⟩:=s
 obtain⟨p,e,h⟩:=h
 exact .inl ⟨p,e,h⟩
def jr (ss:List Str):PyData:=.tuple (ss.map fun x=>.tuple [.str x,.tuple [.int 0,.int 0]])
def mT:Sp:=fun vs H Q _=>∃ (plv:V) (ps:List Piece) (xs:List Str) (m:Nat),vs = [plv]/\aN H plv (fV ps)/\dm xs m ps/\xs.length < 64/\(bh ps).length<=4000 /\
 ∀ (v:V) (ss:List Str) (H':Hp),aN H' v (jr ss)->ss.Perm (cH (bh ps))->sortedS ss=true->ah H H'->Q v H'
theorem eR:∀ ss:List Str,bS (ss.map fun x=>PyData.tuple [.str x,.tuple [.int 0,.int 0]])=true
 | []=>rfl
 | x :: ss=>by
  show (true && bS (ss.map fun x=>PyData.tuple [.str x,.tuple [.int 0,.int 0]]))=true
  rw [eR ss];rfl
theorem uy {T:Str->Sx} {e:End} {i k:Nat} {o:Option (Str->Sx)} (h1:(aP e)[i]? = some k) (h2:(fQ T e)[i]? = some o) :
  (((aP e).zip (fQ T e)).take (i+1)).filterMap (fun p=>p.2.map fun U=>(p.1,U))=(((aP e).zip (fQ T e)).take i).filterMap (fun p=>p.2.map fun U=>(p.1,U))++(o.map fun U=>(k,U)).toList:=by
 have hz:((aP e).zip (fQ T e))[i]? = some (k,o):=by rw [List.getElem?_zip_eq_some];exact⟨h1,h2⟩
 rw [List.take_add_one,hz,List.filterMap_append]
 cases o <;> rfl
theorem hV {α β : Type} {F:α->β->Prop} {l:List α} {m:List β} (h:Paired F l m) {i:Nat} {x:α} (e:l[i]? = some x):∃ y,m[i]? = some y/\F x y:=LS.iH h e
theorem d9 {α β : Type} {F:α->β->Prop}:∀ {l l':List α} {m m':List β},Paired F l m->Paired F l' m'->Paired F (l++l') (m++m')
 | _,_,_,_,.nil,h=>h
 | _,_,_,_,.cons r t,h=>.cons r (d9 t h)
section
variable {prog:Program} {w:World} {A:Around} {E:Value->Shared->Prop} {s:Shared}
end
section
variable {X:Cx}
end
theorem xy {xs:List Str} {m:Nat} {ps:List Piece} (ok:dm xs m ps):(bh ps).length<=ps.length * (2 * m+1):=by
 unfold bh
 have h:∀ p ∈ ps,(pNames p).length<=2 * m+1:=fun p hp=>by
  have h1:=(ok.lg p hp).1
  unfold pNames
  rw [List.length_append]
  have h2:(p.1.flatMap cN).length<=2 * p.1.length:=by
   induction p.1 with
   | nil=>simp
   | cons d ds ih =>
    rw [List.flatMap_cons,List.length_append,List.length_cons]
    have:(cN d).length<=2:=by cases d <;> simp [cN]
    omega
  have h3:(gO p.2).length<=1:=by cases p.2 <;> simp [gO]
  omega
 clear ok
 induction ps with
 | nil=>simp
 | cons p ps ih =>
  rw [List.flatMap_cons,List.length_append,List.length_cons]
  have h1:=h p (List.mem_cons_self ..)
  have h2:=ih fun q hq=>h q (List.mem_cons_of_mem _ hq)
  rw [Nat.add_mul]
  omega
theorem qd {K:PySem.W.Frag} {cd:Value} {q:Str} (h:PySem.W.codeIn K cd q=true):PySem.W.kdsCode K cd=true:=by
 unfold PySem.W.codeIn at h
 unfold PySem.W.kdsCode
 split at h
 ·split at h
  ·rename_i ho
   dsimp only
   rw [ho]
  ·cases h
 ·cases h
theorem xA {prog:Program} {w:World} {A:Around} {E:Value->Shared->Prop} {s:Shared} {Q:Value->Shared->Prop} (q:Q (.ref s.heap.objs.size) { s with heap:=s.heap.push (bZ w) }):wpAny (model prog w) A (newSet (.type "set")) Q E s:=by
 unfold newSet setsByText
 refine wpAny_bind (wpAny_bind (wpAny_askSetting (wpAny_pure ?_)))
 dsimp only
 simp only [newObj]
 first
  | exact wpAny_alloc (wpAny_pure q)
  | exact wpAny_bind (wpAny_alloc (wpAny_pure q))
  | exact wpAny_bind (wpAny_alloc (wpAny_pure (wpAny_pure q)))
  | exact wpAny_bind (wpAny_alloc q)
section
variable {X:Cx}
theorem xB {e:Expr} {k:Nat} {pos:Pos} {te:TE} (hc:PySem.W.kdsCode X.K X.env.code=true) (he:PE X e te) (hk:displayRoad k [e] = .oneByOne:=by rfl) (hs:starEach [e] X.env = [(false,eval e X.env)]:=by rfl) :
  PE X (.Set [e] k pos) (fun σ H Q=>∀ l,H l=none->te σ (upd H l (bR X.prog X.w l [])) fun x H1=>H1 l=some (bR X.prog X.w l [])/\∃ kk,x=kV kk/\Q (.ref l) (upd H1 l (bR X.prog X.w l [kk]))):=by
 intro pins s σ H Q I h
 rw [arm_eval_Set]
 refine wpAny_bind (wpAny_standAt ?_)
 refine wpAny_bind (PySem.W.kds_main I.fR hc fun b=>?_)
 rw [hs,hk]
 unfold setDisplay
 dsimp only
 rw [if_neg (by decide)]
 refine wpAny_bind (xA ?_)
 dsimp only
 simp only [List.map_cons,List.map_nil,List.length_cons,List.length_nil,Nat.reduceAdd,gt_iff_lt,Nat.reduceLT,if_false,List.findIdx?_cons,List.findIdx?_nil,Option.map_none,Option.getD_none,List.take_succ_cons,List.take_zero,List.drop_succ_cons,List.drop_nil,evalAll,Bool.false_eq_true]
 have hS:df (aB X.prog X.w) (s.heap.push (bZ X.w)) s.heap.objs.size []:=je rfl (Heap.get?_push_size _ rfl)
 have I1:Inv X pins σ (upd H s.heap.objs.size (bR X.prog X.w s.heap.objs.size [])) { s with heap:=s.heap.push (bZ X.w) }:=I.laid (t':=s.toks) (fun b o e=>Heap.get?_push_of_some _ e) (Nat.le_refl _) (iw hS)
 refine wpAny_bind (wpAny_holding ?_)
 refine wpAny_bind (wpAny_bind (wpAny_bind (aJ (he pins _ σ _ _ I1 (h _ I.fresh)) fun v s1 ⟨x,H1,I2,rx,hl1,kk,ex,q⟩=>wpAny_bind (wpAny_standAt (wpAny_pure ?_)))))
 subst ex
 refine wpAny_bind (wpAny_holding (wpAny_pure (wpAny_pure ?_)))
 refine wpAny_bind (wpAny_holding ?_)
 simp only [List.forIn_cons,List.forIn_nil]
 refine wpAny_bind (wpAny_bind (wpAny_bind (mL (jH rx) (I2.mK hl1) (by decide) fun h' b S' c=>wpAny_pure ?_)))
 refine wpAny_pure ?_
 rw [if_neg (by decide)]
 refine wpAny_pure ?_
 refine wpAny_bind (wpAny_pure (wpAny_pure (wpAny_pure ?_)))
 have e1:LS.putIn ([]:List Key) kk = [kk]:=by unfold LS.putIn;rw [if_neg (by simp)];rfl
 rw [e1] at S'
 refine⟨.ref s.heap.objs.size,_,I2.write (t':=s1.toks+1) (x:=s.heap.objs.size) (e:=s.heap.objs.size) (by rw [hl1];exact trivial) (.inl rfl) (fun c u' hc hu=>b.extBut c u' hc hu) ?_ (iw S'),rfl,q⟩
 obtain⟨o,_,_,_,So⟩:=S'
 exact⟨o,So.at_⟩
end
section
variable {prog:Program} {w:World} {A:Around} {E:Value->Shared->Prop} {s:Shared}
theorem uz {d:Addr} (hd:(d == sysModules)=false) :
  MeetsIn prog w (Builtin.«dict.__len__» ⟨[.ref d],[]⟩) (fun _ R s=>∃ (o:Obj) (es:Array DictEntry) (ep:Nat),s.heap.get? d=some o/\o.data=.dict es ep/\R (.ok (.ret (.int es.size s.toks))) { s with toks:=s.toks+1 }) :=
 .of_wp fun A R s ⟨o,es,ep,ho,hdat,h⟩=>by
  show wpAny _ _ (dictSize d >>= _) _ _ s
  unfold dictSize
  refine wpAny_bind (wpAny_bind (wpAny_dictEntries ho hdat (wpAny_pure ?_)))
  show wpAny _ _ (Builtin.Dict.pendingCount d >>= _) _ _ s
  refine wpAny_bind (wpAny_pendingCount_other hd ?_)
  refine wpAny_ret_mkInt ?_
  rw [Nat.add_zero];exact h
theorem xC {d:Addr} {o:Obj} {es:Array DictEntry} {ep:Nat} {Q:Value->Shared->Prop} (hd:(d == sysModules)=false) (ho:s.heap.get? d=some o) (hc:o.ExactDict) (hdat:o.data=.dict es ep) (hfit:(es.size:Int) < 2 ^ 63)
  (h:Q (.int es.size (s.toks+1)) { s with toks:=s.toks+1+1 }):wpAny (model prog w) A (call (.builtin "len") [.ref d]) Q E s:=by
 refine Calls.call_function_entry kind_len plain_len entry_len (args_len1 _) ?_
 have hT:s.TypeIs (.ref d) "dict" := ⟨o,ho,hc.1⟩
 unfold Builtin.«len»
 refine wpAny_bind (m:=oneArg "len" _) (wpAny_pure ?_)
 refine wpAny_bind (m:=callSpecial? (.ref d) (Str.ofString "__len__")) (wpAny_callSpecial?_slot (name:=Str.ofString "__len__") hT F.slot_dict_len
  (call_meetsIn F.slot_dict_len hT F.entry_dict_len (F.args_dict_len_1 _) (uz hd) ⟨o,es,ep,ho,hdat,?_⟩))
 show wpAny _ _ _ _ _ { s with toks:=s.toks+1 }
 refine wpAny_bind (wpAny_holding (wpAny_pure ?_))
 refine wpAny_bind (wpAny_letGo ?_)
 show wpAny _ _ (if ((es.size:Nat):Int) < 0 then _ else _) _ _ _
 rw [if_neg (by omega)]
 show wpAny _ _ (if ((es.size:Nat):Int) >= 2 ^ 63 then _ else _) _ _ _
 rw [if_neg (by omega)]
 exact wpAny_bind (wpAny_mkInt (wpAny_pure ⟨_,rfl,h⟩))
end
section
variable {X:Cx}
theorem so:dB X (.builtin "len") (fun xs H Q=>∃ a kvs,xs = [V.ref a]/\H a=some (dE X.prog X.w a kvs)/\Q (.int kvs.length) H):=by
 intro pins s σ H xs us Q I r h
 obtain⟨a,kvs,rfl,ha,q⟩:=h
 obtain⟨u,rfl,ru⟩:=vals1 r
 cases ru
 obtain⟨h1,h2,xs,o,es,ep,g1,g2,g3,g4,g5,g6⟩:=(show jn X.prog X.w a kvs s.heap from (I.aL a _ ha).1)
 have hz:es.size=kvs.length:=by rw [g6.len,<-Array.length_toList,g4,List.length_map]
 have hn:=ik
 refine xC h1 g1 g2 g3 (by omega) ?_
 rw [hz]
 exact⟨.int _,H,I.tok _,⟨_,rfl⟩,q⟩
theorem vK {pos:Pos} {keys:List (Option Expr)} {values:List Expr} {trs:List (TE × TE)} (hu:X.A.units+66 < cLine) (h:wx X pos keys values trs) (hall:keys.all (·.isSome)=true) (hl:keys.length=values.length) (h0:keys ≠ [])
  (h15:keys.length<=15):PE X (.Dict keys values pos) (fun σ H Q=>∀ p,H p=none->oZ trs σ (upd H p (dE X.prog X.w p [])) fun ps H2=>H2 p=some (dE X.prog X.w p [])/\∃ k v d,ps = [(.ref k,v)]/\ib d/\aN H2 (.ref k) d/\Q (.ref p) (upd H2 p (dE X.prog X.w p [(d,k,v)]))):=by
 intro pins s σ H Q I q
 have hn:=I.aL.fresh (Nat.le_refl s.heap.objs.size)
 obtain⟨_,hb,_⟩:=(show bI X.prog X.w H _ s.heap.objs.size (.dK []) from vb s.heap I.big)
 have D0:jn X.prog X.w s.heap.objs.size [] (s.heap.push { cls:=.type "dict",data:=.dict #[] }):=⟨hb,Nat.zero_le _,[],_,#[],0,Heap.get?_push_size _ rfl,⟨rfl,rfl,rfl⟩,rfl,rfl,List.nodup_nil,.nil⟩
 have I1:=I.laid (a:=s.heap.objs.size) (o:=dE X.prog X.w s.heap.objs.size []) (h':=s.heap.push { cls:=.type "dict",data:=.dict #[] }) (t':=s.toks) (fun _ _ q=>Heap.get?_push_of_some _ q) (Nat.le_refl _) (ku D0)
 refine wpAny_Dict_any hall hl h0 h15 (aJ (h pins _ σ _ _ I1 (q _ hn)) fun ws s2 ⟨ps,H2,I2,rel,e,k,v,d,ep,hk,r,q2⟩=>?_)
 subst ep
 cases rel with
 | @cons _ wp _ _ hr t =>
 cases t
 obtain⟨wk,wv⟩:=wp
 obtain⟨r1,r2⟩:=hr
 cases (show wk=Value.ref k from r1)
 obtain⟨hd0,_,xs,kx,dd⟩:=lS I2 e (fun p hp=>nomatch hp)
 cases kx
 unfold storeAll
 simp only [List.forIn_cons,List.forIn_nil]
 refine wpAny_bind (wpAny_bind (wpAny_dictSet_heap (knd:=gP X.prog X.w) (show X.A.units+64 < cLine by omega) (key_is I2 hk r) dd (fun h' hm' hs'=>wpAny_pure (wpAny_pure ?_)) (Nat.zero_le _)))
 obtain⟨o',es,ep,g1,g2,g3,g4,g5,g6⟩:=id hm'
 refine⟨.ref s.heap.objs.size,_,I2.write (t':=_) (x:=s.heap.objs.size) (e:=s.heap.objs.size) (by rw [e];exact trivial) (.inl rfl) (fun c u' hc hu=>(hs'.2 c hc).trans hu) ⟨o',g1⟩ (ku ⟨hd0,(by show 1<=sizeLine;decide),[(d,k,wv)],o',es,ep,g1,g2,g3,g4,g6,.cons ⟨rfl,rfl,r2⟩ .nil⟩),rfl,q2⟩
end
section
variable {X:Cx}
end
theorem pI {A:Around} {k:Nat} (hr:cg k A):A.units+66 < cLine:=by have:=hr.un;omega
section
variable {P:Program} {w:World} {K:PySem.W.Frag} {mg:Str->Option Value} {base:Heap}
theorem bY.Aq {x qual:Str} {st:Stmt} {f:Addr} {fd:FuncData} {N ps:List Str} {k:Nat} {sp:Sp} (F:bY K x qual st f fd) (S:aO N ps (ao st)) (len:∀ vs H Q E,sp vs H Q E->vs.length=ps.length)
  (hbody:∀ (cdv:Value) (A:Around) (outer:List Env) (s:Shared) (H:Hp) (vs:List V) (Q:VK) (E:XK),PySem.W.kdsCode K cdv=true->cg k (A.deeper (envOfC qual (ao st) s.heap.objs.size f cdv))->sp vs H Q E ->
   ∃ t,gU (kh bU P w K mg base N qual (ao st) f cdv A outer s H E).qt (aH st) t/\t { nx:=fun _ H'=>Q .bx H',rt:=Q } (start N vs) H):br P w K mg base bU (k+1) f fd ps sp:=by
 obtain⟨oc,od,kV,doc,pm,an,cdv,ct,osl,rfl,lk,hcd⟩:=F.ex
 refine wm lk hcd S len fun A outer s H vs Q E hr hsp=>?_
 obtain⟨t,h,q⟩:=hbody cdv A outer s H vs Q E (qd hcd) hr hsp
 exact⟨t,h.qt,q⟩
end
def cw:Nat->List (PyData × Addr)->List (PyData × Addr × V)
 | _,[]=>[]
 | n,p :: ps=>(p.1,p.2,.int (n:Nat)) :: cw (n+1) ps
theorem kA:∀ (n:Nat) (ms:List (PyData × Addr)),(cw n ms).length=ms.length
 | _,[]=>rfl
 | n,_ :: ms=>congrArg (· + 1) (kA (n+1) ms)
theorem pJ:∀ (n:Nat) (ms:List (PyData × Addr)) (p:PyData × Addr),cw n (ms ++ [p])=cw n ms ++ [(p.1,p.2,.int ((n+ms.length:Nat):Int))]
 | n,[],p=>rfl
 | n,q :: ms,p=>by
  show (q.1,q.2,V.int (n:Nat)) :: cw (n+1) (ms ++ [p])=_
  rw [pJ (n+1) ms p,show n+1+ms.length=n+(q :: ms).length by rw [List.length_cons];omega]
  rfl
theorem pK:∀ (n:Nat) (ms:List (PyData × Addr)),∀ q ∈ cw n ms,∃ p ∈ ms,q.1=p.1/\q.2.1=p.2
 | _,[],q,hq=>nomatch hq
 | n,p :: ms,q,hq=>by
  rcases List.mem_cons.mp hq with rfl | hq
  ·exact⟨p,List.mem_cons_self ..,rfl,rfl⟩
  ·obtain⟨p',hp,r⟩:=pK (n+1) ms q hq
   exact⟨p',List.mem_cons_of_mem _ hp,r⟩
theorem iK (d:PyData):∀ (n:Nat) (ms:List (PyData × Addr)),dv (cw n ms) d=if d ∈ ms.map (·.1) then some (.int ((n+(ms.map (·.1)).idxOf d:Nat):Int)) else none
 | n,[]=>by simp [cw,dv]
 | n,p :: ms=>by
  have ih:=iK d (n+1) ms
  by_cases h:p.1=d
  ·have e1:dv (cw n (p :: ms)) d=some (.int (n:Nat)):=by
    unfold dv cw
    rw [List.find?_cons_of_pos (by exact decide_eq_true h)]
    rfl
   rw [e1,if_pos (by rw [List.map_cons,h];exact List.mem_cons_self ..),List.map_cons,h,List.idxOf_cons_self]
   rfl
  ·have e1:dv (cw n (p :: ms)) d=dv (cw (n+1) ms) d:=by
    show dv ((p.1,p.2,V.int (n:Nat)) :: cw (n+1) ms) d=_
    unfold dv
    rw [List.find?_cons_of_neg (by rw [decide_eq_false h];decide)]
   rw [e1,ih,List.map_cons]
   by_cases hm:d ∈ ms.map (·.1)
   ·rw [if_pos hm,if_pos (List.mem_cons_of_mem _ hm),List.idxOf_cons,beq_false_of_ne h]
    simp only [cond_false]
    congr 3
    omega
   ·rw [if_neg hm,if_neg (fun z=>(List.mem_cons.mp z).elim (fun z=>h z.symm) hm)]
structure fj (P:Program) (w:World) (C:Addr) (H:Hp) (r m d:Addr) (ms:List (PyData × Addr)):Prop where
 ob:∃ dx,H r=some (.ins C dx (mN (.ref m) (.ref d)))
 mem:H m=some (.lst (ms.map fun p=>V.ref p.2))
 jt:H d=some (dE P w d (cw 0 ms))
 keys:∀ p ∈ ms,ib p.1/\aN H (.ref p.2) p.1
noncomputable def iL (ms:List (PyData × Addr)) (d:PyData) (k:Addr):List (PyData × Addr):=if d ∈ ms.map (·.1) then ms else ms ++ [(d,k)]
section
variable {P:Program} {w:World} {C r m d:Addr} {H H':Hp} {ms:List (PyData × Addr)}
theorem fj.ig (A:fj P w C H r m d ms):wJ H (cw 0 ms):=fun q hq=>by
 obtain⟨p,hp,e1,e2⟩:=pK 0 ms q hq
 rw [e1,e2]
 exact A.keys p hp
theorem fj.Ar (A:fj P w C H r m d ms):r ≠ m/\r ≠ d/\d ≠ m:=by
 obtain⟨dx,h1⟩:=A.ob
 refine⟨bH h1 A.mem ?_,bH h1 A.jt ?_,bH A.jt A.mem ?_⟩ <;> (intro z;cases z)
end
section
variable (P:Program) (w:World) (C:Addr)
def iM:Sp:=fun vs H Q _=>∃ (r dx k:Addr) (d0:PyData),vs = [.ref r,.ref k]/\H r=some (.ins C dx [])/\ib d0/\aN H (.ref k) d0/\bN d0=true /\
 ∀ (m d:Addr) (H':Hp),fj P w C H' r m d [(d0,k)]->(∀ c o,H c=some o->c ≠ r->H' c=some o)->H m=none->H d=none->Q .bx H'
def iN:Sp:=fun vs H Q _=>∃ (r m d k:Addr) (d0:PyData) (ms:List (PyData × Addr)),vs = [.ref r,.ref k]/\fj P w C H r m d ms/\ms.length<=1000/\ib d0/\aN H (.ref k) d0/\bN d0=true/\(∀ p ∈ ms,bN p.1=true) /\
 ∀ H',fj P w C H' r m d (iL ms d0 k)->iJ m d H H'->Q (.int (((iL ms d0 k).map (·.1)).idxOf d0:Nat)) H'
end
inductive ju (ps:List Piece):Nat->Prop
 | zero:ju ps 0
 | step {i k:Nat} {ds:List bP} {e:End}:ju ps i->ps[i]? = some (ds,e)->k ∈ aP e->ju ps k
def ba (ps:List Piece) (k:Nat):Prop:=∃ i ds e,ju ps i/\ps[i]? = some (ds,e)/\k ∈ aP e/\k<=i
abbrev kI (ks:List Nat):List Key:=ks.map fun k:Nat=>(Sum.inl (k:Int):Key)
theorem pL {ks:List Nat} {k:Nat}:(Sum.inl (k:Int):Key) ∈ kI ks ↔ k ∈ ks:=by
 rw [List.mem_map]
 constructor
 ·rintro⟨x,hx,e⟩
  have:=Sum.inl.inj e
  rw [show k=x by omega];exact hx
 ·intro h;exact⟨k,h,rfl⟩
theorem uA {ks:List Nat} {k:Nat}:LS.putIn (kI ks) (Sum.inl (k:Int))=kI (LS.putIn ks k):=by
 unfold LS.putIn
 by_cases h:k ∈ ks
 ·rw [if_pos h,if_pos (pL.mpr h)]
 ·rw [if_neg h,if_neg (fun z=>h (pL.mp z))]
  show _=(ks ++ [k]).map _
  rw [List.map_append];rfl
theorem qU (ks:List Nat):kI ks=(ks.map fun k:Nat=>(k:Int)).map Sum.inl:=by rw [List.map_map];rfl
structure sr (ps:List Piece) (ks ws:List Nat):Prop where
 nd:ks.Nodup
 lt:∀ k ∈ ks,k < ps.length
 yN:∀ k ∈ ks,ju ps k
 zero:0 ∈ ks
 sub:∀ k ∈ ws,k ∈ ks
 done:∀ k ∈ ks,k ∈ ws\/∀ ds e,ps[k]? = some (ds,e)->∀ j ∈ aP e,j ∈ ks
theorem sr.all {ps:List Piece} {ks:List Nat} (h:sr ps ks []):∀ k,k ∈ ks ↔ ju ps k:=fun k=>by
 refine⟨h.yN k,fun r=>?_⟩
 induction r with
 | zero=>exact h.zero
 | step r hp hk ih=>exact (h.done _ ih).elim (fun z=>nomatch z) fun z=>z _ _ hp _ hk
theorem qV {ps:List Piece} (hin:lr ps) {i:Nat} {ds:List bP} {e:End} (h:ps[i]? = some (ds,e)):∀ k ∈ aP e,k < ps.length:=fun k hk=>by
 have h1:=hin _ (List.mem_of_getElem? h)
 cases e with
 | stop=>cases hk
 | go p=>rw [List.mem_singleton.mp hk];exact h1
 | bL b x n p q =>
  rcases List.mem_cons.mp hk with z | z
  ·rw [z];exact h1.1
  ·rw [List.mem_singleton.mp z];exact h1.2
def jv:Sp:=fun vs H Q _=>∃ (plv:V) (ps:List Piece),vs = [plv]/\aN H plv (fV ps)/\lr ps/\0 < ps.length/\ps.length<=60 /\
 ∀ (t:Addr) (ks:List Nat) (H':Hp),H' t=some (.tup (vN ks))->(∀ k,k ∈ ks ↔ ju ps k)->(∀ k ∈ ks,k < ps.length)->ks.length<=60->ah H H'->Q (.ref t) H'
def mU:Sp:=fun vs H Q _=>∃ (plv:V) (ps:List Piece),vs = [plv]/\aN H plv (fV ps)/\lr ps/\0 < ps.length/\ps.length<=60 /\
 ∀ (t:Addr) (ks:List Nat) (H':Hp),H' t=some (.tup (vN ks))->(∀ k,k ∈ ks ↔ ba ps k)->ks.length<=60->ah H H'->Q (.ref t) H'
theorem jw {ss:List Int} {ks:List Nat} (h:ss.Perm (ks.map fun k:Nat=>(k:Int))):∃ ms:List Nat,ss=ms.map (fun k:Nat=>(k:Int))/\ms.Perm ks:=by
 refine⟨ss.map Int.toNat,?_,?_⟩
 ·rw [List.map_map]
  have:∀ x ∈ ss,((fun k:Nat=>(k:Int)) ∘ Int.toNat) x=x:=fun x hx=>by
   obtain⟨k,_,rfl⟩:=List.mem_map.mp (h.mem_iff.mp hx)
   show ((Int.toNat (k:Int):Nat):Int)=k
   omega
  rw [List.map_congr_left this,List.map_id']
 ·have:=h.map Int.toNat
  rw [List.map_map] at this
  have e:ks.map (Int.toNat ∘ fun k:Nat=>(k:Int))=ks:=by
   rw [List.map_congr_left (g:=id) (fun x _=>by show Int.toNat (x:Int)=x;omega),List.map_id]
  rw [e] at this
  exact this
abbrev Cp:=Nat × (Str->Sx)
def T0:Str->Sx:=fun _=>cP
def FD (T:Str->Sx) (d:PyData):Prop:=∃ ss:List Str,hR ss/\(∀ x,x ∈ ss ↔ T x ≠ cP)/\d=d5 T ss
theorem FV.fd {H:Hp} {v:V} {T:Str->Sx} (h:FV H v T):∃ d,FD T d/\aN H v d:=by
 obtain⟨p,xs,ss,rfl,hp,srt,hm,r⟩:=h
 exact⟨_,⟨ss,srt,hm,rfl⟩,.tup hp r⟩
theorem FD.fv {H:Hp} {v:V} {T:Str->Sx} {d:PyData} (h:FD T d) (r:aN H v d):FV H v T:=by
 obtain⟨ss,srt,hm,rfl⟩:=h
 obtain⟨p,xs,rfl,hp,r⟩:=aN.bM r
 exact⟨p,xs,ss,rfl,hp,srt,hm,r⟩
theorem FD.unique {T:Str->Sx} {d d':PyData} (h:FD T d) (h':FD T d'):d=d':=by
 obtain⟨ss,srt,hm,rfl⟩:=h
 obtain⟨ss',srt',hm',rfl⟩:=h'
 rw [srt.unique srt' fun x=>by rw [hm,hm']]
theorem uB {a b:Option Int} (h:dO a=dO b):a=b:=by
 cases a with
 | none=>cases b with
  | none=>rfl
  | some _=>cases h
 | some i=>cases b with
  | none=>cases h
  | some j=>injection h with h;rw [h]
theorem yO {a b:Sx} (h:dS a=dS b):a=b:=by
 obtain⟨a1,a2⟩:=a
 obtain⟨b1,b2⟩:=b
 have h1:[dO a1,dO a2] = [dO b1,dO b2]:=by injection h
 injection h1 with h1 h2
 injection h2 with h2 _
 rw [uB h1,uB h2]
theorem qW {T T':Str->Sx}:∀ {ss ss':List Str},ss.map (dF T)=ss'.map (dF T')->ss=ss'/\∀ x ∈ ss,T x=T' x
 | [],[],_=>⟨rfl,fun _ h=>nomatch h⟩
 | [],_ :: _,h=>by cases h
 | _ :: _,[],h=>by cases h
 | x :: ss,y :: ss',h=>by
  rw [List.map_cons,List.map_cons] at h
  injection h with h1 h2
  have h3:[PyData.str x,dS (T x)] = [PyData.str y,dS (T' y)]:=by injection h1
  injection h3 with h4 h5
  injection h5 with h5 _
  have exy:x=y:=by injection h4
  subst exy
  obtain⟨e,hr⟩:=qW h2
  refine⟨by rw [e],fun z hz=>?_⟩
  rcases List.mem_cons.mp hz with rfl | hz
  ·exact yO h5
  ·exact hr z hz
theorem FD.inj {T T':Str->Sx} {d:PyData} (h:FD T d) (h':FD T' d):T=T':=by
 obtain⟨ss,srt,hm,rfl⟩:=h
 obtain⟨ss',srt',hm',e⟩:=h'
 have e':ss.map (dF T)=ss'.map (dF T'):=by injection e
 obtain⟨rfl,hx⟩:=qW e'
 funext x
 by_cases h:x ∈ ss
 ·exact hx x h
 ·have h1:T x=cP:=Classical.byContradiction fun z=>h ((hm x).mpr z)
  have h2:T' x=cP:=Classical.byContradiction fun z=>h ((hm' x).mpr z)
  rw [h1,h2]
theorem FD.zero:FD T0 (.tuple []):=⟨[],⟨List.Pairwise.nil,List.nodup_nil⟩,fun x=>⟨fun h=>(nomatch h),fun h=>absurd rfl h⟩,rfl⟩
def CD (c:Cp) (d:PyData):Prop:=∃ fd,FD c.2 fd/\d=.tuple [.int (c.1:Nat),fd]
theorem CD.iff {c c':Cp} {d d':PyData} (h:CD c d) (h':CD c' d'):d=d' ↔ c=c':=by
 obtain⟨fd,hf,rfl⟩:=h
 obtain⟨fd',hf',rfl⟩:=h'
 constructor
 ·intro e
  have e1:[PyData.int (c.1:Nat),fd] = [PyData.int (c'.1:Nat),fd']:=by injection e
  injection e1 with e2 e3
  injection e3 with e3 _
  have e4:(c.1:Int)=(c'.1:Int):=by injection e2
  subst e3
  exact Prod.ext (by omega) (hf.inj hf')
 ·rintro rfl
  rw [hf.unique hf']
noncomputable instance zz:DecidableEq Cp:=fun a b=>Classical.propDecidable (a=b)
theorem CD.mem {c:Cp} {d:PyData} (h:CD c d):∀ {ds:List PyData} {cs:List Cp},Paired (fun d c=>CD c d) ds cs->(d ∈ ds ↔ c ∈ cs)/\ds.idxOf d=cs.idxOf c
 | _,_,.nil=>⟨by simp,rfl⟩
 | _,_,.cons (a:=d') (b:=c') (l₁:=ds) (l₂:=cs) h' t=>by
  obtain⟨i1,i2⟩:=CD.mem h t
  have e:=h'.iff h
  constructor
  ·rw [List.mem_cons,List.mem_cons,i1]
   constructor
   ·rintro (z | z)
    ·exact .inl (e.mp z.symm).symm
    ·exact .inr z
   ·rintro (z | z)
    ·exact .inl (e.mpr z.symm).symm
    ·exact .inr z
  ·rw [List.idxOf_cons,List.idxOf_cons]
   by_cases z:d' = d
   ·have z':=e.mp z
    rw [z,z',beq_self_eq_true,beq_self_eq_true]
    rfl
   ·have z':¬ c' = c:=fun w=>z (e.mpr w)
    rw [beq_false_of_ne z,beq_false_of_ne z',i2]
theorem lU {T:Str->Sx}:∀ ss:List Str,dD (d5 T ss)=true
 | []=>rfl
 | x :: ss=>by
  have ih:cI (ss.map (dF T))=true:=lU ss
  show ((true && (dD (dS (T x)) && true)) && cI (ss.map (dF T)))=true
  rw [ih]
  obtain⟨a,b⟩:=T x
  cases a <;> cases b <;> rfl
theorem CD.key {c:Cp} {d:PyData} (h:CD c d) (hl:pH c.2):ib d:=by
 obtain⟨fd,⟨ss,srt,hm,rfl⟩,rfl⟩:=h
 refine⟨?_,?_,?_,_,rfl⟩
 ·show (true && (dD (d5 c.2 ss) && true))=true
  rw [lU];rfl
 ·show (true && ((d5 c.2 ss).canLay0 && true))=true
  rw [ux hl ss fun x hx=>(hm x).mp hx];rfl
 ·show max 0 (max (d5 c.2 ss).depth 0)+1<=7
  have:=yM c.2 ss
  omega
section
variable (tops:Nat->Prop) (most:Nat)
open Classical in
noncomputable def aK (cs:List Cp) (c:Cp):Cp:=if tops c.1 then (c.1,T0) else if c ∈ cs\/cs.length < most then c else (c.1,T0)
noncomputable def cF (st:List Cp × List Nat) (l:Cp):List Cp × List Nat:=(LS.putIn st.1 (aK tops most st.1 l),st.2 ++ [(LS.putIn st.1 (aK tops most st.1 l)).idxOf (aK tops most st.1 l)])
noncomputable def bD (cs:List Cp) (ls:List Cp):List Cp × List Nat:=ls.foldl (cF tops most) (cs,[])
theorem qe {cs ls:List Cp} {i:Nat} {l:Cp} (h:ls[i]? = some l):bD tops most cs (ls.take (i+1))=cF tops most (bD tops most cs (ls.take i)) l:=by
 unfold bD
 rw [List.take_add_one,h,List.foldl_append]
 rfl
def iO (e:End):List Nat->End
 | [a]=>.go a
 | ns=>vG e ns
noncomputable def cY (ps:List Piece):Nat->List Cp->List Piece->List Cp × List Piece
 | 0,cs,outs=>(cs,outs)
 | f+1,cs,outs=>match cs[outs.length]? with
  | none=>(cs,outs)
  | some c=>match ps[c.1]? with
   | none=>(cs,outs)
   | some pc=>cY ps f (bD tops most cs (bT (aw c.2 pc.1) pc.2)).1 (outs ++ [(pc.1,iO pc.2 (bD tops most cs (bT (aw c.2 pc.1) pc.2)).2)])
end
theorem nS {T:Str->Sx}:∀ ss:List Str,bN (d5 T ss)=true
 | []=>rfl
 | x :: ss=>by
  have ih:bS (ss.map (dF T))=true:=nS ss
  show ((true && (bN (dS (T x)) && true)) && bS (ss.map (dF T)))=true
  rw [ih]
  obtain⟨a,b⟩:=T x
  cases a <;> cases b <;> rfl
theorem CD.iz {c:Cp} {d:PyData} (h:CD c d):bN d=true:=by
 obtain⟨fd,⟨ss,srt,hm,rfl⟩,rfl⟩:=h
 show (true && (bN (d5 c.2 ss) && true))=true
 rw [nS];rfl
def mV:Sp:=fun vs H Q _=>∃ (ea l:Addr) (e:End) (ns:List Nat),vs = [.ref ea,.ref l]/\H ea=some (.tup (de e))/\H l=some (.lst (vN ns))/\(ns.length=1\/ns.length=(aP e).length)/\ns.length<=2 /\
 ∀ t H',H' t=some (.tup (de (iO e ns)))->ah H H'->Q (.ref t) H'
abbrev j7 (ms:List (PyData × Addr)) (cs:List Cp):Prop:=Paired (fun d c=>CD c d) (ms.map (·.1)) cs
def jx (P:Program) (w:World):Sp:=fun vs H Q _=>∃ (la tp d:Addr) (most k:Nat) (T:Str->Sx) (dl:PyData) (hs:List Nat) (fv:V) (ms:List (PyData × Addr)) (cs:List Cp) (tops:Nat->Prop),vs = [.ref la,.ref tp,.ref d,.int (most:Nat)] /\
 H la=some (.tup [.int (k:Nat),fv])/\aN H (.ref la) dl/\CD (k,T) dl/\pH T/\H tp=some (.tup (vN hs))/\(∀ j,j ∈ hs ↔ tops j)/\H d=some (dE P w d (cw 0 ms))/\wJ H (cw 0 ms)/\j7 ms cs /\
 ∀ (a:Addr) (d':PyData) (H':Hp),aN H' (.ref a) d'->CD (aK tops most cs (k,T)) d'->ah H H'->Q (.ref a) H'
structure cx (xs:List Str) (T:Str->Sx):Prop where
 sup:∀ x,T x ≠ cP->x ∈ xs
 le:∀ x,lu (T x).1 (T x).2
theorem cx.zero {xs:List Str}:cx xs T0:=⟨fun x h=>absurd rfl h,fun x=>True.intro⟩
theorem cx.set {xs:List Str} {T:Str->Sx} (h:cx xs T) {x:Str} {s:Sx} (hx:x ∈ xs) (hs:lu s.1 s.2):cx xs (bE T x s):=by
 refine⟨fun y hy=>?_,fun y=>?_⟩
 ·unfold bE at hy
  by_cases e:y=x
  ·rw [e];exact hx
  ·rw [if_neg e] at hy;exact h.sup y hy
 ·unfold bE
  by_cases e:y=x
  ·rw [if_pos e];exact hs
  ·rw [if_neg e];exact h.le y
theorem jJ {w:Str} {lo hi:Option Int} {n:Int} {side:Bool} {s:Sx} (le:lu lo hi) (h:cO w lo hi n side=some s):lu s.1 s.2:=by
 unfold cO at h
 split at h
 ·unfold g9 at h
  split at h
  ·unfold du at h
   cases lo with
   | none=>cases h;exact True.intro
   | some l =>
    dsimp only at h
    split at h
    ·cases h
    ·cases h;show l<=eL hi n;omega
  ·unfold d7 at h
   cases hi with
   | none=>cases h;exact True.intro
   | some l =>
    dsimp only at h
    split at h
    ·cases h
    ·cases h;show eM lo n<=l;omega
 ·unfold qG at h
  split at h
  ·unfold lB at h
   split at h
   ·cases h;exact Int.le_refl n
   ·cases h
  ·unfold gM at h
   split at h
   ·next h1 =>
    split at h
    ·cases h
    ·next h2 =>
     cases h
     subst h1
     cases hi with
     | none=>exact True.intro
     | some b =>
      have:n<=b:=le
      have:¬ b=n:=fun z=>h2 (by rw [z])
      show n+1<=b
      omega
   ·next h1 =>
    split at h
    ·next h2 =>
     cases h
     subst h2
     cases lo with
     | none=>exact True.intro
     | some a =>
      have:a<=n:=le
      have:¬ a=n:=fun z=>h1 (by rw [z])
      show a<=n - 1
      omega
    ·cases h;exact le
theorem cx.As {xs:List Str} {T:Str->Sx} (h:cx xs T) {d:bP} (hd:iu xs d):cx xs (pE T d):=by
 refine h.set hd.name ?_
 cases d with
 | put x n=>exact Int.le_refl n
 | copy x y=>exact h.le y
 | add x n =>
  have:=h.le x
  show lu (wH (T x).1 n) (wH (T x).2 n)
  cases e1:(T x).1 with
  | none=>exact True.intro
  | some a=>cases e2:(T x).2 with
   | none=>exact True.intro
   | some b =>
    rw [e1,e2] at this
    have:a<=b:=this
    show a+n<=b+n
    omega
 | read x=>exact True.intro
 | tell x=>exact h.le x
theorem cx.sx {xs:List Str}:∀ {ds:List bP} {T:Str->Sx},cx xs T->(∀ d ∈ ds,iu xs d)->cx xs (aw T ds)
 | [],_,h,_=>h
 | d :: ds,T,h,hd=>cx.sx (ds:=ds) (h.As (hd d (List.mem_cons_self ..))) fun e he=>hd e (List.mem_cons_of_mem _ he)
theorem qX {xs:List Str} {c:Nat} {T:Str->Sx} {e:End} (h:cx xs T) (he:rO xs c e):∀ p ∈ bT T e,p.1 < c/\cx xs p.2:=fun p hp=>by
 unfold bT at hp
 obtain⟨⟨k,o⟩,ho,hm⟩:=List.mem_filterMap.mp hp
 have hz:=List.of_mem_zip ho
 cases e with
 | stop=>cases hz.1
 | go q =>
  rw [List.mem_singleton.mp hz.2] at hm
  cases hm
  exact⟨by rw [List.mem_singleton.mp hz.1];exact he,h⟩
 | bL b x n q r =>
  have hk:k < c:=by
   rcases List.mem_cons.mp hz.1 with z | z
   ·rw [z];exact he.2.2.1
   ·rw [List.mem_singleton.mp z];exact he.2.2.2
  have key:∀ side,o=(bW T b x n side).map (bE T x)->p.1 < c/\cx xs p.2:=fun side eo=>by
   dsimp only at hm
   rw [eo] at hm
   cases z:bW T b x n side with
   | none=>rw [z] at hm;cases hm
   | some s =>
    rw [z] at hm
    cases hm
    exact⟨hk,h.set he.1 (jJ (h.le x) z)⟩
  rcases List.mem_cons.mp hz.2 with z | z
  ·exact key true z
  ·exact key false (List.mem_singleton.mp z)
theorem pM {xs:List Str} {T:Str->Sx} {e:End} (h:cx xs T):((bT T e).length=1\/(bT T e).length=(aP e).length)/\(bT T e).length<=2:=by
 cases e with
 | stop=>exact⟨.inr rfl,Nat.zero_le _⟩
 | go q=>exact⟨.inl rfl,by show 1<=2;decide⟩
 | bL b x n q r =>
  have e:bT T (.bL b x n q r)=((bW T b x n true).map fun s=>(q,bE T x s)).toList++((bW T b x n false).map fun s=>(r,bE T x s)).toList:=by
   unfold bT
   show ([(q,(bW T b x n true).map (bE T x)),(r,(bW T b x n false).map (bE T x))].filterMap fun p=>p.2.map fun U=>(p.1,U))=_
   cases bW T b x n true <;> cases bW T b x n false <;> rfl
  rw [e]
  cases e1:bW T b x n true with
  | none=>cases e2:bW T b x n false with
   | none=>exact (ve (h.le x) e1 e2).elim
   | some s=>exact⟨.inl rfl,by show 1<=2;decide⟩
  | some s=>cases e2:bW T b x n false with
   | none=>exact⟨.inl rfl,by show 1<=2;decide⟩
   | some s=>exact⟨.inr rfl,Nat.le_refl 2⟩
theorem cx.lay {xs:List Str} {T:Str->Sx} (h:cx xs T) (hx:∀ x ∈ xs,ir x):pH T:=fun x hx'=>vJ (hx x (h.sup x hx'))
theorem cx.cn {xs:List Str} {T:Str->Sx} (h:cx xs T):sm T xs.length:=fun ss hs nd=>sub_len nd fun x hx=>h.sup x (hs x hx)
open Classical in
noncomputable def jy (c:Cp):Bool:=decide (c.2 ≠ T0)
theorem nT {α : Type} (p:α->Bool):∀ l:List α,l.length=(l.filter p).length+(l.filter fun x=>!p x).length
 | []=>rfl
 | x :: l=>by
  have ih:=nT p l
  cases h:p x with
  | true=>rw [List.filter_cons_of_pos h,List.filter_cons_of_neg (by simp [h]),List.length_cons,List.length_cons];omega
  | false=>rw [List.filter_cons_of_neg (by simp [h]),List.filter_cons_of_pos (by simp [h]),List.length_cons,List.length_cons];omega
structure gQ (n most:Nat) (cs:List Cp):Prop where
 nd:cs.Nodup
 cn:(cs.filter jy).length<=most
theorem gQ.len {n most:Nat} {cs:List Cp} (h:gQ n most cs) (hl:∀ c ∈ cs,c.1 < n):cs.length<=most+n:=by
 have e:=nT jy cs
 have h2:(cs.filter fun c=>!jy c).length<=n:=by
  have nd2:((cs.filter fun c=>!jy c).map (·.1)).Nodup:=by
   rw [List.Nodup,List.pairwise_map]
   refine (h.nd.filter _).imp_of_mem fun {a b} ha hb hne z=>hne ?_
   have ha2:=(List.mem_filter.mp ha).2
   have hb2:=(List.mem_filter.mp hb).2
   simp [jy] at ha2 hb2
   exact Prod.ext z (by rw [ha2,hb2])
  have:=eQ (n:=n) nd2 fun x hx=>by
   obtain⟨c,hc,rfl⟩:=List.mem_map.mp hx
   exact hl c (List.mem_filter.mp hc).1
  rw [List.length_map] at this
  exact this
 have:=h.cn
 omega
theorem gQ.put {n most:Nat} {tops:Nat->Prop} {cs:List Cp} {l:Cp} (h:gQ n most cs):gQ n most (LS.putIn cs (aK tops most cs l)):=by
 unfold LS.putIn
 by_cases hm:aK tops most cs l ∈ cs
 ·rw [if_pos hm];exact h
 ·rw [if_neg hm]
  refine⟨?_,?_⟩
  ·rw [List.nodup_append]
   refine⟨h.nd,by simp,fun x hx y hy z=>?_⟩
   rw [List.mem_singleton.mp hy] at z
   exact hm (z ▸ hx)
  ·rw [List.filter_append,List.length_append]
   by_cases hz:(aK tops most cs l).2=T0
   ·rw [List.filter_cons_of_neg (by simp [jy,hz])]
    simpa using h.cn
   ·have hlt:cs.length < most:=by
     unfold aK at hz hm
     split at hz
     ·exact absurd rfl hz
     ·split at hz
      ·next h1 h2 =>
       rw [if_neg h1,if_pos h2] at hm
       exact h2.resolve_left hm
      ·exact absurd rfl hz
    have h3:(cs.filter jy).length<=cs.length:=List.length_filter_le _ _
    have h4:(List.filter jy [aK tops most cs l]).length<=1:=List.length_filter_le _ _
    omega
open Classical in
noncomputable def startT (ps:List Piece):Str->Sx:=fun x=>if x ∈ bh ps then (some 0,some 0) else cP
open Classical in
noncomputable def eS (ps:List Piece):Cp:=if ba ps 0 then (0,T0) else (0,startT ps)
noncomputable def eN (ps:List Piece) (most:Nat):List Cp × List Piece:=cY (ba ps) most ps (most+ps.length) [eS ps] []
theorem vL {ps:List Piece} {ss:List Str} (hp:ss.Perm (LS.cH (bh ps))) (hs:sortedS ss=true):FD (startT ps) (jr ss):=by
 have hm:∀ x,x ∈ ss ↔ x ∈ bh ps:=fun x=>hp.mem_iff.trans LS.nH
 refine⟨ss,⟨nL hs,hp.nodup_iff.mpr (LS.ph _)⟩,fun x=>?_,?_⟩
 ·rw [hm]
  unfold startT
  by_cases h:x ∈ bh ps
  ·rw [if_pos h];exact⟨fun _ z=>(by cases z),fun _=>h⟩
  ·rw [if_neg h];exact⟨fun z=>absurd z h,fun z=>absurd rfl z⟩
 ·unfold jr d5
  congr 1
  refine List.map_congr_left fun x hx=>?_
  unfold dF startT
  rw [if_pos ((hm x).mp hx)]
  rfl
theorem kB {ps:List Piece} {xs:List Str} {m:Nat} (ok:dm xs m ps):cx xs (startT ps):=by
 refine⟨fun x hx=>?_,fun x=>?_⟩
 ·unfold startT at hx
  by_cases h:x ∈ bh ps
  ·exact nI ok x h
  ·rw [if_neg h] at hx;exact absurd rfl hx
 ·unfold startT
  split
  ·exact Int.le_refl 0
  ·exact True.intro
theorem fX {tops:Nat->Prop} {most:Nat} {ps:List Piece} {f:Nat} {cs:List Cp} {outs:List Piece} {c:Cp} {pc:Piece} (h:cs[outs.length]? = some c) (hp:ps[c.1]? = some pc) :
  cY tops most ps (f+1) cs outs=cY tops most ps f (bD tops most cs (bT (aw c.2 pc.1) pc.2)).1 (outs ++ [(pc.1,iO pc.2 (bD tops most cs (bT (aw c.2 pc.1) pc.2)).2)]):=by
 conv=>lhs;unfold cY
 rw [h]
 dsimp only
 rw [hp]
theorem hX {tops:Nat->Prop} {most:Nat} {ps:List Piece} {cs:List Cp} {outs:List Piece} (h:cs[outs.length]? = none):∀ f,cY tops most ps f cs outs=(cs,outs)
 | 0=>rfl
 | f+1=>by
  conv=>lhs;unfold cY
  rw [h]
def jA (P:Program) (w:World) (C:Addr):Sp:=fun vs H Q _=>∃ (plv:V) (ps:List Piece) (xs:List Str) (most:Nat),vs = [plv,.int (most:Nat)]/\aN H plv (fV ps)/\dm xs 6 ps/\(∀ x ∈ xs,ir x)/\xs.length<=10/\0 < ps.length/\ps.length<=60/\1<=most/\most<=300 /\
 ∀ (v:V) (ds:List PyData) (H':Hp),Paired (fun d c=>CD c d) ds (eN ps most).1->aN H' v (.tuple [.tuple ((eN ps most).2.map bQ),.tuple ds])->ah H H'->Q v H'
theorem xD {X:Cx} {K:PySem.W.Frag} {e:Expr} {f:Str} {pos:Pos} {ta:TE} (hK:X.K=K) (he:PE X e ta) (hb:attributeBase e f X.env (eval e X.env)=eval e X.env):PE X (.Attribute e f pos) (x6 K ta f):=by
 subst hK
 exact fe he hb
theorem fM {tops:Nat->Prop} {most n:Nat} {xs:List Str}:∀ {ls cs:List Cp} {ns:List Nat},gQ n most cs->(∀ c ∈ cs,c.1 < n/\cx xs c.2)->(∀ c ∈ ls,c.1 < n/\cx xs c.2)->gQ n most (ls.foldl (cF tops most) (cs,ns)).1/\(∀ c ∈ (ls.foldl (cF tops most) (cs,ns)).1,c.1 < n/\cx xs c.2)/\(ls.foldl (cF tops most) (cs,ns)).2.length=ns.length+ls.length/\∃ more,(ls.foldl (cF tops most) (cs,ns)).1=cs++more
 | [],cs,ns,h,hc,_=>⟨h,hc,rfl,[],by simp⟩
 | l :: ls,cs,ns,h,hc,hl=>by
  have hl0:=hl l (List.mem_cons_self ..)
  have hcp:(aK tops most cs l).1 < n/\cx xs (aK tops most cs l).2:=by
   unfold aK
   split
   ·exact⟨hl0.1,cx.zero⟩
   ·split
    ·exact hl0
    ·exact⟨hl0.1,cx.zero⟩
  have hc':∀ c ∈ LS.putIn cs (aK tops most cs l),c.1 < n/\cx xs c.2:=fun c hc'=>by
   rcases LS.dZ.mp hc' with z | z
   ·exact hc c z
   ·rw [z];exact hcp
  obtain⟨i1,i2,i3,more,i4⟩:=fM (tops:=tops) (ls:=ls) (cs:=LS.putIn cs (aK tops most cs l)) (ns:=ns ++ [(LS.putIn cs (aK tops most cs l)).idxOf (aK tops most cs l)]) (h.put (l:=l)) hc' fun c hc=>hl c (List.mem_cons_of_mem _ hc)
  refine⟨i1,i2,?_,?_⟩
  ·refine Eq.trans (show (ls.foldl (cF tops most) (cF tops most (cs,ns) l)).2.length=(ns ++ [(LS.putIn cs (aK tops most cs l)).idxOf (aK tops most cs l)]).length+ls.length from i3) ?_
   simp only [List.length_append,List.length_cons,List.length_nil]
   omega
  ·have i4':(ls.foldl (cF tops most) (cF tops most (cs,ns) l)).1=LS.putIn cs (aK tops most cs l)++more:=i4
   show ∃ more,(ls.foldl (cF tops most) (cF tops most (cs,ns) l)).1=cs++more
   rw [i4']
   unfold LS.putIn
   split
   ·exact⟨more,rfl⟩
   ·exact⟨aK tops most cs l :: more,by simp⟩
theorem fj.mv {P:Program} {w:World} {C r m d:Addr} {H H':Hp} {ms:List (PyData × Addr)} (A:fj P w C H r m d ms) (nls:∀ p ∈ ms,bN p.1=true) (k:∀ c o,H c=some o->(c=r\/c=m\/c=d)->H' c=some o) (kt:∀ p zs,H p=some (.tup zs)->H' p=some (.tup zs)):fj P w C H' r m d ms:=by
 obtain⟨⟨dx,h1⟩,h2,h3,h4⟩:=A
 exact⟨⟨dx,k _ _ h1 (.inl rfl)⟩,k _ _ h2 (.inr (.inl rfl)),k _ _ h3 (.inr (.inr rfl)),fun p hp=>⟨(h4 p hp).1,(h4 p hp).2.aI kt (nls p hp)⟩⟩
theorem j7.iz {ms:List (PyData × Addr)} {cs:List Cp} (h:j7 ms cs):∀ p ∈ ms,bN p.1=true:=by
 have go:∀ {ds:List PyData} {cs:List Cp},Paired (fun d c=>CD c d) ds cs->∀ d ∈ ds,bN d=true:=by
  intro ds cs h
  induction h with
  | nil=>intro d hd;cases hd
  | cons r _ ih =>
   intro d hd
   rcases List.mem_cons.mp hd with rfl | hd
   ·exact r.iz
   ·exact ih d hd
 exact fun p hp=>go h p.1 (List.mem_map.mpr ⟨p,hp,rfl⟩)
theorem j7.put {ms:List (PyData × Addr)} {cs:List Cp} {c:Cp} {d:PyData} {a:Addr} (h:j7 ms cs) (cd:CD c d):j7 (iL ms d a) (LS.putIn cs c):=by
 obtain⟨hm,_⟩:=cd.mem h
 unfold iL LS.putIn
 by_cases z:c ∈ cs
 ·rw [if_pos z,if_pos (hm.mpr z)];exact h
 ·rw [if_neg z,if_neg (fun w=>z (hm.mp w))]
  show Paired _ ((ms ++ [(d,a)]).map (·.1)) _
  rw [List.map_append]
  exact d9 h (.cons cd .nil)
theorem qY {H:Hp}:∀ {ms:List (PyData × Addr)},(∀ p ∈ ms,aN H (.ref p.2) p.1)->aV H (ms.map fun p=>V.ref p.2) (ms.map (·.1))
 | [],_=>.nil
 | p :: ms,h=>.cons (h p (List.mem_cons_self ..)) (qY fun q hq=>h q (List.mem_cons_of_mem _ hq))
theorem lV:∀ {vs:List Value} {ks:List Int},vs.length=ks.length->(∀ (j:Nat) (v:Value) (x:Int),vs[j]? = some v->ks[j]? = some x->∃ t,v=.int x t)->IntsAre vs ks
 | [],[],_,_=>.nil
 | [],_ :: _,h,_=>by cases h
 | _ :: _,[],h,_=>by cases h
 | v :: vs,x :: ks,hl,h=>by
  obtain⟨t,rfl⟩:=h 0 v x rfl rfl
  exact .cons x t (lV (by simpa using hl) fun j v y h1 h2=>h (j+1) v y (by simpa using h1) (by simpa using h2))
section
variable {prog:Program} {w:World} {A:Around} {E:Value->Shared->Prop} {s:Shared}
end
section
variable {X:Cx}
end
section
variable {tops:Nat->Prop} {most:Nat}
def Goes (tops:Nat->Prop) (most:Nat) (cs:List Cp) (ls:List Cp) (ns:List Nat):Prop:=Paired (fun l k=>∃ c':Cp,cs[k]? = some c'/\c'.1=l.1/\((¬ tops l.1/\c'.2=l.2)\/(c'.2=T0/\(tops l.1\/most<=cs.length)))) ls ns
theorem Goes.more {cs ls more:List Cp} {ns:List Nat} (h:Goes tops most cs ls ns):Goes tops most (cs++more) ls ns:=by
 unfold Goes at h ⊢
 induction h with
 | nil=>exact .nil
 | cons r _ ih =>
  obtain⟨c',h1,h2,h3⟩:=r
  refine .cons ⟨c',?_,h2,?_⟩ ih
  ·rw [List.getElem?_append_left (List.getElem?_eq_some_iff.mp h1).1];exact h1
  ·rcases h3 with h3 | ⟨h3,h4 | h4⟩
   ·exact .inl h3
   ·exact .inr ⟨h3,.inl h4⟩
   ·exact .inr ⟨h3,.inr (by rw [List.length_append];omega)⟩
theorem vM {cs:List Cp} {c:Cp}:(LS.putIn cs c)[(LS.putIn cs c).idxOf c]? = some c:=by
 have hm:c ∈ LS.putIn cs c:=LS.dZ.mpr (.inr rfl)
 have hl:=List.idxOf_lt_length_of_mem hm
 rw [List.getElem?_eq_getElem hl,List.getElem_idxOf hl]
theorem j8:∀ {ls cs:List Cp} {ns:List Nat},∃ more ms,(ls.foldl (cF tops most) (cs,ns)).1=cs++more/\(ls.foldl (cF tops most) (cs,ns)).2=ns++ms/\Goes tops most (ls.foldl (cF tops most) (cs,ns)).1 ls ms
 | [],cs,ns=>⟨[],[],by simp,by simp,.nil⟩
 | l :: ls,cs,ns=>by
  obtain⟨more,ms,e1,e2,g⟩:=j8 (ls:=ls) (cs:=LS.putIn cs (aK tops most cs l)) (ns:=ns ++ [(LS.putIn cs (aK tops most cs l)).idxOf (aK tops most cs l)])
  have e0:(l :: ls).foldl (cF tops most) (cs,ns)=ls.foldl (cF tops most) (LS.putIn cs (aK tops most cs l),ns ++ [(LS.putIn cs (aK tops most cs l)).idxOf (aK tops most cs l)]):=rfl
  rw [e0]
  have hp:∃ m0,LS.putIn cs (aK tops most cs l)=cs++m0:=by
   unfold LS.putIn
   split
   ·exact⟨[],by simp⟩
   ·exact⟨_,rfl⟩
  obtain⟨m0,em⟩:=hp
  have hat:=vM (cs:=cs) (c:=aK tops most cs l)
  refine⟨m0++more,(LS.putIn cs (aK tops most cs l)).idxOf (aK tops most cs l) :: ms,by rw [e1,em,List.append_assoc],by rw [e2,List.append_assoc];rfl,.cons ⟨aK tops most cs l,?_,?_,?_⟩ g⟩
  ·rw [e1,List.getElem?_append_left (List.getElem?_eq_some_iff.mp hat).1];exact hat
  ·unfold aK
   split
   ·rfl
   ·split <;> rfl
  ·have hl:cs.length<=(ls.foldl (cF tops most) (LS.putIn cs (aK tops most cs l),ns ++ [(LS.putIn cs (aK tops most cs l)).idxOf (aK tops most cs l)])).1.length:=by rw [e1,em,List.length_append,List.length_append];omega
   generalize (ls.foldl (cF tops most) (LS.putIn cs (aK tops most cs l),ns ++ [(LS.putIn cs (aK tops most cs l)).idxOf (aK tops most cs l)])).1=cz at hl
   unfold aK
   by_cases h1:tops l.1
   ·rw [if_pos h1];exact .inr ⟨rfl,.inl h1⟩
   ·rw [if_neg h1]
    by_cases h2:l ∈ cs\/cs.length < most
    ·rw [if_pos h2];exact .inl ⟨h1,rfl⟩
    ·rw [if_neg h2];exact .inr ⟨rfl,.inr (by have:¬ cs.length < most:=fun z=>h2 (.inr z);omega)⟩
def Ab (tops:Nat->Prop) (most:Nat) (ps:List Piece) (cs:List Cp) (outs:List Piece):Prop:=∀ (j:Nat) (p:Piece),outs[j]? = some p->∃ (c:Cp) (pc:Piece) (ns:List Nat),cs[j]? = some c/\ps[c.1]? = some pc/\p=(pc.1,iO pc.2 ns)/\Goes tops most cs (bT (aw c.2 pc.1) pc.2) ns
structure mW (tops:Nat->Prop) (most:Nat) (xs:List Str) (ps:List Piece) (cs:List Cp) (outs:List Piece):Prop where
 pN:gQ ps.length most cs
 ok:∀ c ∈ cs,c.1 < ps.length/\cx xs c.2
 le:outs.length<=cs.length
 rel:Ab tops most ps cs outs
theorem mW.step {xs:List Str} {ps:List Piece} {cs:List Cp} {outs:List Piece} {m:Nat} (h:mW tops most xs ps cs outs) (pok:dm xs m ps) {c:Cp} {pc:Piece} (hc:cs[outs.length]? = some c) (hp:ps[c.1]? = some pc) :
  mW tops most xs ps (bD tops most cs (bT (aw c.2 pc.1) pc.2)).1 (outs ++ [(pc.1,iO pc.2 (bD tops most cs (bT (aw c.2 pc.1) pc.2)).2)])/\∃ more,(bD tops most cs (bT (aw c.2 pc.1) pc.2)).1=cs++more:=by
 have hcm:=List.mem_of_getElem? hc
 have dok:=pok.lg _ (List.mem_of_getElem? hp)
 have eok:=pok.ends _ (List.mem_of_getElem? hp)
 have bok:=(h.ok c hcm).2.sx dok.2
 obtain⟨k1,k2,_,_⟩:=fM (tops:=tops) (ls:=bT (aw c.2 pc.1) pc.2) (ns:=[]) h.pN h.ok (qX bok eok)
 obtain⟨more,ms,e1,e2,g⟩:=j8 (tops:=tops) (most:=most) (ls:=bT (aw c.2 pc.1) pc.2) (cs:=cs) (ns:=[])
 have hol:outs.length < cs.length:=(List.getElem?_eq_some_iff.mp hc).1
 refine⟨⟨k1,k2,?_,?_⟩,more,e1⟩
 ·unfold bD
  rw [e1,List.length_append,List.length_append]
  show _+1<=_
  omega
 ·intro j p hj
  unfold bD
  by_cases hjl:j < outs.length
  ·rw [List.getElem?_append_left hjl] at hj
   obtain⟨c',pc',ns',h1,h2,h3,h4⟩:=h.rel j p hj
   refine⟨c',pc',ns',?_,h2,h3,?_⟩
   ·rw [e1,List.getElem?_append_left (by omega)];exact h1
   ·rw [e1];exact h4.more
  ·have hje:j=outs.length:=by
    have:=(List.getElem?_eq_some_iff.mp hj).1
    rw [List.length_append] at this
    have:j < outs.length+1:=this
    omega
   subst hje
   rw [List.getElem?_append_right (Nat.le_refl _),Nat.sub_self] at hj
   cases hj
   refine⟨c,pc,ms,?_,hp,?_,g⟩
   ·rw [e1,List.getElem?_append_left hol];exact hc
   ·unfold bD
    rw [e2]
    rfl
theorem nU {xs:List Str} {ps:List Piece} {m:Nat} (pok:dm xs m ps):∀ (fu:Nat) {cs:List Cp} {outs:List Piece},mW tops most xs ps cs outs->fu+outs.length=most+ps.length ->
  mW tops most xs ps (cY tops most ps fu cs outs).1 (cY tops most ps fu cs outs).2/\(cY tops most ps fu cs outs).2.length=(cY tops most ps fu cs outs).1.length/\∃ more,(cY tops most ps fu cs outs).1=cs++more
 | 0,cs,outs,h,hf=>by
  have:=h.pN.len fun c hc=>(h.ok c hc).1
  have:=h.le
  exact⟨h,by show outs.length=cs.length;omega,[],by show cs=_;simp⟩
 | fu+1,cs,outs,h,hf=>by
  cases hc:cs[outs.length]? with
  | none =>
   rw [hX hc]
   have:cs.length<=outs.length:=List.getElem?_eq_none_iff.mp hc
   have:=h.le
   exact⟨h,by show outs.length=cs.length;omega,[],by simp⟩
  | some c =>
   have hcl:=(h.ok c (List.mem_of_getElem? hc)).1
   have hps:ps[c.1]? = some ps[c.1]:=by simp [hcl]
   rw [fX hc hps]
   obtain⟨h',more,e⟩:=h.step pok hc hps
   obtain⟨i1,i2,more',i3⟩:=nU pok fu h' (by rw [List.length_append];show fu+(_+1)=_;omega)
   exact⟨i1,i2,more++more',by rw [i3,e,List.append_assoc]⟩
end
theorem pO {xs:List Str} {ps:List Piece} {m most:Nat} (pok:dm xs m ps) (hn0:0 < ps.length) (hm:1<=most) :
  mW (ba ps) most xs ps (eN ps most).1 (eN ps most).2/\(eN ps most).2.length=(eN ps most).1.length/\∃ more,(eN ps most).1 = [eS ps] ++ more:=by
 refine nU pok _ ⟨⟨by simp,Nat.le_trans (List.length_filter_le _ _) hm⟩,fun c hc=>?_,Nat.zero_le _,fun j p hj=>(by cases hj)⟩ rfl
 rw [List.mem_singleton.mp hc]
 unfold eS
 split
 ·exact⟨hn0,cx.zero⟩
 ·exact⟨hn0,kB pok⟩
section
variable {X:Cx}
end
theorem mX {b:Bool} {lo hi:Option Int} {n u:Int} (h:bg u lo hi=true):∃ s,cO (wT b) lo hi n (gK b u n)=some s/\bg u s.1 s.2=true:=by
 cases b with
 | true =>
  have ew:(wT true:Str) = "less" := rfl
  unfold cO
  rw [if_pos ew]
  unfold g9 gK
  rw [if_pos rfl]
  by_cases hu:u < n
  ·rw [if_pos (decide_eq_true hu)]
   unfold du eL
   cases lo <;> cases hi <;> simp only [bg,Bool.and_eq_true,Bool.true_and,Bool.and_true,decide_eq_true_eq] at h ⊢
   ·exact⟨_,rfl,by simp [bg];omega⟩
   ·rename_i hh
    refine⟨_,rfl,?_⟩
    exact⟨rfl,decide_eq_true (by split <;> omega)⟩
   ·rw [if_neg (by omega)];refine⟨_,rfl,?_⟩;simp only [Bool.and_eq_true,decide_eq_true_eq];omega
   ·rename_i l hh
    rw [if_neg (by split <;> omega)]
    refine⟨_,rfl,?_⟩
    simp only [Bool.and_eq_true,decide_eq_true_eq]
    refine⟨h.1,?_⟩
    split <;> omega
  ·rw [if_neg (fun z=>hu (of_decide_eq_true z))]
   unfold d7 eM
   cases lo <;> cases hi <;> simp only [bg,Bool.and_eq_true,Bool.true_and,Bool.and_true,decide_eq_true_eq] at h ⊢
   ·exact⟨_,rfl,by simp [bg];omega⟩
   ·rw [if_neg (by omega)];refine⟨_,rfl,?_⟩;simp only [Bool.and_eq_true,decide_eq_true_eq];omega
   ·rename_i l
    refine⟨_,rfl,?_⟩
    exact⟨decide_eq_true (by split <;> omega),rfl⟩
   ·rw [if_neg (by split <;> omega)]
    refine⟨_,rfl,?_⟩
    simp only [Bool.and_eq_true,decide_eq_true_eq]
    refine⟨?_,h.2⟩
    split <;> omega
 | false =>
  have ew:¬ (wT false:Str) = "less" := by decide +kernel
  unfold cO
  rw [if_neg ew]
  unfold qG
  have ea:gK false u n=decide (u=n):=rfl
  rw [ea]
  by_cases hu:u=n
  ·subst hu
   rw [if_pos (decide_eq_true rfl)]
   unfold lB
   rw [if_pos h]
   exact⟨_,rfl,by simp [bg]⟩
  ·rw [if_neg (fun z=>hu (of_decide_eq_true z))]
   unfold gM
   by_cases h1:lo=some n
   ·subst h1
    by_cases h2:hi=some n
    ·subst h2
     simp only [bg,Bool.and_eq_true,decide_eq_true_eq] at h
     omega
    ·rw [if_pos rfl,if_neg h2]
     refine⟨_,rfl,?_⟩
     simp only [bg,Bool.and_eq_true,decide_eq_true_eq] at h ⊢
     exact⟨by omega,h.2⟩
   ·rw [if_neg h1]
    by_cases h2:hi=some n
    ·subst h2
     rw [if_pos rfl]
     refine⟨_,rfl,?_⟩
     simp only [bg,Bool.and_eq_true,decide_eq_true_eq] at h ⊢
     exact⟨h.1,by omega⟩
    ·rw [if_neg h2]
     exact⟨_,rfl,h⟩
theorem pP {T:Str->Sx} {b:Bool} {x:Str} {n:Int} {q r:Nat}:bT T (.bL b x n q r)=((bW T b x n true).map fun s=>(q,bE T x s)).toList++((bW T b x n false).map fun s=>(r,bE T x s)).toList:=by
 unfold bT
 show ([(q,(bW T b x n true).map (bE T x)),(r,(bW T b x n false).map (bE T x))].filterMap fun p=>p.2.map fun U=>(p.1,U))=_
 cases bW T b x n true <;> cases bW T b x n false <;> rfl
section
variable {X:Cx}
end
def sy (ps outs:List Piece) (cs:List Cp):Prop:=(∀ c ∈ cs,ba ps c.1->c.2=T0)/\∀ (j:Nat) (p:Piece),outs[j]? = some p->∃ (c:Cp) (pc:Piece) (ns:List Nat),cs[j]? = some c/\ps[c.1]? = some pc/\p=(pc.1,iO pc.2 ns)/\(ns.length=1\/ns.length=(aP pc.2).length) /\
 Paired (fun (l:Cp) k=>∃ c':Cp,cs[k]? = some c'/\c'.1=l.1/\(¬ ba ps l.1->c'.2=l.2)) (bT (aw c.2 pc.1) pc.2) ns
theorem lW {tops:Nat->Prop} {most:Nat}:∀ {ls cs:List Cp} {ns:List Nat},(∀ c ∈ cs,tops c.1->c.2=T0)->∀ c ∈ (ls.foldl (cF tops most) (cs,ns)).1,tops c.1->c.2=T0
 | [],cs,ns,h=>h
 | l :: ls,cs,ns,h=>by
  have e0:(l :: ls).foldl (cF tops most) (cs,ns)=ls.foldl (cF tops most) (LS.putIn cs (aK tops most cs l),ns ++ [(LS.putIn cs (aK tops most cs l)).idxOf (aK tops most cs l)]):=rfl
  rw [e0]
  refine lW fun c hc ht=>?_
  rcases LS.dZ.mp hc with z | z
  ·exact h c z ht
  ·subst z
   unfold aK at ht ⊢
   by_cases h1:tops l.1
   ·rw [if_pos h1]
   ·rw [if_neg h1] at ht ⊢
    by_cases h2:l ∈ cs\/cs.length < most
    ·rw [if_pos h2] at ht;exact absurd ht h1
    ·rw [if_neg h2]
theorem nV {tops:Nat->Prop} {most:Nat} {ps:List Piece}:∀ (fu:Nat) {cs:List Cp} {outs:List Piece},(∀ c ∈ cs,tops c.1->c.2=T0)->∀ c ∈ (cY tops most ps fu cs outs).1,tops c.1->c.2=T0
 | 0,cs,outs,h=>h
 | fu+1,cs,outs,h=>by
  cases hc:cs[outs.length]? with
  | none=>rw [hX hc];exact h
  | some c =>
   cases hp:ps[c.1]? with
   | none =>
    have:cY tops most ps (fu+1) cs outs=(cs,outs):=by
     conv=>lhs;unfold cY
     rw [hc]
     dsimp only
     rw [hp]
    rw [this]
    exact h
   | some pc =>
    rw [fX hc hp]
    exact nV fu (lW h)
theorem vP {ps:List Piece} {most:Nat}:∀ c ∈ (eN ps most).1,ba ps c.1->c.2=T0:=by
 refine nV _ fun c hc ht=>?_
 rw [List.mem_singleton.mp hc] at ht ⊢
 unfold eS at ht ⊢
 by_cases h:ba ps 0
 ·rw [if_pos h]
 ·rw [if_neg h] at ht
  exact absurd ht h
theorem uC {xs:List Str} {ps:List Piece} {m most:Nat} (pok:dm xs m ps) (hn0:0 < ps.length) (hm:1<=most) (hfew:(eN ps most).1.length < most):sy ps (eN ps most).2 (eN ps most).1:=by
 obtain⟨I,hl,_⟩:=pO pok hn0 hm
 refine⟨vP,fun j p hj=>?_⟩
 obtain⟨c,pc,ns,h1,h2,h3,h4⟩:=I.rel j p hj
 have bok:=(I.ok c (List.mem_of_getElem? h1)).2.sx (pok.lg _ (List.mem_of_getElem? h2)).2
 refine⟨c,pc,ns,h1,h2,h3,?_,?_⟩
 ·rw [<-Paired.length h4]
  exact (pM (e:=pc.2) bok).1
 ·clear h3
  unfold Goes at h4
  generalize bT (aw c.2 pc.1) pc.2=ls at h4
  induction h4 with
  | nil=>exact .nil
  | cons r _ ih =>
   obtain⟨c',g1,g2,g3⟩:=r
   refine .cons ⟨c',g1,g2,fun hn=>?_⟩ ih
   rcases g3 with ⟨_,e⟩ | ⟨_,e | e⟩
   ·exact e
   ·exact absurd e hn
   ·omega
def j9 (i:Int) (n:Nat):List Int:=(List.range n).map fun k=>i+(k:Nat)
theorem og {acc:Array Value} {i:Int} {n:Nat} (h:ItemsOf (fun j v=>∃ t,v=.int (i+j * 1) t) acc n):IntsAre acc.toList (j9 i n):=by
 refine lV ?_ fun j v x h1 h2=>?_
 ·rw [Array.length_toList,h.1];simp [j9]
 ·obtain⟨t,rfl⟩:=h.2 j v (by rw [<-Array.getElem?_toList];exact h1)
  unfold j9 at h2
  rw [List.getElem?_map] at h2
  cases e:(List.range n)[j]? with
  | none=>rw [e] at h2;cases h2
  | some k =>
   rw [e] at h2
   have hk:k=j:=by
    obtain⟨hl,he⟩:=List.getElem?_eq_some_iff.mp e
    rw [List.getElem_range] at he
    exact he.symm
   have hx:i+(k:Nat)=x:=Option.some.inj h2
   refine⟨t,?_⟩
   rw [<-hx,hk,Int.mul_one]
section
variable {X:Cx}
theorem pQ {a b:Expr} {ta:TA} {p1 p2 pos pos':Pos} (hc:X.calm=true) (hg:Gl X "list") (hm:X.mg "list" = none) (hg2:Gl X "range") (hm2:X.mg "range" = none) (ha:PA X [a,b] ta)
  (hs:starEach [a,b] X.env = [(false,eval a X.env),(false,eval b X.env)]:=by rfl) (hs2:starEach [b] X.env = [(false,eval b X.env)]:=by rfl)
  (hs3:starEach [.Call (.Name "range" p2) [a,b] [] pos] X.env = [(false,eval (.Call (.Name "range" p2) [a,b] [] pos) X.env)]:=by rfl) :
  PE X (.Call (.Name "list" p1) [.Call (.Name "range" p2) [a,b] [] pos] [] pos') (fun σ H Q=>ta σ H fun vs H1=>∃ i j:Int,vs = [.int i,.int j]/\(-(2 ^ 62)<=i/\i < 2 ^ 62/\-(2 ^ 62)<=j/\j < 2 ^ 62)/\(j - i).toNat<=1000/\∀ l,H1 l=none->Q (.ref l) (upd H1 l (.lst ((j9 i (j - i).toNat).map V.int)))):=by
 intro pins s σ H Q I h
 refine wpAny_Call_Name_kw (fF I hg hm xf ?_ (by decide) (by decide))
 refine PyProof.Rows.callWith_type1 (Calls.spliced_cons ?_) (by rw [hs3];rfl) rfl
 refine wpAny_Call_Name_kw (fF I hg2 hm2 boot_range (PyProof.Rows.callWith_type1 (aJ (ha pos pins s σ H _ I h) fun us s1 ⟨vs,H1,I1,r1,q1⟩=>?_) (by rw [hs,hs2]) (by rw [hs2];rfl)) (by decide) (by decide))
 obtain⟨i,j,e,⟨q1,q2,q3,q4⟩,hz,q⟩:=q1
 subst e
 cases r1 with
 | cons r rr =>
  cases rr with
  | cons r' rr =>
   cases rr
   obtain⟨t,rfl⟩:=r
   obtain⟨t',rfl⟩:=r'
   refine call_range_2 ?_
   refine Calls.spliced_nil ?_
   have hrs:Builtin.Range.rangeSize i j 1=((j - i).toNat:Nat):=by rw [rangeSize_one];split <;> omega
   refine call_list_range (I1.ok.hd hc) (IsRange.new ..) (small_one q1 q2 q3 q4) hrs (Nat.le_trans hz (by decide)) fun h' tk acc c' hk hl hacc=>?_
   have hS:=og (i:=i) hacc
   have hlen:(j9 i (j - i).toNat).length=(j - i).toNat:=by simp [j9]
   refine⟨.ref _,_,I1.laid (t':=tk) (o:=.lst ((j9 i (j - i).toNat).map V.int)) (fun b o e=>hk b o (Heap.get?_push_of_some _ e)) ?_ (show bI X.prog X.w _ h' _ (.lst ((j9 i (j - i).toNat).map V.int)) from ⟨?_,acc.toList,c',gX hS,by simpa using hl⟩),rfl,q _ (I1.aL.fresh ?_)⟩
   ·show s1.heap.objs.size<=(s1.heap.push _).objs.size
    rw [size_push'];exact Nat.le_succ _
   ·rw [List.length_map,hlen];exact Nat.le_trans hz (by decide)
   ·show s1.heap.objs.size<=(s1.heap.push _).objs.size
    rw [size_push'];exact Nat.le_succ _
end
def v8:List Int:=[-4,-3,-2,-1,0,1,2,3]
def nN:Str := "n"
def nM:Str := "m"
structure Lp (ps:List Piece):Prop where
 len:ps.length<=22
 pos:0 < ps.length
 fwd:∀ (p:Nat) (pc:Piece),ps[p]? = some pc->∀ q ∈ aP pc.2,p < q/\q < ps.length
 first:∃ ds,ps[0]? = some (ds,.go 1)/\∀ T:Str->Sx,aw T ds nN=cP
 quiet:∀ (p:Nat) (pc:Piece),1<=p->ps[p]? = some pc->∀ T:Str->Sx,aw T pc.1 nN=T nN
 tests:∀ (p:Nat) (ds:List bP) (b:Bool) (x:Str) (t:Int) (q r:Nat),ps[p]? = some (ds,.bL b x t q r)->b=true/\x=nN/\-3<=t/\t<=3
theorem kC {s s':Sx} {t u:Int} {side:Bool} (h:cO (wT true) s.1 s.2 t side=some s'):bg u s'.1 s'.2=true ↔ bg u s.1 s.2=true/\decide (u < t)=side:=by
 obtain⟨lo,hi⟩:=s
 have ew:(wT true:Str) = "less" := rfl
 unfold cO at h
 rw [if_pos ew] at h
 unfold g9 at h
 cases side with
 | true =>
  rw [if_pos rfl] at h
  unfold du at h
  have key:s' = (lo,some (eL hi t)):=by
   cases lo with
   | none=>cases h;rfl
   | some a=>dsimp only at h;split at h <;> cases h;rfl
  subst key
  unfold eL
  cases lo <;> cases hi <;> simp only [bg,Bool.true_and,Bool.and_true,Bool.and_eq_true,decide_eq_true_eq,true_and,and_true] <;> (try split) <;> omega
 | false =>
  rw [if_neg (by decide)] at h
  unfold d7 at h
  have key:s' = (some (eM lo t),hi):=by
   cases hi with
   | none=>cases h;rfl
   | some a=>dsimp only at h;split at h <;> cases h;rfl
  subst key
  unfold eM
  cases lo <;> cases hi <;> simp only [bg,Bool.true_and,Bool.and_true,Bool.and_eq_true,decide_eq_true_eq,decide_eq_false_iff_not,true_and,and_true] <;> (try split) <;> omega
structure Rg (s:Sx):Prop where
 lo:∀ a,s.1=some a->-3<=a/\a<=3
 hi:∀ a,s.2=some a->-4<=a/\a<=2
theorem Rg.part {s s':Sx} {t:Int} {side:Bool} (r:Rg s) (ht:-3<=t/\t<=3) (h:cO (wT true) s.1 s.2 t side=some s'):Rg s':=by
 obtain⟨lo,hi⟩:=s
 have ew:(wT true:Str) = "less" := rfl
 unfold cO at h
 rw [if_pos ew] at h
 unfold g9 at h
 cases side with
 | true =>
  rw [if_pos rfl] at h
  unfold du at h
  have key:s' = (lo,some (eL hi t)):=by
   cases lo with
   | none=>cases h;rfl
   | some a=>dsimp only at h;split at h <;> cases h;rfl
  subst key
  refine⟨r.lo,fun a ha=>?_⟩
  have ha:eL hi t=a:=Option.some.inj ha
  subst ha
  unfold eL
  cases hi with
  | none=>dsimp only;omega
  | some b =>
   have:=r.hi b rfl
   dsimp only
   split <;> omega
 | false =>
  rw [if_neg (by decide)] at h
  unfold d7 at h
  have key:s' = (some (eM lo t),hi):=by
   cases hi with
   | none=>cases h;rfl
   | some a=>dsimp only at h;split at h <;> cases h;rfl
  subst key
  refine⟨fun a ha=>?_,r.hi⟩
  have ha:eM lo t=a:=Option.some.inj ha
  subst ha
  unfold eM
  cases lo with
  | none=>dsimp only;omega
  | some b =>
   have:=r.lo b rfl
   dsimp only
   split <;> omega
theorem qZ {u:Int} {s:Sx} (h:bg u s.1 s.2=true):lu s.1 s.2:=by
 obtain⟨lo,hi⟩:=s
 cases lo with
 | none=>exact True.intro
 | some a=>cases hi with
  | none=>exact True.intro
  | some b =>
   simp only [bg,Bool.and_eq_true,decide_eq_true_eq] at h
   show a<=b
   omega
theorem Rg.pick {s:Sx} (r:Rg s) (le:lu s.1 s.2):∃ v ∈ v8,bg v s.1 s.2=true:=by
 have m8:∀ v:Int,-4<=v->v<=3->v ∈ v8:=fun v h1 h2=>by
  have:v = -4\/v = -3\/v = -2\/v = -1\/v=0\/v=1\/v=2\/v=3:=by omega
  rcases this with rfl | rfl | rfl | rfl | rfl | rfl | rfl | rfl <;> decide
 obtain⟨lo,hi⟩:=s
 cases lo with
 | some a =>
  have ha:=r.lo a rfl
  refine⟨a,m8 a (by omega) (by omega),?_⟩
  cases hi with
  | none=>simp [bg]
  | some b =>
   have:a<=b:=le
   simp [bg];omega
 | none=>cases hi with
  | some b =>
   have hb:=r.hi b rfl
   exact⟨b,m8 b (by omega) (by omega),by simp [bg]⟩
  | none=>exact⟨0,m8 0 (by omega) (by omega),rfl⟩
noncomputable def aU (ps:List Piece) (v:Int):Nat->Cp
 | 0=>(0,startT ps)
 | i+1=>match ps[(aU ps v i).1]? with
  | none=>aU ps v i
  | some pc=>match pc.2 with
   | .stop=>aU ps v i
   | .go q=>(q,aw (aU ps v i).2 pc.1)
   | .bL b x t q r=>match bW (aw (aU ps v i).2 pc.1) b x t (gK b v t) with
    | none=>aU ps v i
    | some s=>(if gK b v t=true then q else r,bE (aw (aU ps v i).2 pc.1) x s)
section
variable {ps:List Piece}
theorem kF {v:Int} {i:Nat} (h:ps[(aU ps v i).1]? = none):aU ps v (i+1)=aU ps v i:=by rw [aU,h]
theorem kG {v:Int} {i:Nat} {ds:List bP} (h:ps[(aU ps v i).1]? = some (ds,.stop)):aU ps v (i+1)=aU ps v i:=by rw [aU,h]
theorem gR {v:Int} {i q:Nat} {ds:List bP} (h:ps[(aU ps v i).1]? = some (ds,.go q)):aU ps v (i+1)=(q,aw (aU ps v i).2 ds):=by rw [aU,h]
theorem jK {v:Int} {i q r:Nat} {ds:List bP} {b:Bool} {x:Str} {t:Int} {s:Sx} (h:ps[(aU ps v i).1]? = some (ds,.bL b x t q r)) (hs:bW (aw (aU ps v i).2 ds) b x t (gK b v t)=some s) :
  aU ps v (i+1)=(if gK b v t=true then q else r,bE (aw (aU ps v i).2 ds) x s):=by
 rw [aU,h]
 dsimp only
 rw [hs]
theorem eT {T:Str->Sx} {x:Str} {s:Sx}:bE T x s x=s:=by unfold bE;rw [if_pos rfl]
theorem jB (L:Lp ps) (v:Int):∀ i,1<=i->1<=(aU ps v i).1/\bg v ((aU ps v i).2 nN).1 ((aU ps v i).2 nN).2=true/\Rg ((aU ps v i).2 nN)
 | 0,h=>absurd h (by decide)
 | 1,_=>by
  obtain⟨ds,h0,hb⟩:=L.first
  rw [gR (v:=v) (i:=0) (show ps[(aU ps v 0).1]? = some (ds,.go 1) from h0)]
  refine⟨Nat.le_refl 1,?_,?_⟩
  ·show bg v (aw (aU ps v 0).2 ds nN).1 (aw (aU ps v 0).2 ds nN).2=true
   rw [hb];rfl
  ·show Rg (aw (aU ps v 0).2 ds nN)
   rw [hb]
   exact⟨fun a h=>(by cases h),fun a h=>(by cases h)⟩
 | i+2,_=>by
  obtain⟨h1,h2,h3⟩:=jB L v (i+1) (Nat.succ_le_succ (Nat.zero_le i))
  cases hp:ps[(aU ps v (i+1)).1]? with
  | none=>rw [kF hp];exact⟨h1,h2,h3⟩
  | some pc =>
   obtain⟨ds,e⟩:=pc
   have hq:=L.quiet _ _ h1 hp (aU ps v (i+1)).2
   have hq:aw (aU ps v (i+1)).2 ds nN=(aU ps v (i+1)).2 nN:=hq
   cases e with
   | stop=>rw [kG hp];exact⟨h1,h2,h3⟩
   | go q =>
    rw [gR hp]
    have:=(L.fwd _ _ hp q (List.mem_singleton.mpr rfl)).1
    refine⟨by show 1<=q;omega,?_,?_⟩
    ·show bg v (aw (aU ps v (i+1)).2 ds nN).1 (aw (aU ps v (i+1)).2 ds nN).2=true
     rw [hq];exact h2
    ·show Rg (aw (aU ps v (i+1)).2 ds nN)
     rw [hq];exact h3
   | bL b x t q r =>
    obtain⟨rfl,rfl,t1,t2⟩:=L.tests _ _ _ _ _ _ _ hp
    obtain⟨s,hs,hin⟩:=mX (b:=true) (n:=t) (u:=v) (lo:=(aw (aU ps v (i+1)).2 ds nN).1) (hi:=(aw (aU ps v (i+1)).2 ds nN).2) (by rw [hq];exact h2)
    rw [jK hp hs]
    have hw:∀ k ∈ [q,r],1<=k:=fun k hk=>by have:=(L.fwd _ _ hp k hk).1;omega
    refine⟨?_,?_,?_⟩
    ·show 1<=if gK true v t=true then q else r
     split
     ·exact hw q (by simp)
     ·exact hw r (by simp)
    ·show bg v (bE (aw (aU ps v (i+1)).2 ds) nN s nN).1 (bE (aw (aU ps v (i+1)).2 ds) nN s nN).2=true
     rw [eT];exact hin
    ·show Rg (bE (aw (aU ps v (i+1)).2 ds) nN s nN)
     rw [eT]
     rw [hq] at hs
     exact h3.part ⟨t1,t2⟩ hs
theorem vQ (L:Lp ps) {v:Int} {i:Nat} (h:(aU ps v i).1=0):i=0:=by
 cases i with
 | zero=>rfl
 | succ i=>have:=(jB L v (i+1) (Nat.succ_le_succ (Nat.zero_le i))).1;omega
theorem nW (L:Lp ps) {v v':Int}:∀ i,1<=(aU ps v i).1->bg v' ((aU ps v i).2 nN).1 ((aU ps v i).2 nN).2=true->aU ps v' i=aU ps v i
 | 0,h,_=>absurd h (by show ¬ 1<=0;decide)
 | i+1,h,hl=>by
  have ih:=nW L (v:=v) (v':=v') i
  by_cases h0:(aU ps v i).1=0
  ·have:=vQ L h0
   subst this
   obtain⟨ds,f0,hb⟩:=L.first
   rw [gR (v:=v) (i:=0) (show ps[(aU ps v 0).1]? = some (ds,.go 1) from f0),gR (v:=v') (i:=0) (show ps[(aU ps v' 0).1]? = some (ds,.go 1) from f0)]
   rfl
  ·have h1:1<=(aU ps v i).1:=by omega
   cases hp:ps[(aU ps v i).1]? with
   | none =>
    rw [kF hp] at hl ⊢
    have e:=ih h1 hl
    rw [<-e] at hp
    rw [kF hp,e]
   | some pc =>
    obtain⟨ds,e⟩:=pc
    have hq:aw (aU ps v i).2 ds nN=(aU ps v i).2 nN:=L.quiet _ _ h1 hp (aU ps v i).2
    cases e with
    | stop =>
     rw [kG hp] at hl ⊢
     have e:=ih h1 hl
     rw [<-e] at hp
     rw [kG hp,e]
    | go q =>
     rw [gR hp] at hl ⊢
     have hl:bg v' (aw (aU ps v i).2 ds nN).1 (aw (aU ps v i).2 ds nN).2=true:=hl
     rw [hq] at hl
     have e:=ih h1 hl
     rw [<-e] at hp
     rw [gR hp,e]
    | bL b x t q r =>
     obtain⟨rfl,rfl,t1,t2⟩:=L.tests _ _ _ _ _ _ _ hp
     have hi1:1<=i:=by
      cases i with
      | zero=>exact absurd rfl h0
      | succ i=>exact Nat.succ_le_succ (Nat.zero_le i)
     obtain⟨_,hv,_⟩:=jB L v i hi1
     obtain⟨s,hs,hin⟩:=mX (b:=true) (n:=t) (u:=v) (lo:=(aw (aU ps v i).2 ds nN).1) (hi:=(aw (aU ps v i).2 ds nN).2) (by rw [hq];exact hv)
     rw [jK hp hs] at hl ⊢
     have hl:bg v' (bE (aw (aU ps v i).2 ds) nN s nN).1 (bE (aw (aU ps v i).2 ds) nN s nN).2=true:=hl
     rw [eT] at hl
     obtain⟨g1,g2⟩:=(kC (u:=v') hs).mp hl
     rw [hq] at g1
     have e:=ih h1 g1
     have ea:gK true v' t=gK true v t:=g2
     have hp':=hp
     rw [<-e] at hp'
     rw [jK (s:=s) hp' (by rw [e,ea];exact hs),e,ea]
def Good (ps:List Piece) (c:Cp):Prop:=∃ i v,v ∈ v8/\aU ps v i=c/\i<=c.1/\c.1 < ps.length
theorem Good.lead (L:Lp ps) {c l:Cp} {pc:Piece} (h:Good ps c) (hp:ps[c.1]? = some pc) (hl:l ∈ bT (aw c.2 pc.1) pc.2):Good ps l:=by
 obtain⟨i,v,hv,rfl,hi,hlt⟩:=h
 obtain⟨ds,e⟩:=pc
 cases e with
 | stop=>cases hl
 | go q =>
  have hq:=L.fwd _ _ hp q (List.mem_singleton.mpr rfl)
  have:l=(q,aw (aU ps v i).2 ds):=List.mem_singleton.mp hl
  subst this
  exact⟨i+1,v,hv,gR hp,by show i+1<=q;omega,hq.2⟩
 | bL b x t q r =>
  obtain⟨rfl,rfl,t1,t2⟩:=L.tests _ _ _ _ _ _ _ hp
  have h0:(aU ps v i).1 ≠ 0:=fun z=>by
   obtain⟨ds0,f0,_⟩:=L.first
   rw [z,f0] at hp
   cases hp
  have h1:1<=(aU ps v i).1:=by omega
  have hi1:1<=i:=by
   cases i with
   | zero=>exact absurd rfl h0
   | succ i=>exact Nat.succ_le_succ (Nat.zero_le i)
  obtain⟨_,hv',hrg⟩:=jB L v i hi1
  have hq:aw (aU ps v i).2 ds nN=(aU ps v i).2 nN:=L.quiet _ _ h1 hp (aU ps v i).2
  have key:∀ side k s,bW (aw (aU ps v i).2 ds) true nN t side=some s->k=(if side=true then q else r)->l=(k,bE (aw (aU ps v i).2 ds) nN s)->Good ps l:=fun side k s hs hk hl=>by
   have hs':cO (wT true) (aw (aU ps v i).2 ds nN).1 (aw (aU ps v i).2 ds nN).2 t side=some s:=hs
   have hs2:=hs'
   rw [hq] at hs2
   obtain⟨u,hu,hus⟩:=(hrg.part ⟨t1,t2⟩ hs2).pick (jJ (qZ hv') hs2)
   obtain⟨g1,g2⟩:=(kC (u:=u) hs2).mp hus
   have e:=nW L i h1 g1
   have ea:gK true u t=side:=g2
   have hp':=hp
   rw [<-e] at hp'
   have hst:=jK (s:=s) hp' (by rw [e,ea];exact hs)
   have hkm:k ∈ [q,r]:=by rw [hk];split <;> simp
   have hf:=L.fwd _ _ hp k hkm
   subst hl
   refine⟨i+1,u,hu,?_,by show i+1<=k;omega,hf.2⟩
   rw [hst,e,ea,hk]
  rw [pP] at hl
  rcases List.mem_append.mp hl with hl | hl
  ·cases e1:bW (aw (aU ps v i).2 ds) true nN t true with
   | none=>rw [show (ds,L2.End.bL true nN t q r).1=ds from rfl,e1] at hl;cases hl
   | some s=>rw [show (ds,L2.End.bL true nN t q r).1=ds from rfl,e1] at hl;exact key true q s e1 rfl (List.mem_singleton.mp hl)
  ·cases e1:bW (aw (aU ps v i).2 ds) true nN t false with
   | none=>rw [show (ds,L2.End.bL true nN t q r).1=ds from rfl,e1] at hl;cases hl
   | some s=>rw [show (ds,L2.End.bL true nN t q r).1=ds from rfl,e1] at hl;exact key false r s e1 rfl (List.mem_singleton.mp hl)
theorem pR (L:Lp ps) {cs:List Cp} (nd:cs.Nodup) (h:∀ c ∈ cs,Good ps c):cs.length<=176:=by
 have hl:((List.range 22).flatMap fun i=>v8.map fun v=>aU ps v i).length=176:=by
  rw [List.length_flatMap]
  simp [v8]
  decide
 rw [<-hl]
 refine sub_len nd fun c hc=>?_
 obtain⟨i,v,hv,e,h1,h2⟩:=h c hc
 have:=L.len
 exact List.mem_flatMap.mpr ⟨i,List.mem_range.mpr (by omega),List.mem_map.mpr ⟨v,hv,e⟩⟩
theorem xE {cs:List Cp} {c:Cp} (h:cs.Nodup):(LS.putIn cs c).Nodup:=by
 unfold LS.putIn
 split
 ·exact h
 ·rename_i hm
  rw [List.nodup_append]
  refine⟨h,by simp,fun x hx y hy z=>?_⟩
  rw [List.mem_singleton.mp hy] at z
  exact hm (z ▸ hx)
theorem kH (L:Lp ps) (k:Nat):¬ ba ps k:=by
 rintro⟨i,ds,e,_,h1,h2,h3⟩
 have:=(L.fwd _ _ h1 k h2).1
 omega
theorem good_add (L:Lp ps):∀ {ls cs:List Cp} {ns:List Nat},cs.Nodup->(∀ c ∈ cs,Good ps c)->(∀ l ∈ ls,Good ps l)->(ls.foldl (cF (ba ps) 300) (cs,ns)).1.Nodup/\∀ c ∈ (ls.foldl (cF (ba ps) 300) (cs,ns)).1,Good ps c
 | [],cs,ns,h1,h2,_=>⟨h1,h2⟩
 | l :: ls,cs,ns,h1,h2,h3=>by
  have e0:(l :: ls).foldl (cF (ba ps) 300) (cs,ns)=ls.foldl (cF (ba ps) 300) (LS.putIn cs (aK (ba ps) 300 cs l),ns ++ [(LS.putIn cs (aK (ba ps) 300 cs l)).idxOf (aK (ba ps) 300 cs l)]):=rfl
  have hf:=pR L h1 h2
  have ec:aK (ba ps) 300 cs l=l:=by
   unfold aK
   rw [if_neg (kH L l.1),if_pos (.inr (by omega))]
  rw [e0,ec]
  refine good_add L (xE h1) (fun c hc=>?_) fun c hc=>h3 c (List.mem_cons_of_mem _ hc)
  rcases LS.dZ.mp hc with z | z
  ·exact h2 c z
  ·rw [z];exact h3 l (List.mem_cons_self ..)
theorem nX (L:Lp ps):∀ (fu:Nat) {cs:List Cp} {outs:List Piece},cs.Nodup->(∀ c ∈ cs,Good ps c)->(cY (ba ps) 300 ps fu cs outs).1.Nodup/\∀ c ∈ (cY (ba ps) 300 ps fu cs outs).1,Good ps c
 | 0,cs,outs,h1,h2=>⟨h1,h2⟩
 | fu+1,cs,outs,h1,h2=>by
  cases hc:cs[outs.length]? with
  | none=>rw [hX hc];exact⟨h1,h2⟩
  | some c =>
   have hg:=h2 c (List.mem_of_getElem? hc)
   have hcl:c.1 < ps.length:=by obtain⟨_,_,_,_,_,h⟩:=hg;exact h
   have hps:ps[c.1]? = some ps[c.1]:=by simp [hcl]
   rw [fX hc hps]
   obtain⟨k1,k2⟩:=good_add L (ls:=bT (aw c.2 ps[c.1].1) ps[c.1].2) (ns:=[]) h1 h2 fun l hl=>hg.lead L hps hl
   exact nX L fu k1 k2
theorem vR (L:Lp ps):(∀ c ∈ (eN ps 300).1,Good ps c)/\(eN ps 300).1.length < 300:=by
 have e:eS ps=(0,startT ps):=by unfold eS;rw [if_neg (kH L 0)]
 have h:=nX L (300+ps.length) (cs:=[eS ps]) (outs:=[]) (by simp) fun c hc=>by
  rw [List.mem_singleton.mp hc,e]
  exact⟨0,0,by decide,rfl,Nat.le_refl 0,L.pos⟩
 exact⟨h.2,Nat.lt_of_le_of_lt (pR L h.1 h.2) (by decide)⟩
open Classical in
noncomputable def dJ (c:Cp) (u:Int):Bool:=if c.1=0 then true else bg u (c.2 nN).1 (c.2 nN).2
def bX:List Int:=j9 (-9) 19
theorem sA {u:Int} (h1:-9<=u) (h2:u<=9):u ∈ bX:=List.mem_map.mpr ⟨(u+9).toNat,List.mem_range.mpr (by omega),by omega⟩
theorem dy {c:Cp} {u:Int} (h:c.1 ≠ 0):dJ c u=bg u (c.2 nN).1 (c.2 nN).2:=by unfold dJ;rw [if_neg h]
theorem vS (L:Lp ps) {outs:List Piece} {cs:List Cp} (fr:sy ps outs cs) (hg:∀ c ∈ cs,Good ps c) {j:Nat} {c:Cp} {p:Piece} (hc:cs[j]? = some c) (ho:outs[j]? = some p) {num:Int} (hn:dJ c num=true) :
  match p.2 with
  | .stop=>True
  | .go k=>∃ c',cs[k]? = some c'/\dJ c' = dJ c
  | .bL _ _ t k1 k2=>(∃ u ∈ bX,dJ c u=true/\u < t)/\(∃ u ∈ bX,dJ c u=true/\¬ u < t)/\∃ c',cs[if num < t then k1 else k2]? = some c'/\dJ c' = fun u=>dJ c u && (decide (u < t) == decide (num < t)):=by
 obtain⟨c2,pc,ns,f1,f2,rfl,f4,f5⟩:=fr.2 j p ho
 rw [hc] at f1
 cases f1
 have hgc:=hg c (List.mem_of_getElem? hc)
 obtain⟨ds,e⟩:=pc
 have nh:=kH L
 cases e with
 | stop =>
  cases f5
  exact True.intro
 | go q =>
  have hq:=(L.fwd _ _ f2 q (List.mem_singleton.mpr rfl)).1
  cases f5 with
  | cons r t =>
   cases t
   obtain⟨c',g1,g2,g3⟩:=r
   have g2:c'.1=q:=g2
   have g3:c'.2=aw c.2 ds:=g3 (nh _)
   refine⟨c',g1,?_⟩
   funext u
   rw [dy (by omega),g3]
   by_cases h0:c.1=0
   ·obtain⟨ds0,z0,zb⟩:=L.first
    rw [h0,z0] at f2
    cases f2
    rw [zb]
    unfold dJ
    rw [if_pos h0]
    rfl
   ·rw [dy h0,show aw c.2 ds nN=c.2 nN from L.quiet _ _ (by omega) f2 c.2]
 | bL b x t q r =>
  obtain⟨rfl,rfl,t1,t2⟩:=L.tests _ _ _ _ _ _ _ f2
  have h0:c.1 ≠ 0:=fun z=>by
   obtain⟨ds0,z0,_⟩:=L.first
   rw [z,z0] at f2
   cases f2
  have hw:∀ k ∈ [q,r],k ≠ 0:=fun k hk=>by have:=(L.fwd _ _ f2 k hk).1;omega
  have hq:aw c.2 ds nN=c.2 nN:=L.quiet _ _ (by omega) f2 c.2
  have hrg:Rg (c.2 nN):=by
   obtain⟨i,v,hv,e,h1,h2⟩:=hgc
   have hi1:1<=i:=by
    cases i with
    | zero=>rw [<-e] at h0;exact absurd rfl h0
    | succ i=>exact Nat.succ_le_succ (Nat.zero_le i)
   rw [<-e]
   exact (jB L v i hi1).2.2
  rw [dy h0] at hn
  have hle:=qZ hn
  have pin:∀ u,bg u (c.2 nN).1 (c.2 nN).2=true->∃ s,bW (aw c.2 ds) true nN t (decide (u < t))=some s:=fun u hu=>by
   obtain⟨s,hs,_⟩:=mX (b:=true) (n:=t) (u:=u) (lo:=(aw c.2 ds nN).1) (hi:=(aw c.2 ds nN).2) (by rw [hq];exact hu)
   exact⟨s,hs⟩
  have pls:∀ {side:Bool} {s:Sx} (u:Int),bW (aw c.2 ds) true nN t side=some s->(bg u s.1 s.2=true ↔ bg u (c.2 nN).1 (c.2 nN).2=true/\decide (u < t)=side):=fun {side s} u hs=>by
   have:=kC (u:=u) hs
   rw [hq] at this
   exact this
  rw [pP] at f5
  have f5:Paired (fun (l:Cp) k=>∃ c':Cp,cs[k]? = some c'/\c'.1=l.1/\(¬ ba ps l.1->c'.2=l.2)) (((bW (aw c.2 ds) true nN t true).map fun s=>(q,bE (aw c.2 ds) nN s)).toList++((bW (aw c.2 ds) true nN t false).map fun s=>(r,bE (aw c.2 ds) nN s)).toList) ns:=f5
  have one:∀ {side:Bool} {s:Sx} {k kk:Nat},bW (aw c.2 ds) true nN t side=some s->bW (aw c.2 ds) true nN t (!side)=none->kk ∈ [q,r]->(∃ c':Cp,cs[k]? = some c'/\c'.1=kk/\(¬ ba ps kk->c'.2=bE (aw c.2 ds) nN s))->∃ c',cs[k]? = some c'/\dJ c' = dJ c:=fun {side s k kk} hs hno hk ⟨c',g1,g2,g3⟩=>by
   refine⟨c',g1,?_⟩
   funext u
   rw [dy (by rw [g2];exact hw kk hk),dy h0,g3 (nh _),eT]
   rw [Bool.eq_iff_iff,pls u hs]
   refine⟨fun h=>h.1,fun h=>⟨h,?_⟩⟩
   obtain⟨s',hs'⟩:=pin u h
   cases hd:decide (u < t) == side with
   | true=>exact eq_of_beq hd
   | false =>
    have:decide (u < t) = !side:=by
     cases side <;> cases h2:decide (u < t) <;> rw [h2] at hd <;> first | rfl | cases hd
    rw [this,hno] at hs'
    cases hs'
  cases e1:bW (aw c.2 ds) true nN t true with
  | none =>
   cases e2:bW (aw c.2 ds) true nN t false with
   | none =>
    obtain⟨s,hs⟩:=pin num hn
    cases hd:decide (num < t) <;> rw [hd] at hs
    ·rw [e2] at hs;cases hs
    ·rw [e1] at hs;cases hs
   | some s2 =>
    rw [e1,e2] at f5
    cases f5 with
    | cons r1 tt =>
     cases tt
     exact one (side:=false) e2 e1 (by simp) r1
  | some s1 =>
   cases e2:bW (aw c.2 ds) true nN t false with
   | none =>
    rw [e1,e2] at f5
    cases f5 with
    | cons r1 tt =>
     cases tt
     exact one (side:=true) e1 e2 (by simp) r1
   | some s2 =>
    rw [e1,e2] at f5
    cases f5 with
    | cons r1 tt =>
     cases tt with
     | cons r2 tt =>
      cases tt
      have lo1:=jJ (by rw [hq];exact hle) e1
      have lo2:=jJ (by rw [hq];exact hle) e2
      have e1':=e1
      have e2':=e2
      unfold bW at e1' e2'
      rw [hq] at e1' e2'
      obtain⟨u1,hu1,m1⟩:=(hrg.part ⟨t1,t2⟩ e1').pick lo1
      obtain⟨u2,hu2,m2⟩:=(hrg.part ⟨t1,t2⟩ e2').pick lo2
      have b8:∀ u ∈ v8,u ∈ bX:=fun u hu=>by
       have:-4<=u/\u<=3:=by
        simp only [v8,List.mem_cons,List.not_mem_nil,or_false] at hu
        omega
       exact sA (by omega) (by omega)
      obtain⟨i1,d1⟩:=(pls u1 e1).mp m1
      obtain⟨i2,d2⟩:=(pls u2 e2).mp m2
      refine⟨⟨u1,b8 u1 hu1,by rw [dy h0];exact i1,of_decide_eq_true d1⟩,⟨u2,b8 u2 hu2,by rw [dy h0];exact i2,of_decide_eq_false d2⟩,?_⟩
      by_cases hlt:num < t
      ·rw [if_pos hlt]
       obtain⟨c',g1,g2,g3⟩:=r1
       refine⟨c',g1,?_⟩
       funext u
       have g2:c'.1=q:=g2
       have g3:c'.2=bE (aw c.2 ds) nN s1:=g3 (nh _)
       rw [dy (by rw [g2];exact hw q (by simp)),dy h0,g3,eT,Bool.eq_iff_iff,pls u e1,decide_eq_true hlt,Bool.and_eq_true,beq_iff_eq]
      ·rw [if_neg hlt]
       obtain⟨c',g1,g2,g3⟩:=r2
       refine⟨c',g1,?_⟩
       funext u
       have g2:c'.1=r:=g2
       have g3:c'.2=bE (aw c.2 ds) nN s2:=g3 (nh _)
       rw [dy (by rw [g2];exact hw r (by simp)),dy h0,g3,eT,Bool.eq_iff_iff,pls u e2,decide_eq_false hlt,Bool.and_eq_true,beq_iff_eq]
end
def kJ (k:Nat) (t:Int):Piece:=([.tell nN],.bL true nN t (2 * k+2) (2 * k+3))
def mY (k:Nat):Piece:=([.add nM 1],.go (2 * k+3))
def dq:Nat->List Int->List Piece
 | _,[]=>[]
 | k,t :: ts=>kJ k t :: mY k :: dq (k+1) ts
def dQ (ts:List Int):List Piece:=([.read nN],.go 1) :: (dq 0 ts ++ [([.tell nM],.stop)])
theorem nY (t:Int):∀ (k:Nat) (ts:List Int),dq k (ts ++ [t])=dq k ts ++ [kJ (k+ts.length) t,mY (k+ts.length)]
 | k,[]=>rfl
 | k,u :: ts=>by
  show kJ k u :: mY k :: dq (k+1) (ts ++ [t])=_
  rw [nY t (k+1) ts,show k+1+ts.length=k+(u :: ts).length by simp;omega]
  rfl
theorem gS:∀ (k:Nat) (ts:List Int),(dq k ts).length=2 * ts.length
 | _,[]=>rfl
 | k,u :: ts=>by
  show (dq (k+1) ts).length+1+1=_
  rw [gS (k+1) ts]
  simp
  omega
theorem pS:∀ {k:Nat} {ts:List Int} {j:Nat} {pc:Piece},(dq k ts)[j]? = some pc->∃ (i:Nat) (t:Int),ts[i]? = some t/\((j=2 * i/\pc=kJ (k+i) t)\/(j=2 * i+1/\pc=mY (k+i)))
 | k,[],j,pc,h=>by cases h
 | k,t :: ts,0,pc,h=>⟨0,t,rfl,.inl ⟨rfl,(Option.some.inj h).symm⟩⟩
 | k,t :: ts,1,pc,h=>⟨0,t,rfl,.inr ⟨rfl,(Option.some.inj h).symm⟩⟩
 | k,t :: ts,j+2,pc,h=>by
  obtain⟨i,u,h1,h2⟩:=pS (k:=k+1) (ts:=ts) (j:=j) h
  refine⟨i+1,u,h1,?_⟩
  rcases h2 with ⟨rfl,rfl⟩ | ⟨rfl,rfl⟩
  ·exact .inl ⟨by omega,by rw [show k+1+i=k+(i+1) by omega]⟩
  ·exact .inr ⟨by omega,by rw [show k+1+i=k+(i+1) by omega]⟩
theorem jL {ts:List Int} {p:Nat} {pc:Piece} (h:(dQ ts)[p]? = some pc):(p=0/\pc=([.read nN],.go 1))\/(∃ (i:Nat) (t:Int),ts[i]? = some t/\((p=2 * i+1/\pc=kJ i t)\/(p=2 * i+2/\pc=mY i)))\/(p=2 * ts.length+1/\pc=([.tell nM],.stop)):=by
 cases p with
 | zero=>exact .inl ⟨rfl,(Option.some.inj h).symm⟩
 | succ p =>
  have h:(dq 0 ts ++ [([bP.tell nM],L2.End.stop)])[p]? = some pc:=h
  by_cases hl:p < (dq 0 ts).length
  ·rw [List.getElem?_append_left hl] at h
   obtain⟨i,t,h1,h2⟩:=pS h
   refine .inr (.inl ⟨i,t,h1,?_⟩)
   rw [Nat.zero_add] at h2
   rcases h2 with ⟨rfl,rfl⟩ | ⟨rfl,rfl⟩
   ·exact .inl ⟨rfl,rfl⟩
   ·exact .inr ⟨rfl,rfl⟩
  ·rw [List.getElem?_append_right (by omega)] at h
   have hp:p - (dq 0 ts).length < 1:=(List.getElem?_eq_some_iff.mp h).1
   rw [show p - (dq 0 ts).length=0 by omega] at h
   have:=gS 0 ts
   exact .inr (.inr ⟨by omega,(Option.some.inj h).symm⟩)
theorem mZ (ts:List Int):(dQ ts).length=2 * ts.length+2:=by
 show (dq 0 ts ++ [([bP.tell nM],L2.End.stop)]).length+1=_
 rw [List.length_append,gS]
 rfl
theorem wK:nN ≠ nM:=by decide +kernel
theorem uD {ts:List Int} (hl:ts.length<=10) (hr:∀ t ∈ ts,-3<=t/\t<=3):Lp (dQ ts):=by
 have len:=mZ ts
 refine⟨by omega,by omega,fun p pc h q hq=>?_,⟨_,rfl,fun T=>?_⟩,fun p pc h1 h T=>?_,fun p ds b x t q r h=>?_⟩
 ·rcases jL h with ⟨rfl,rfl⟩ | ⟨i,t,h1,⟨rfl,rfl⟩ | ⟨rfl,rfl⟩⟩ | ⟨rfl,rfl⟩
  ·rw [List.mem_singleton.mp hq];omega
  ·have hi:i < ts.length:=(List.getElem?_eq_some_iff.mp h1).1
   have:q=2 * i+2\/q=2 * i+3:=by simpa [kJ,aP] using hq
   omega
  ·have hi:i < ts.length:=(List.getElem?_eq_some_iff.mp h1).1
   have:q=2 * i+3:=List.mem_singleton.mp hq
   omega
  ·cases hq
 ·show pE T (.read nN) nN=cP
  unfold pE
  exact eT
 ·rcases jL h with ⟨rfl,rfl⟩ | ⟨i,t,h2,⟨rfl,rfl⟩ | ⟨rfl,rfl⟩⟩ | ⟨rfl,rfl⟩
  ·exact absurd h1 (by decide)
  ·show bE T nN (T nN) nN=T nN
   exact eT
  ·show bE T nM (yK (T nM) 1) nN=T nN
   unfold bE
   rw [if_neg wK]
  ·show bE T nM (T nM) nN=T nN
   unfold bE
   rw [if_neg wK]
 ·rcases jL h with ⟨rfl,e⟩ | ⟨i,t',h2,⟨rfl,e⟩ | ⟨rfl,e⟩⟩ | ⟨rfl,e⟩
  ·cases e
  ·have e2:L2.End.bL b x t q r=.bL true nN t' (2 * i+2) (2 * i+3):=congrArg Prod.snd e
   cases e2
   exact⟨rfl,rfl,hr t (List.mem_of_getElem? h2)⟩
  ·cases e
  ·cases e
theorem yP {ts:List Int} (hr:∀ t ∈ ts,-3<=t/\t<=3):dm [nN,nM] 6 (dQ ts):=by
 have len:=mZ ts
 have key:∀ p ∈ dQ ts,(p.1.length<=6/\∀ d ∈ p.1,iu [nN,nM] d)/\rO [nN,nM] (dQ ts).length p.2:=fun p hp=>by
  obtain⟨j,hj⟩:=List.getElem?_of_mem hp
  rcases jL hj with ⟨rfl,rfl⟩ | ⟨i,t,h1,⟨rfl,rfl⟩ | ⟨rfl,rfl⟩⟩ | ⟨rfl,rfl⟩
  ·exact⟨⟨by show 1<=6;decide,fun d hd=>by rw [List.mem_singleton.mp hd];exact (List.mem_cons_self ..)⟩,by show 1 < _;omega⟩
  ·have hi:i < ts.length:=(List.getElem?_eq_some_iff.mp h1).1
   have ht:=hr t (List.mem_of_getElem? h1)
   exact⟨⟨by show 1<=6;decide,fun d hd=>by rw [List.mem_singleton.mp hd];exact (List.mem_cons_self ..)⟩,⟨List.mem_cons_self ..,by unfold kZ;omega,by omega,by omega⟩⟩
  ·have hi:i < ts.length:=(List.getElem?_eq_some_iff.mp h1).1
   exact⟨⟨by show 1<=6;decide,fun d hd=>by rw [List.mem_singleton.mp hd];exact⟨List.mem_cons_of_mem _ (List.mem_cons_self ..),by unfold kZ;omega⟩⟩,by show 2 * i+3 < _;omega⟩
  ·exact⟨⟨by show 1<=6;decide,fun d hd=>by rw [List.mem_singleton.mp hd];exact List.mem_cons_of_mem _ (List.mem_cons_self ..)⟩,True.intro⟩
 exact⟨fun p hp=>(key p hp).1,fun p hp=>(key p hp).2⟩
theorem zo:∀ x ∈ [nN,nM],ir x:=by
 have h1:ir nN:=⟨by decide +kernel,by decide +kernel,by decide +kernel⟩
 have h2:ir nM:=⟨by decide +kernel,by decide +kernel,by decide +kernel⟩
 intro x hx
 rcases List.mem_cons.mp hx with rfl | hx
 ·exact h1
 ·rw [List.mem_singleton.mp hx];exact h2
def pT:Sp:=fun vs H Q _=>∃ (b:Addr),vs = [.ref b]/\gZ H b/\∀ (plv:V) (ts:List Int) (H':Hp),aN H' plv (fV (dQ ts))->ts.length<=10->(∀ t ∈ ts,-3<=t/\t<=3)->Q plv H'
def m5:Sp:=fun vs H Q _=>∃ (ea:Addr) (e:End) (n:Nat),vs = [.ref ea,.int (n:Nat)]/\H ea=some (.tup (de e))/\(∀ q ∈ aP e,q < n)/\∀ (t:Addr) (H':Hp),H' t=some (.tup (de e))->ah H H'->Q (.ref t) H'
def pU:Sp:=fun vs H Q _=>∃ (ea:Addr) (b:Bool) (x:Str) (t w:Int) (p q:Nat),vs = [.ref ea,.int w]/\H ea=some (.tup (de (.bL b x t p q)))/\Q (.bl (decide (w < t))) H
def kK:Sp:=fun vs H Q _=>∃ (op:Addr) (num:Int) (ovs:List V) (ps outs:List Piece) (cs:List Cp),vs = [.ref op,.int num]/\-9<=num/\num<=9/\H op=some (.tup ovs)/\aV H ovs (outs.map bQ)/\Lp ps/\sy ps outs cs/\outs.length=cs.length/\(∀ c ∈ cs,Good ps c)/\(∃ T,cs[0]? = some (0,T))/\∀ H',ah H H'->Q (.bl true) H'
theorem sC {H:Hp} {v:V} {e:End} (h:aN H v (mC e)):∃ a,v=.ref a/\H a=some (.tup (de e)):=by
 cases e with
 | stop =>
  obtain⟨p,xs,rfl,hp,r⟩:=aN.bM h
  obtain⟨y1,t1,rfl,q1,r⟩:=r.cons_inv
  have z:=r.nil_inv
  subst z
  rw [q1.str_inv] at hp
  exact⟨p,rfl,hp⟩
 | go q =>
  obtain⟨p,xs,rfl,hp,r⟩:=aN.bM h
  obtain⟨y1,t1,rfl,q1,r⟩:=r.cons_inv
  obtain⟨y2,t2,rfl,q2,r⟩:=r.cons_inv
  have z:=r.nil_inv
  subst z
  rw [q1.str_inv,q2.int_inv] at hp
  exact⟨p,rfl,hp⟩
 | bL b x n q q' =>
  obtain⟨p,xs,rfl,hp,r⟩:=aN.bM h
  obtain⟨y1,t1,rfl,q1,r⟩:=r.cons_inv
  obtain⟨y2,t2,rfl,q2,r⟩:=r.cons_inv
  obtain⟨y3,t3,rfl,q3,r⟩:=r.cons_inv
  obtain⟨y4,t4,rfl,q4,r⟩:=r.cons_inv
  obtain⟨y5,t5,rfl,q5,r⟩:=r.cons_inv
  have z:=r.nil_inv
  subst z
  rw [q1.str_inv,q2.str_inv,q3.int_inv,q4.int_inv,q5.int_inv] at hp
  exact⟨p,rfl,hp⟩
end L2
namespace My
open PySem PySem.Spec PyProof.Rows L2
def top (i:Nat):Stmt:=PySem.Challenge.pw_ledpast_k17_whole_known_tests_told.main.body.getD i (.Pass ⟨0,0,0,0⟩)
structure Bl (mg:Str->Option Value):Prop where
 len:mg "len" = none
 zip:mg "zip" = none
 tuple:mg "tuple" = none
 sorted:mg "sorted" = none
 set:mg "set" = none
 dict:mg "dict" = none
 min:mg "min" = none
 max:mg "max" = none
 range:mg "range" = none
 list:mg "list" = none
 int:mg "int" = none
abbrev cJ:Stmt:=top 6
theorem kL:aO ["thing", "kinds", "wanted"] ["thing", "kinds", "wanted"] (ao cJ):=⟨rfl,rfl,rfl,by decide +kernel,rfl,by decide +kernel,by decide +kernel⟩
abbrev eU:Stmt:=top 8
theorem sD:aO ["end"] ["end"] (ao eU):=⟨rfl,rfl,rfl,by decide +kernel,rfl,by decide +kernel,by decide +kernel⟩
abbrev cR:Stmt:=top 9
theorem lX:aO ["end"] ["end"] (ao cR):=⟨rfl,rfl,rfl,by decide +kernel,rfl,by decide +kernel,by decide +kernel⟩
abbrev ef:Stmt:=top 7
theorem eD:aO ["plan", "names", "deeds", "end", "deed"] ["plan"] (ao ef):=⟨rfl,rfl,rfl,by decide +kernel,rfl,by decide +kernel,by decide +kernel⟩
abbrev eV:Stmt:=top 14
theorem iP:aO ["number", "stretch", "low", "high"] ["number", "stretch"] (ao eV):=⟨rfl,rfl,rfl,by decide +kernel,rfl,by decide +kernel,by decide +kernel⟩
abbrev dz:Stmt:=top 15
theorem eG:aO ["stretch", "number", "low", "high", "top"] ["stretch", "number"] (ao dz):=⟨rfl,rfl,rfl,by decide +kernel,rfl,by decide +kernel,by decide +kernel⟩
abbrev dN:Stmt:=top 16
theorem fk:aO ["stretch", "number", "low", "high", "bottom"] ["stretch", "number"] (ao dN):=⟨rfl,rfl,rfl,by decide +kernel,rfl,by decide +kernel,by decide +kernel⟩
abbrev eW:Stmt:=top 17
theorem sE:aO ["stretch", "number"] ["stretch", "number"] (ao eW):=⟨rfl,rfl,rfl,by decide +kernel,rfl,by decide +kernel,by decide +kernel⟩
abbrev di:Stmt:=top 18
theorem fB:aO ["stretch", "number", "low", "high"] ["stretch", "number"] (ao di):=⟨rfl,rfl,rfl,by decide +kernel,rfl,by decide +kernel,by decide +kernel⟩
abbrev eX:Stmt:=top 19
theorem sF:aO ["stretch", "word", "number", "side"] ["stretch", "word", "number", "side"] (ao eX):=⟨rfl,rfl,rfl,by decide +kernel,rfl,by decide +kernel,by decide +kernel⟩
abbrev eh:Stmt:=top 22
theorem qf:aO ["stretches"] ["stretches"] (ao eh):=⟨rfl,rfl,rfl,by decide +kernel,rfl,by decide +kernel,by decide +kernel⟩
abbrev gg:Stmt:=top 23
theorem vT:aO ["facts", "name"] ["facts", "name"] (ao gg):=⟨rfl,rfl,rfl,by decide +kernel,rfl,by decide +kernel,by decide +kernel⟩
abbrev dA:Stmt:=top 24
theorem iW:aO ["facts", "name", "stretch", "stretches"] ["facts", "name", "stretch"] (ao dA):=⟨rfl,rfl,rfl,by decide +kernel,rfl,by decide +kernel,by decide +kernel⟩
abbrev gh:Stmt:=top 25
theorem kM:aO ["stretch", "number", "low", "high"] ["stretch", "number"] (ao gh):=⟨rfl,rfl,rfl,by decide +kernel,rfl,by decide +kernel,by decide +kernel⟩
abbrev cA:Stmt:=top 26
theorem fS:aO ["stretches", "deed", "word", "name"] ["stretches", "deed"] (ao cA):=⟨rfl,rfl,rfl,by decide +kernel,rfl,by decide +kernel,by decide +kernel⟩
abbrev fC:Stmt:=top 27
theorem jC:aO ["facts", "deeds", "stretches", "deed"] ["facts", "deeds"] (ao fC):=⟨rfl,rfl,rfl,by decide +kernel,rfl,by decide +kernel,by decide +kernel⟩
abbrev cS:Stmt:=top 28
theorem cq:aO ["facts", "end", "ways", "word", "name", "number", "stretch", "parts"] ["facts", "end"] (ao cS):=⟨rfl,rfl,rfl,by decide +kernel,rfl,by decide +kernel,by decide +kernel⟩
abbrev gi:Stmt:=top 29
theorem pV:aO ["facts", "end", "beyond"] ["facts", "end"] (ao gi):=⟨rfl,rfl,rfl,by decide +kernel,rfl,by decide +kernel,by decide +kernel⟩
abbrev gm:Stmt:=top 30
theorem vU:aO ["plan"] ["plan"] (ao gm):=⟨rfl,rfl,rfl,by decide +kernel,rfl,by decide +kernel,by decide +kernel⟩
abbrev cT:Stmt:=inClass (top 10) 0
theorem lY:aO ["self", "first"] ["self", "first"] (ao cT):=⟨rfl,rfl,rfl,by decide +kernel,rfl,by decide +kernel,by decide +kernel⟩
abbrev cU:Stmt:=inClass (top 10) 1
theorem lZ:aO ["self", "thing"] ["self", "thing"] (ao cU):=⟨rfl,rfl,rfl,by decide +kernel,rfl,by decide +kernel,by decide +kernel⟩
abbrev eY:Stmt:=top 11
theorem fm:aO ["plan", "found", "waiting", "at", "way"] ["plan"] (ao eY):=⟨rfl,rfl,rfl,by decide +kernel,rfl,by decide +kernel,by decide +kernel⟩
abbrev gn:Stmt:=top 12
theorem iQ:aO ["plan", "found", "at", "way"] ["plan"] (ao gn):=⟨rfl,rfl,rfl,by decide +kernel,rfl,by decide +kernel,by decide +kernel⟩
abbrev en:Stmt:=top 33
theorem kc:aO ["lead", "tops", "places", "most", "piece"] ["lead", "tops", "places", "most"] (ao en):=⟨rfl,rfl,rfl,by decide +kernel,rfl,by decide +kernel,by decide +kernel⟩
abbrev fD:Stmt:=top 34
theorem uE:aO ["end", "ways"] ["end", "ways"] (ao fD):=⟨rfl,rfl,rfl,by decide +kernel,rfl,by decide +kernel,by decide +kernel⟩
abbrev er:Stmt:=top 35
theorem cf:aO ["plan", "most", "tops", "copies", "pieces", "piece", "facts", "deeds", "end", "ahead", "ways"] ["plan", "most"] (ao er):=⟨rfl,rfl,rfl,by decide +kernel,rfl,by decide +kernel,by decide +kernel⟩
abbrev eZ:Stmt:=top 37
theorem iR:aO ["script", "k", "cell"] ["script", "k"] (ao eZ):=⟨rfl,rfl,rfl,by decide +kernel,rfl,by decide +kernel,by decide +kernel⟩
abbrev eu:Stmt:=top 38
theorem kd:aO ["bag", "many", "found"] ["bag", "many"] (ao eu):=⟨rfl,rfl,rfl,by decide +kernel,rfl,by decide +kernel,by decide +kernel⟩
abbrev e6:Stmt:=top 41
theorem sG:aO ["end", "worth"] ["end", "worth"] (ao e6):=⟨rfl,rfl,rfl,by decide +kernel,rfl,by decide +kernel,by decide +kernel⟩
abbrev eB:Stmt:=top 40
theorem qg:aO ["end", "count"] ["end", "count"] (ao eB):=⟨rfl,rfl,rfl,by decide +kernel,rfl,by decide +kernel,by decide +kernel⟩
abbrev e7:Stmt:=top 39
theorem fo:aO ["bag", "many", "pieces", "k", "count"] ["bag"] (ao e7):=⟨rfl,rfl,rfl,by decide +kernel,rfl,by decide +kernel,by decide +kernel⟩
abbrev cB:Stmt:=top 42
theorem bG:aO ["other", "number", "left", "place", "k", "end", "yes"] ["other", "number"] (ao cB):=⟨rfl,rfl,rfl,by decide +kernel,rfl,by decide +kernel,by decide +kernel⟩
abbrev fY:Stmt:=top 43
theorem jD:aO ["script", "bag", "plan", "other", "number"] ["script"] (ao fY):=⟨rfl,rfl,rfl,by decide +kernel,rfl,by decide +kernel,by decide +kernel⟩
section
variable {P:Program} {w:World} {K:PySem.W.Frag} {mg:Str->Option Value} {base:Heap}
theorem kN {f:Addr} {fd:FuncData} (F:bY K "parts_of_kind" "parts_of_kind" cJ f fd) (Z:Bl mg)  : br P w K mg base bU 1 f fd ["thing", "kinds", "wanted"] (jF K):=by
 refine F.ok (k:=0) kL (fun vs H Q E h=>?_) (fun cdv A outer s H vs Q E hr h=>?_)
 ·obtain⟨t,s,v0,xs,ks,w,rfl,_⟩:=h
  rfl
 ·obtain⟨t,s,v0,xs,ks,w,rfl,ht,hs,hl,q⟩:=h
  refine⟨_,(au (aF (eJ ["part", "kind"] ["wanted"] [2] rfl (tW rfl Z.zip (aa (ki mH (pv 0) (mw ar) mr) (aa (pv 1) af))) rfl (by decide +kernel) (by decide +kernel) (by decide +kernel) ⟨⟨rfl,.inl rfl,rfl⟩,True.intro⟩ (fun _ _ _ _=>(mB (K:=K) (n:=2) rfl (dG (n:=2) rfl (aZ (aG (i:=0) (show ((["part", "kind"]:List Str)++(["wanted"]:List Str)).Nodup by decide +kernel) rfl (Or.inl rfl) (hf:=Or.inr rfl)) (aZ (aG (i:=1) (show ((["part", "kind"]:List Str)++(["wanted"]:List Str)).Nodup by decide +kernel) rfl (Or.inl rfl) (hf:=Or.inr rfl)) dh))))) (fun _ _ _ _=>(ip (aT cX (pv 1) (pv 2) (bo _)))) (fun _ _ _ _=>(pv 0))))),?_⟩
  refine⟨_,rfl,_,rfl,t,_,rfl,ay.of ht,fun hw=>?_,fun _ p np=>?_⟩
  ·exfalso
   obtain⟨h1,_⟩:=hw
   simp [HT.bC] at h1
  ·have ec:ft (v0 :: xs) (some 1) none=xs:=by simp [ft,HT.bC]
   rw [ec]
   have sp:=ah.new (o:=.tup xs) np
   refine⟨_,rfl,p,s,rfl,⟨_,ay.of ae⟩,⟨_,hs.same sp⟩,fun acc na=>?_⟩
   refine tX (K:=K) (a:=p) (b:=s) (xs:=xs) (ys:=ks.map V.str) (fun i zs τ H'=>∃ (c1 c2:Option V),τ = [c1,c2,some (.str w)]/\zs=hJ w xs ks i/\H' acc=some (.lst zs)/\H' p=some (.tup xs)/\ah H H') ?_ ?_ ?_ ?_
   ·exact⟨none,none,rfl,rfl,ae,ah.new na _ _ ae,sp.trans (ah.new na)⟩
   ·rintro i zs τ H4 hi ⟨c1,c2,rfl,rfl,ha,hp4,s4⟩
    exact⟨ay.of hp4,hs.same s4,ha,rR (by have:=tZ (w:=w) (xs:=xs) (ks:=ks) (i:=i);omega)⟩
   ·rintro i x y zs τ H4 u hx hy hu ⟨c1,c2,rfl,rfl,ha,hp4,s4⟩
    obtain⟨k,rfl,hk⟩:∃ k,y=V.str k/\ks[i]? = some k:=by
     rw [List.getElem?_map] at hy
     cases e:ks[i]? with
     | none=>rw [e] at hy;cases hy
     | some k=>rw [e] at hy;exact⟨k,(Option.some.inj hy).symm,rfl⟩
    have su:=ah.new (o:=.tup [x,.str k]) hu
    refine⟨u,_,rfl,ay.of ae,rfl,_,_,rfl,_,_,rfl,rfl,?_⟩
    refine⟨_,rfl,_,rfl,rfl,_,rfl,?_⟩
    have hn:=rS (w:=w) hx hk
    by_cases hkw:k=w
    ·rw [if_pos hkw] at hn
     refine cG (decide_eq_true (congrArg V.str hkw)) ?_
     refine⟨_,rfl,su _ _ ha,_,_,rfl,hn.symm,ae,?_,?_⟩
     ·rw [av (bH hp4 ha (by intro z;cases z))]
      exact su _ _ hp4
     ·exact (s4.trans su).put (sp.free na)
    ·rw [if_neg hkw,List.append_nil] at hn
     refine bJ (decide_eq_false fun z=>hkw (V.str.inj z)) ?_
     exact⟨_,_,rfl,hn.symm,su _ _ ha,su _ _ hp4,s4.trans su⟩
   ·rintro zs τ H4 ⟨c1,c2,rfl,rfl,ha,hp4,s4⟩
    rw [tY] at ha
    exact q acc H4 ha s4
theorem sH {f:Addr} {fd:FuncData} (F:bY K "ways_on" "ways_on" eU f fd) (Z:Bl mg) {aE s0 s1 s2 s3:Addr} (GE:o4 K mg aE s0 s1 s2 s3) (O_parts_of_kind:Own P w K mg base "parts_of_kind" 1 ["thing", "kinds", "wanted"] (jF K)):br P w K mg base bU 3 f fd ["end"] gN:=by
 refine F.ok (k:=2) sD (fun vs H Q E h=>?_) (fun cdv A outer s H vs Q E hr h=>?_)
 ·obtain⟨ea,e,rfl,_⟩:=h
  rfl
 ·obtain⟨ea,e,rfl,he,q⟩:=h
  refine⟨_,(au (aF (bF bB rfl Z.tuple cy (aa (aR O_parts_of_kind (hr.mono (by decide)) rfl (aa (pv 0) (aa (mJ GE.tab rfl (bf bA (pv 0) ar (fun _ _=>rfl)) (fun _ _=>rfl)) (aa bK af)))) af)))),?_⟩
  obtain⟨xs,ev,hl,hp⟩:=t6 e
  rw [ev] at he
  obtain⟨s,hs,ks⟩:=GE.at_ e
  refine⟨_,rfl,_,rfl,ea,_,0,_,rfl,rfl,ay.of he,fq,_,s,rfl,hs,ea,s,_,xs,kE e, "piece",rfl,he,.inr ks,hl,fun l H1 hl1 s1=>?_⟩
  rw [hp] at hl1
  exact⟨l,_,rfl,.inl ⟨aW.of hl1,fun t ht=>q t _ ae (s1.trans (ah.new ht))⟩⟩
theorem ma {f:Addr} {fd:FuncData} (F:bY K "without_ways" "without_ways" cR f fd) (Z:Bl mg) (O_ways_on:Own P w K mg base "ways_on" 3 ["end"] gN):br P w K mg base bU 4 f fd ["end"] jo:=by
 refine F.ok (k:=3) lX (fun vs H Q E h=>?_) (fun cdv A outer s H vs Q E hr h=>?_)
 ·obtain⟨ea,e,rfl,_⟩:=h
  rfl
 ·obtain⟨ea,e,rfl,he,q⟩:=h
  refine⟨_,(au (aF (ki mH (pv 0) mr (mw (aX fc (aY bb rfl Z.len cD (aa (pv 0) af)) (aY bb rfl Z.len cD (aa (aR O_ways_on (hr.mono (by decide)) rfl (aa (pv 0) af)) af))))))),?_⟩
  refine⟨_,rfl,_,rfl,ea,_,rfl,.inr (ay.of he),_,rfl,ea,e,rfl,he,fun t H1 ht s1=>⟨t,_,rfl,.inr (ay.of ht),_,_,rfl,rfl,?_⟩⟩
  have he1:=s1 _ _ he
  have el:((de e).length:Int) - (((aP e).map fun k=>V.int (k:Nat)).length:Int)=((fi e).length:Nat):=by cases e <;> rfl
  have ec:ft (de e) none (some ((fi e).length:Nat))=fi e:=by
   unfold ft
   rw [HT.oS,HT.qw]
   cases e <;> rfl
  refine⟨_,congrArg V.int el,ea,_,rfl,ay.of he1,fun hw=>?_,fun _ p hp=>?_⟩
  ·unfold ft at ec
   rw [hw.1,hw.2] at ec
   refine q ea H1 ?_ s1
   rw [he1,<-ec]
   simp
  ·rw [ec]
   exact q p _ ae (s1.trans (ah.new hp))
theorem qh {f:Addr} {fd:FuncData} (F:bY K "names_of" "names_of" ef f fd) (Z:Bl mg) {aD d0 d1 d2 d3 d4:Addr} (GD:ou K mg aD d0 d1 d2 d3 d4) {aE s0 s1 s2 s3:Addr} (GE:o4 K mg aE s0 s1 s2 s3) (O_parts_of_kind:Own P w K mg base "parts_of_kind" 1 ["thing", "kinds", "wanted"] (jF K)):br P w K mg base bU 3 f fd ["plan"] jj:=by
 refine F.ok (k:=2) eD (fun vs H Q E h=>?_) (fun cdv A outer s H vs Q E hr h=>?_)
 ·obtain⟨plv,ps,xs,m,rfl,_⟩:=h
  rfl
 ·obtain⟨plv,ps,xs,m,rfl,hp,pok,hx64,hal,q⟩:=h
  refine⟨_,(ai (bu (i:=1) eD.nd rfl (Or.inl rfl) (gC af))
   (ai (fb PassesOwn.never rfl (eC (pv 0)) (dG rfl (aZ (aG (i:=2) eD.nd rfl (Or.inl rfl)) (aZ (aG (i:=3) eD.nd rfl (Or.inl rfl)) dh)))
   (ai (fb PassesOwn.never rfl (eC (pv 2)) (aG (i:=4) eD.nd rfl (Or.inl rfl))
   (au (dM (gW PySem.F.plainAttrs_list PySem.F.slot_list_extend PySem.F.type_list_extend ny (pv 1) (aa (aR O_parts_of_kind (hr.mono (by decide)) rfl (aa (pv 4) (aa (mJ GD.tab rfl (bf bA (pv 4) ar (fun _ _=>rfl)) (fun _ _=>rfl)) (aa bK af)))) af)))))
   (au (dM (gW PySem.F.plainAttrs_list PySem.F.slot_list_extend PySem.F.type_list_extend ny (pv 1) (aa (aR O_parts_of_kind (hr.mono (by decide)) rfl (aa (pv 3) (aa (mJ GE.tab rfl (bf bA (pv 3) ar (fun _ _=>rfl)) (fun _ _=>rfl)) (aa bK af)))) af))))))
   (au (aF (bF bB rfl Z.tuple cy (aa (aY (nZ rfl) rfl Z.sorted hG (aa (bF (uk rfl) rfl Z.set ui (aa (pv 1) af)) af)) af)))))),?_⟩
  obtain⟨pp,vs,rfl,e1,r⟩:=aN.bM hp
  have hl:=r.len
  refine⟨(by show 0<=sizeLine;decide),fun nm nn=>?_⟩
  have s0:=ah.new (o:=.lst []) nn
  have big:∀ (i:Nat) (ys:List Str),ys.length<=4000->(ys.map V.str).length<=sizeLine:=fun i ys h=>by rw [List.length_map];exact Nat.le_trans h (by decide)
  refine⟨_,rfl,pp,rfl,⟨_,ay.of (s0 _ _ e1)⟩,fZ (K:=K) (a:=pp) (xs:=vs) (fun i σ H'=>∃ (u1 u2 u3:Option V),σ = [some (.ref pp),some (.ref nm),u1,u2,u3]/\H' nm=some (.lst ((bh (ps.take i)).map V.str))/\ah H H') ?_ ?_ ?_ ?_⟩
  ·exact⟨_,_,_,rfl,ae,s0⟩
  ·rintro i σ H1 hi ⟨u1,u2,u3,rfl,h1,s1⟩
   exact ay.of (s1 _ _ e1)
  ·rintro i x σ H1 hi ⟨u1,u2,u3,rfl,h1,s1⟩
   have hlt:i < ps.length:=by
    have:=(List.getElem?_eq_some_iff.mp hi).1
    rw [hl,List.length_map] at this
    exact this
   have hpi:ps[i]? = some ps[i]:=by simp [hlt]
   generalize ps[i] = pe at hpi
   obtain⟨ds,e⟩:=pe
   have hnext:=nJ (f:=pNames) hpi
   have hsz:(bh (ps.take (i+1))).length<=4000:=Nat.le_trans (iT (f:=pNames) (i+1)) hal
   have hsz':(bh (ps.take i)).length+((ds.flatMap cN).length+(gO e).length)<=4000:=by
    have z:=congrArg List.length hnext
    unfold bh at hsz ⊢
    rw [z] at hsz
    simp only [List.length_append,pNames] at hsz
    omega
   obtain⟨p',xs',pc,da,ea,ws,ep,e1',el',hx',e2,e3,r3,e4⟩:=gJ hp hpi
   cases ep
   rw [e1] at e1'
   cases e1'
   rw [hi] at hx'
   cases hx'
   refine⟨pc,_,rfl,ay.of (s1 _ _ e2),rfl,_,_,rfl,_,_,rfl,rfl,?_⟩
   refine⟨_,rfl,da,rfl,⟨_,ay.of (s1 _ _ e3)⟩,fZ (K:=K) (a:=da) (xs:=ws) (fun j σ H'=>∃ (u3:Option V),σ = [some (.ref pp),some (.ref nm),some (.ref da),some (.ref ea),u3]/\H' nm=some (.lst ((bh (ps.take i)++(ds.take j).flatMap cN).map V.str))/\ah H H') ?_ ?_ ?_ ?_⟩
   ·exact⟨_,rfl,by simpa using h1,s1⟩
   ·rintro j σ H2 hj ⟨u3',rfl,h2,s2⟩
    exact ay.of (s2 _ _ e3)
   ·rintro j y σ H2 hj ⟨u3',rfl,h2,s2⟩
    have hjl:j < ds.length:=by
     have:=(List.getElem?_eq_some_iff.mp hj).1
     rw [r3.len,List.length_map] at this
     exact this
    have hdj:ds[j]? = some ds[j]:=by simp [hjl]
    generalize ds[j] = dd at hdj
    obtain⟨v,hv,rd⟩:=r3.get (i:=j) (d:=eF dd) (by rw [List.getElem?_map,hdj];rfl)
    rw [hj] at hv
    cases hv
    obtain⟨dp,rfl,hdp⟩:=qF rd
    have hdp2:=s2 _ _ hdp
    obtain⟨zs,ez,hzl,hpk⟩:=r9 dd
    rw [ez] at hdp2
    obtain⟨s,hs,ks⟩:=GD.at_ dd
    have hnj:=nJ (f:=cN) hdj
    have hsj:((ds.take (j+1)).flatMap cN).length<=(ds.flatMap cN).length:=iT (f:=cN) (j+1)
    refine cM ?_
    refine⟨_,rfl,.inl ⟨rfl,_,aW.of h2⟩,_,rfl,_,rfl,dp,_,0,_,rfl,rfl,ay.of hdp2,fq,_,s,rfl,hs,dp,s,_,zs,kD dd, "name",rfl,hdp2,.inr ks,hzl,fun l H3 hl3 s3=>?_⟩
    rw [hpk] at hl3
    have h3:=s3 _ _ h2
    refine⟨nm,l,_,_,rfl,rfl,h3,hl3,?_,?_⟩
    ·rw [List.length_map,List.length_map,List.length_append]
     rw [hnj,List.length_append] at hsj
     exact Nat.le_trans (show _<=4000 by omega) (by decide)
    ·refine⟨_,rfl,?_,(s2.trans s3).put nn⟩
     rw [ae,hnj,<-List.append_assoc];simp only [List.map_append]
   ·rintro σ H2 ⟨u3',rfl,h2,s2⟩
    rw [show ws.length=ds.length by rw [r3.len,List.length_map],List.take_length] at h2
    have e42:=s2 _ _ e4
    obtain⟨zs,ez,hzl,hpk⟩:=sd e
    rw [ez] at e42
    obtain⟨s,hs,ks⟩:=GE.at_ e
    refine⟨_,rfl,.inl ⟨rfl,_,aW.of h2⟩,_,rfl,_,rfl,ea,_,0,_,rfl,rfl,ay.of e42,fq,_,s,rfl,hs,ea,s,_,zs,kE e, "name",rfl,e42,.inr ks,hzl,fun l H3 hl3 s3=>?_⟩
    rw [hpk] at hl3
    have h3:=s3 _ _ h2
    refine⟨nm,l,_,_,rfl,rfl,h3,hl3,?_,?_⟩
    ·rw [List.length_map,List.length_map,List.length_append]
     exact Nat.le_trans (show _<=4000 by omega) (by decide)
    ·refine⟨_,_,_,rfl,?_,(s2.trans s3).put nn⟩
     rw [ae,<-List.map_append]
     unfold bh at hnext ⊢
     rw [hnext]
     simp only [pNames,List.append_assoc]
  ·rintro σ H1 ⟨u1,u2,u3,rfl,h1,s1⟩
   rw [show vs.length=ps.length by rw [hl,List.length_map],List.take_length] at h1
   have hk:aW K H1 nm (((bh ps).map (Sum.inr:Str->Key)).map kV):=by rw [xr];exact aW.of h1
   refine⟨_,rfl,nm,(bh ps).map Sum.inr,rfl,hk,(by rw [List.length_map];show _+1 < 4096;omega),fun sa hsa=>?_⟩
   have hf:=vC pok
   refine⟨sa,LS.cH (bh ps),rfl,(by rw [ae,se]),(by omega),fun l ss hperm hsort hn=>?_⟩
   have s2:=ah.new (o:=bR P w sa (LS.cH ((bh ps).map (Sum.inr:Str->Key)))) hsa
   refine⟨l,_,rfl,.inl ⟨aW.of ae,fun t ht=>?_⟩⟩
   exact q t ss _ ae hperm hsort (by rw [hperm.length_eq];omega) (((s1.trans s2).trans (ah.new hn)).trans (ah.new ht))
theorem sI {f:Addr} {fd:FuncData} (F:bY K "lies_in" "lies_in" eV f fd) (Z:Bl mg)  : br P w K mg base bU 1 f fd ["number", "stretch"] (mQ K):=by
 refine F.ok (k:=0) iP (fun vs H Q E h=>?_) (fun cdv A outer s H vs Q E hr h=>?_)
 ·obtain⟨n,q,lo,hi,rfl,_⟩:=h
  rfl
 ·obtain⟨n,q,lo,hi,rfl,hq,k⟩:=h
  refine⟨_,(ai (dX (pv 1) (dG rfl (aZ (aG (i:=2) iP.nd rfl (Or.inl rfl)) (aZ (aG (i:=3) iP.nd rfl (Or.inl rfl)) dh))))
   (au (aF (xP (v9 (sW (gu (pv 2))) (oJ (mn rm (pv 2) (pv 0) (bo _)))) (oJ (v9 (sW (gu (pv 3))) (oJ (mn rm (pv 0) (pv 3) (bo _))))))))),?_⟩
  refine⟨_,rfl,q,_,rfl,hq,rfl,_,_,rfl,_,_,rfl,rfl,?_⟩
  cases lo with
  | none =>
   refine⟨_,rfl,_,rfl,cu ⟨_,rfl,cu ?_⟩⟩
   cases hi with
   | none=>exact⟨_,rfl,_,rfl,cu k⟩
   | some b =>
    refine⟨_,rfl,_,rfl,cC ⟨_,rfl,_,rfl,_,_,rfl,rfl,?_⟩⟩
    simpa only [bg,Bool.true_and] using k
  | some a =>
   refine⟨_,rfl,_,rfl,cC ⟨_,rfl,_,rfl,_,_,rfl,rfl,_,rfl,?_⟩⟩
   cases hx:decide (a<=n) with
   | false=>exact cC (by have k':=k;simp only [bg,hx,Bool.false_and] at k';exact k')
   | true =>
    refine cu ?_
    cases hi with
    | none=>exact⟨_,rfl,_,rfl,cu (by have k':=k;simp only [bg,hx,Bool.true_and] at k';exact k')⟩
    | some b =>
     refine⟨_,rfl,_,rfl,cC ⟨_,rfl,_,rfl,_,_,rfl,rfl,?_⟩⟩
     have k':=k
     simp only [bg,hx,Bool.true_and] at k'
     exact k'
theorem oh {f:Addr} {fd:FuncData} (F:bY K "part_below" "part_below" dz f fd) (Z:Bl mg)  : br P w K mg base bU 1 f fd ["stretch", "number"] (fP K du):=by
 refine F.ok (k:=0) eG (fun vs H Q E h=>?_) (fun cdv A outer s H vs Q E hr h=>?_)
 ·obtain⟨p,n,lo,hi,rfl,_⟩:=h
  rfl
 ·obtain⟨p,n,lo,hi,rfl,hp,q⟩:=h
  refine⟨_,(ai (dX (pv 0) (dG rfl (aZ (aG (i:=2) eG.nd rfl (Or.inl rfl)) (aZ (aG (i:=3) eG.nd rfl (Or.inl rfl)) dh))))
   (ai (bu (i:=4) eG.nd rfl (Or.inl rfl) (dW (fG (gu (pv 3))) (aX fc (pv 1) ar) (aY (fJ rfl) rfl Z.min ja (aa (pv 3) (aa (aX fc (pv 1) ar) af)))))
   (ai (bO (PW.pt (oH (fG (mj (pv 2))) (ml (aT om (pv 2) (pv 4) (bo _)))))
   (au (aF gr))
   bp)
   (au (aF (aQ (aa (pv 2) (aa (pv 4) af)))))))),?_⟩
  refine⟨_,rfl,p,_,rfl,hp,rfl,_,_,rfl,_,_,rfl,rfl,?_⟩
  cases hi with
  | none =>
   refine⟨_,rfl,_,rfl,cu ⟨_,rfl,_,_,rfl,rfl,?_⟩⟩
   cases lo with
   | none =>
    refine⟨_,rfl,_,rfl,cC (cC ⟨_,rfl,_,rfl,ln2,fun l hl=>?_⟩)⟩
    exact q _ _ ⟨l,rfl,ae⟩ (ah.new hl)
   | some i =>
    refine⟨_,rfl,_,rfl,cu ⟨_,rfl,_,rfl,_,_,rfl,rfl,_,rfl,?_⟩⟩
    refine eI (fun hc=>?_) (fun hc=>?_)
    ·have hlt:eL none n < i:=of_decide_eq_true hc
     exact q _ _ (by simp only [du];rw [if_pos hlt];rfl) (ah.refl H)
    ·have hlt:¬ eL none n < i:=fun z=>hc (decide_eq_true z)
     refine⟨_,rfl,_,rfl,ln2,fun l hl=>?_⟩
     exact q _ _ (by simp only [du];rw [if_neg hlt];exact⟨l,rfl,ae⟩) (ah.new hl)
  | some j =>
   refine⟨_,rfl,_,rfl,cC ⟨_,rfl,_,rfl,_,_,rfl,rfl,_,_,rfl,?_⟩⟩
   cases lo with
   | none =>
    refine⟨_,rfl,_,rfl,cC (cC ⟨_,rfl,_,rfl,ln2,fun l hl=>?_⟩)⟩
    exact q _ _ ⟨l,rfl,ae⟩ (ah.new hl)
   | some i =>
    refine⟨_,rfl,_,rfl,cu ⟨_,rfl,_,rfl,_,_,rfl,rfl,_,rfl,?_⟩⟩
    refine eI (fun hc=>?_) (fun hc=>?_)
    ·have hlt:eL (some j) n < i:=of_decide_eq_true hc
     exact q _ _ (by simp only [du];rw [if_pos hlt];rfl) (ah.refl H)
    ·have hlt:¬ eL (some j) n < i:=fun z=>hc (decide_eq_true z)
     refine⟨_,rfl,_,rfl,ln2,fun l hl=>?_⟩
     exact q _ _ (by simp only [du];rw [if_neg hlt];exact⟨l,rfl,ae⟩) (ah.new hl)
theorem pW {f:Addr} {fd:FuncData} (F:bY K "part_from" "part_from" dN f fd) (Z:Bl mg)  : br P w K mg base bU 1 f fd ["stretch", "number"] (fP K d7):=by
 refine F.ok (k:=0) fk (fun vs H Q E h=>?_) (fun cdv A outer s H vs Q E hr h=>?_)
 ·obtain⟨p,n,lo,hi,rfl,_⟩:=h
  rfl
 ·obtain⟨p,n,lo,hi,rfl,hp,q⟩:=h
  refine⟨_,(ai (dX (pv 0) (dG rfl (aZ (aG (i:=2) fk.nd rfl (Or.inl rfl)) (aZ (aG (i:=3) fk.nd rfl (Or.inl rfl)) dh))))
   (ai (bu (i:=4) fk.nd rfl (Or.inl rfl) (dW (fG (gu (pv 2))) (pv 1) (aY (tq rfl) rfl Z.max yl (aa (pv 2) (aa (pv 1) af)))))
   (ai (bO (PW.pt (oH (fG (mj (pv 3))) (ml (aT om (pv 4) (pv 3) (bo _)))))
   (au (aF gr))
   bp)
   (au (aF (aQ (aa (pv 4) (aa (pv 3) af)))))))),?_⟩
  refine⟨_,rfl,p,_,rfl,hp,rfl,_,_,rfl,_,_,rfl,rfl,?_⟩
  cases lo with
  | none =>
   refine⟨_,rfl,_,rfl,cu ⟨_,rfl,?_⟩⟩
   cases hi with
   | none =>
    refine⟨_,rfl,_,rfl,cC (cC ⟨_,rfl,_,rfl,ln2,fun l hl=>?_⟩)⟩
    exact q _ _ ⟨l,rfl,ae⟩ (ah.new hl)
   | some j =>
    refine⟨_,rfl,_,rfl,cu ⟨_,rfl,_,rfl,_,_,rfl,rfl,_,rfl,?_⟩⟩
    refine eI (fun hc=>?_) (fun hc=>?_)
    ·have hlt:j < eM none n:=of_decide_eq_true hc
     exact q _ _ (by simp only [d7];rw [if_pos hlt];rfl) (ah.refl H)
    ·have hlt:¬ j < eM none n:=fun z=>hc (decide_eq_true z)
     refine⟨_,rfl,_,rfl,ln2,fun l hl=>?_⟩
     exact q _ _ (by simp only [d7];rw [if_neg hlt];exact⟨l,rfl,ae⟩) (ah.new hl)
  | some i =>
   refine⟨_,rfl,_,rfl,cC ⟨_,rfl,_,rfl,_,_,rfl,?_⟩⟩
   cases hi with
   | none =>
    refine⟨_,rfl,_,rfl,cC (cC ⟨_,rfl,_,rfl,ln2,fun l hl=>?_⟩)⟩
    exact q _ _ ⟨l,rfl,ae⟩ (ah.new hl)
   | some j =>
    refine⟨_,rfl,_,rfl,cu ⟨_,rfl,_,rfl,_,_,rfl,rfl,_,rfl,?_⟩⟩
    refine eI (fun hc=>?_) (fun hc=>?_)
    ·have hlt:j < eM (some i) n:=of_decide_eq_true hc
     exact q _ _ (by simp only [d7];rw [if_pos hlt];rfl) (ah.refl H)
    ·have hlt:¬ j < eM (some i) n:=fun z=>hc (decide_eq_true z)
     refine⟨_,rfl,_,rfl,ln2,fun l hl=>?_⟩
     exact q _ _ (by simp only [d7];rw [if_neg hlt];exact⟨l,rfl,ae⟩) (ah.new hl)
theorem sJ {f:Addr} {fd:FuncData} (F:bY K "part_at" "part_at" eW f fd) (Z:Bl mg) (O_lies_in:Own P w K mg base "lies_in" 1 ["number", "stretch"] (mQ K)):br P w K mg base bU 2 f fd ["stretch", "number"] (fP K lB):=by
  refine F.ok (k:=1) sE (fun vs H Q E h=>?_) (fun cdv A outer s H vs Q E hr h=>?_)
  · obtain⟨p,n,lo,hi,rfl,_⟩:=h
    rfl
  · obtain⟨p,n,lo,hi,rfl,hp,q⟩:=h
    refine⟨_,(ai (bO (i0 (aR O_lies_in (hr.mono (by decide)) rfl (aa (pv 1) (aa (pv 0) af))))
      (au (aF (aQ (aa (pv 1) (aa (pv 1) af)))))
      bp)
      (au (aF gr))),?_⟩
    refine⟨_,rfl,_,rfl,n,p,lo,hi,rfl,hp,_,rfl,?_⟩
    refine eI (fun hc=>?_) (fun hc=>?_)
    · refine⟨_,rfl,_,rfl,ln2,fun l hl=>?_⟩
      exact q _ _ (by simp only [lB,if_pos hc];exact⟨l,rfl,ae⟩) (ah.new hl)
    · exact q _ _ (by simp only [lB,if_neg hc];rfl) (ah.refl H)
theorem m6 {f:Addr} {fd:FuncData} (F:bY K "part_beside" "part_beside" di f fd) (Z:Bl mg)  : br P w K mg base bU 1 f fd ["stretch", "number"] (fP K gM):=by
 refine F.ok (k:=0) fB (fun vs H Q E h=>?_) (fun cdv A outer s H vs Q E hr h=>?_)
 ·obtain⟨p,n,lo,hi,rfl,_⟩:=h
  rfl
 ·obtain⟨p,n,lo,hi,rfl,hp,q⟩:=h
  refine⟨_,(ai (dX (pv 0) (dG rfl (aZ (aG (i:=2) fB.nd rfl (Or.inl rfl)) (aZ (aG (i:=3) fB.nd rfl (Or.inl rfl)) dh))))
   (ai (bO (PW.pt (oH (aT cX (pv 2) (pv 1) (bo _)) (ml (aT cX (pv 3) (pv 1) (bo _)))))
   (au (aF gr))
   bp)
   (ai (bO (aT cX (pv 2) (pv 1) (bo _))
   (au (aF (aQ (aa (aX dH (pv 1) ar) (aa (pv 3) af)))))
   bp)
   (ai (bO (aT cX (pv 3) (pv 1) (bo _))
   (au (aF (aQ (aa (pv 2) (aa (aX fc (pv 1) ar) af)))))
   bp)
   (au (aF (aQ (aa (pv 2) (aa (pv 3) af))))))))),?_⟩
  refine⟨_,rfl,p,_,rfl,hp,rfl,_,_,rfl,_,_,rfl,rfl,?_⟩
  refine⟨_,rfl,_,rfl,jd,_,rfl,?_⟩
  rw [lC]
  refine eI (fun hc=>?_) (fun hc=>?_)
  ·have h1:lo=some n:=of_decide_eq_true hc
   refine⟨_,rfl,_,rfl,jd,_,rfl,?_⟩
   rw [lC]
   refine eI (fun hd=>?_) (fun hd=>?_)
   ·have h2:hi=some n:=of_decide_eq_true hd
    exact q _ _ (by simp only [gM,if_pos h1,if_pos h2];rfl) (ah.refl H)
   ·have h2:¬ hi=some n:=fun z=>hd (decide_eq_true z)
    refine⟨_,rfl,_,rfl,jd,_,rfl,?_⟩
    rw [lC,hc]
    refine cu ⟨_,rfl,_,_,rfl,rfl,_,rfl,ln2,fun l hl=>?_⟩
    exact q _ _ (by simp only [gM,if_pos h1,if_neg h2];exact⟨l,rfl,ae⟩) (ah.new hl)
  ·have h1:¬ lo=some n:=fun z=>hc (decide_eq_true z)
   refine cC ?_
   refine⟨_,rfl,_,rfl,jd,_,rfl,?_⟩
   rw [lC,show decide (lo=some n)=false from decide_eq_false h1]
   refine cC ?_
   refine⟨_,rfl,_,rfl,jd,_,rfl,?_⟩
   rw [lC]
   refine eI (fun hd=>?_) (fun hd=>?_)
   ·have h2:hi=some n:=of_decide_eq_true hd
    refine⟨_,rfl,_,rfl,_,_,rfl,rfl,ln2,fun l hl=>?_⟩
    exact q _ _ (by simp only [gM,if_neg h1,if_pos h2];exact⟨l,rfl,ae⟩) (ah.new hl)
   ·have h2:¬ hi=some n:=fun z=>hd (decide_eq_true z)
    refine⟨_,rfl,_,rfl,ln2,fun l hl=>?_⟩
    exact q _ _ (by simp only [gM,if_neg h1,if_neg h2];exact⟨l,rfl,ae⟩) (ah.new hl)
theorem sL {f:Addr} {fd:FuncData} (F:bY K "part_of" "part_of" eX f fd) (Z:Bl mg) (O_part_below:Own P w K mg base "part_below" 1 ["stretch", "number"] (fP K du)) (O_part_from:Own P w K mg base "part_from" 1 ["stretch", "number"] (fP K d7)) (O_part_at:Own P w K mg base "part_at" 2 ["stretch", "number"] (fP K lB)) (O_part_beside:Own P w K mg base "part_beside" 1 ["stretch", "number"] (fP K gM)):br P w K mg base bU 3 f fd ["stretch", "word", "number", "side"] (mR K):=by
 refine F.ok (k:=2) sF (fun vs H Q E h=>?_) (fun cdv A outer s H vs Q E hr h=>?_)
 ·obtain⟨p,w,n,side,lo,hi,rfl,_⟩:=h
  rfl
 ·obtain⟨p,w,n,side,lo,hi,rfl,hp,q⟩:=h
  refine⟨_,(ai (bO (aT cX (pv 1) bK (bo _))
   (au (aF (dW (i0 (pv 3)) (aR O_part_below (hr.mono (by decide)) rfl (aa (pv 0) (aa (pv 2) af))) (aR O_part_from (hr.mono (by decide)) rfl (aa (pv 0) (aa (pv 2) af))))))
   bp)
   (au (aF (dW (i0 (pv 3)) (aR O_part_at (hr.mono (by decide)) rfl (aa (pv 0) (aa (pv 2) af))) (aR O_part_beside (hr.mono (by decide)) rfl (aa (pv 0) (aa (pv 2) af))))))),?_⟩
  refine⟨_,rfl,rfl,_,rfl,?_⟩
  by_cases hw:w = "less"
  ·subst hw
   rw [tT]
   refine cu ⟨_,rfl,_,rfl,?_⟩
   cases side with
   | true=>exact cu ⟨_,rfl,_,rfl,p,n,lo,hi,rfl,hp,fun v H1 r s1=>q v H1 (by simp only [cO,g9,if_true];exact r) s1⟩
   | false=>exact cC ⟨_,rfl,_,rfl,p,n,lo,hi,rfl,hp,fun v H1 r s1=>q v H1 (by simp only [cO,g9,if_true,Bool.false_eq_true,if_false];exact r) s1⟩
  ·have e:decide (V.str w=V.str "less")=false:=decide_eq_false fun z=>hw (V.str.inj z)
   rw [e]
   refine cC ⟨_,rfl,_,rfl,?_⟩
   cases side with
   | true=>exact cu ⟨_,rfl,_,rfl,p,n,lo,hi,rfl,hp,fun v H1 r s1=>q v H1 (by simp only [cO,qG,if_neg hw,if_true];exact r) s1⟩
   | false=>exact cC ⟨_,rfl,_,rfl,p,n,lo,hi,rfl,hp,fun v H1 r s1=>q v H1 (by simp only [cO,qG,if_neg hw,Bool.false_eq_true,if_false];exact r) s1⟩
theorem qi {f:Addr} {fd:FuncData} (F:bY K "facts_of" "facts_of" eh f fd) (Z:Bl mg) {aA:Addr} (GA:fO K mg aA)  : br P w K mg base bU 1 f fd ["stretches"] (hU aA):=by
 refine F.ok (k:=0) qf (fun vs H Q E h=>?_) (fun cdv A outer s H vs Q E hr h=>?_)
 ·obtain⟨d,kvs,ks,T,rfl,_⟩:=h
  rfl
 ·obtain⟨d,kvs,ks,T,rfl,hd,tb,hl,q⟩:=h
  refine⟨_,(au (aF (bF bB rfl Z.tuple cy (aa (eJ ["name"] ["stretches"] [0] rfl (ij (aY (o2 rfl) rfl Z.sorted hG (aa (pv 0) af))) rfl (by decide +kernel) (by decide +kernel) (by decide +kernel) ⟨⟨rfl,.inl rfl,rfl⟩,True.intro⟩ (fun _ _ _ _=>(aG (i:=0) (show ((["name"]:List Str)++(["stretches"]:List Str)).Nodup by decide +kernel) rfl (Or.inl rfl) (hf:=Or.inr rfl))) (fun _ _ _ _=>(ip (aT (yJ (aA:=aA) hr.units GA) (qD (gY hr) (pv 1) (pv 0) (fun _ _=>rfl)) (eO (v:=.ref aA) rfl GA.nF rfl) (bo _)))) (fun _ _ _ _=>(aQ (aa (pv 0) (aa (qD (gY hr) (pv 1) (pv 0) (fun _ _=>rfl)) af))))) af)))),?_⟩
  refine⟨_,rfl,d,kvs,ks,rfl,hd,tb.keys,hl,fun l ss hp hs hn=>?_⟩
  have srt:hR ss:=⟨nL hs,hp.nodup_iff.mpr tb.nd⟩
  have hl1:(upd H l (.lst (ss.map V.str))) l=some (.lst (ss.map V.str)):=ae
  have s1:ah H (upd H l (.lst (ss.map V.str))):=ah.new hn
  have hssl:ss.length < 64:=by rw [hp.length_eq];exact hl
  generalize (upd H l (.lst (ss.map V.str)))=H1 at hl1 s1
  refine⟨l,rfl,⟨_,aW.of hl1⟩,fun acc na=>?_⟩
  refine iq (K:=K) (a:=l) (xs:=ss.map V.str) (fun i ys τ H'=>∃ c:Option V,τ = [c,some (.ref d)]/\aV H' ys (((ss.take i).filter fun x=>!decide (T x=cP)).map (dF T))/\H' acc=some (.lst ys)/\ah H1 H') ?_ ?_ ?_ ?_
  ·exact⟨none,rfl,.nil,ae,ah.new na⟩
  ·rintro i ys τ H2 hi ⟨c,rfl,r,ha,s2⟩
   refine⟨aW.of (s2 _ _ hl1),ha,?_⟩
   have h1:=r.len
   rw [List.length_map] at h1
   have h2:=List.length_filter_le (fun x=>!decide (T x=cP)) (ss.take i)
   have h3:=List.length_take_le i ss
   have h4:(ss.take i).length<=ss.length:=by rw [List.length_take];omega
   exact bw (by omega)
  ·rintro i x ys τ H2 hi ⟨c,rfl,r,ha,s2⟩
   obtain⟨y,hy,rfl⟩:∃ y,ss[i]? = some y/\x=V.str y:=by
    rw [List.getElem?_map] at hi
    cases e:ss[i]? with
    | none=>rw [e] at hi;cases hi
    | some k=>rw [e] at hi;exact⟨k,rfl,(Option.some.inj hi).symm⟩
   have hym:y ∈ ks:=hp.mem_iff.mp (List.mem_of_getElem? hy)
   have tk:ss.take (i+1)=ss.take i ++ [y]:=by rw [List.take_add_one,hy];rfl
   obtain⟨v,ev,sv,_⟩:∃ v,cm kvs (Sum.inr y)=some v/\SV aA H v (T y)/\y ∈ ks:=by
    rcases tb.val y with ⟨_,_,c⟩ | h
    ·exact absurd hym c
    ·exact h
   have sv2:SV aA H2 v (T y):=sv.aI fun p xs e=>s2 _ _ (s1 _ _ e)
   have hd2:H2 d=some (.dK kvs):=s2 _ _ (s1 _ _ hd)
   have dg:fz H2 d (.str y) (some v):=by
    have:=fz.k (k:=Sum.inr y) hd2
    rw [ev] at this
    exact this
   refine cM ?_
   refine⟨_,rfl,_,rfl,d,v,rfl,dg,T y,sv2,rfl,_,rfl,?_⟩
   by_cases hT:T y=cP
   ·refine bJ (by rw [decide_eq_true hT];rfl) ?_
    refine⟨_,rfl,?_,ha,s2⟩
    rw [tk,List.filter_append,List.filter_cons_of_neg (by rw [decide_eq_true hT];decide),List.filter_nil,List.append_nil]
    exact r
   ·refine cG (by rw [decide_eq_false hT];rfl) ?_
    refine⟨_,rfl,_,rfl,_,rfl,d,v,rfl,dg,ln2,fun t nt=>?_⟩
    have s3:=ah.new (o:=.tup [.str y,v]) nt
    have ht:(upd H2 t (.tup [.str y,v])) t=some (.tup [.str y,v]):=ae
    generalize (upd H2 t (.tup [.str y,v]))=H3 at s3 ht
    have sh:SH H3 v (T y):=by
     rcases sv2 with h | ⟨_,h⟩
     ·exact h.aI fun p xs e=>s3 _ _ e
     ·exact absurd h hT
    have ha3:=s3 _ _ ha
    refine⟨ha3,_,rfl,?_,ae,(s2.trans s3).put na⟩
    rw [tk,List.filter_append,List.filter_cons_of_pos (by rw [decide_eq_false hT];rfl),List.filter_nil,List.map_append]
    refine aV.app ((r.same s3 (jI T _)).put ha3 (jI T _)) ?_
    refine aN.aI (H:=H3) (fun p zs e=>by rw [av (bH e ha3 (by intro z;cases z))];exact e) (.tup ht (.cons (.str y) (.cons sh.rd .nil))) ?_
    have:=jI T [y]
    simpa [bS] using this
  ·rintro ys τ H2 ⟨c,rfl,r,ha,s2⟩
   rw [List.length_map,List.take_length] at r
   refine⟨acc,ys,rfl,.inl ⟨aW.of ha,fun t nt=>?_⟩⟩
   refine q _ _ ⟨t,ys,_,rfl,ae,srt.filter _,fun x=>?_,r.same (ah.new nt) (jI T _)⟩ ((s1.trans s2).trans (ah.new nt))
   rw [List.mem_filter]
   constructor
   ·rintro⟨_,h⟩ e
    rw [decide_eq_true e] at h
    cases h
   ·intro h
    refine⟨?_,by rw [decide_eq_false h];rfl⟩
    rcases tb.val x with ⟨_,a,_⟩ | ⟨_,_,_,a⟩
    ·exact absurd a h
    ·exact hp.mem_iff.mpr a
theorem vV {f:Addr} {fd:FuncData} (F:bY K "known" "known" gg f fd) (Z:Bl mg) {aA:Addr} (GA:fO K mg aA)  : br P w K mg base bU 1 f fd ["facts", "name"] (mP aA):=by
 refine F.ok (k:=0) vT (fun vs H Q E h=>?_) (fun cdv A outer s H vs Q E hr h=>?_)
 ·obtain⟨fv,x,T,rfl,_⟩:=h
  rfl
 ·obtain⟨fv,x,T,rfl,hf,q⟩:=h
  refine⟨_,(au (aF (g0 (gY hr) (bF (fg rfl) rfl Z.dict mG (aa (pv 0) af)) (pv 1) (eO (v:=.ref aA) rfl GA.nF rfl) ⟨rfl,rfl,rfl,rfl⟩))),?_⟩
  obtain⟨fp,xs,ss,rfl,hfp,srt,hmem,rf⟩:=hf
  obtain⟨kvs,l1,l2,l3,tb⟩:=FV.tb aA srt hmem rf
  refine⟨_,rfl,fp,xs,kvs,rfl,hfp,l1,l2,l3,fun d nd=>?_⟩
  obtain⟨v,ev,sv⟩:=tb.getD x
  exact⟨d,rfl,.inl ⟨kvs,.inl ae⟩,_,rfl,_,v,fz.k (k:=Sum.inr x) ae,ev,q v _ (sv.aI fun p zs e=>ah.new nd _ _ e) (ah.new nd)⟩
theorem oi {f:Addr} {fd:FuncData} (F:bY K "with_known" "with_known" dA f fd) (Z:Bl mg) {aA:Addr} (GA:fO K mg aA) (O_facts_of:Own P w K mg base "facts_of" 1 ["stretches"] (hU aA)):br P w K mg base bU 2 f fd ["facts", "name", "stretch"] (ic aA):=by
 refine F.ok (k:=1) iW (fun vs H Q E h=>?_) (fun cdv A outer s H vs Q E hr h=>?_)
 ·obtain⟨fv,sv,x,T,s,rfl,_⟩:=h
  rfl
 ·obtain⟨fv,sv,x,T,s,rfl,hf,hs,cn,q⟩:=h
  refine⟨_,(ai (bu (i:=3) iW.nd rfl (Or.inl rfl) (bF (fg rfl) rfl Z.dict mG (aa (pv 0) af)))
   (ai (qE (gY hr) (pv 3) (pv 1) (pv 2) rfl)
   (au (aF (aR O_facts_of (hr.mono (by decide)) rfl (aa (pv 3) af)))))),?_⟩
  obtain⟨fp,xs,ss,rfl,hfp,srt,hmem,rf⟩:=hf
  obtain⟨kvs,l1,l2,l3,tb⟩:=FV.tb aA srt hmem rf
  have hssl:ss.length<=62:=cn ss (fun x hx=>(hmem x).mp hx) srt.nd
  have kl:kvs.length=ss.length:=by have:=congrArg List.length tb.keys;simpa using this
  refine⟨_,rfl,fp,xs,kvs,rfl,hfp,l1,l2,l3,fun d nd=>?_⟩
  have k1:∀ p zs,H p=some (.tup zs)->(upd H d (.dK kvs)) p=some (.tup zs):=fun p zs e=>ah.new nd _ _ e
  refine⟨_,rfl,_,rfl,_,rfl,d,_,rfl,mE.k (k:=Sum.inr x) ae (bw (by omega)),?_⟩
  obtain⟨ks2,t2,k2,m2⟩:=(tb.aI k1).put x (hs.aI k1)
  have hd1:(upd H d (.dK kvs)) d=some (.dK kvs):=ae
  refine⟨_,rfl,d,_,ks2,_,rfl,ae,t2.aI (fun p zs e=>by rw [av (bH e hd1 (by intro z;cases z))];exact e),(by omega),fun v H2 f2 s2=>q v H2 f2 (((ah.new nd).put nd).trans s2)⟩
theorem vW {f:Addr} {fd:FuncData} (F:bY K "moved" "moved" gh f fd) (Z:Bl mg)  : br P w K mg base bU 1 f fd ["stretch", "number"] (mM K):=by
 refine F.ok (k:=0) kM (fun vs H Q E h=>?_) (fun cdv A outer s H vs Q E hr h=>?_)
 ·obtain⟨p,s,n,rfl,_⟩:=h
  rfl
 ·obtain⟨p,s,n,rfl,hp,q⟩:=h
  refine⟨_,(ai (dX (pv 0) (dG rfl (aZ (aG (i:=2) kM.nd rfl (Or.inl rfl)) (aZ (aG (i:=3) kM.nd rfl (Or.inl rfl)) dh))))
   (au (aF (aQ (aa (dW (fG (gu (pv 2))) gr (aX dH (pv 2) (pv 1))) (aa (dW (fG (gu (pv 3))) gr (aX dH (pv 3) (pv 1))) af)))))),?_⟩
  obtain⟨lo,hi⟩:=s
  refine⟨_,rfl,p,_,rfl,hp,rfl,_,_,rfl,_,_,rfl,rfl,?_⟩
  cases lo with
  | none =>
   refine⟨_,rfl,_,rfl,cu ?_⟩
   cases hi with
   | none=>exact⟨_,rfl,_,rfl,cu ⟨ln2,fun t nt=>q _ _ ⟨t,rfl,ae⟩ (ah.new nt)⟩⟩
   | some b=>exact⟨_,rfl,_,rfl,cC ⟨_,rfl,_,rfl,_,_,rfl,rfl,ln2,fun t nt=>q _ _ ⟨t,rfl,ae⟩ (ah.new nt)⟩⟩
  | some a =>
   refine⟨_,rfl,_,rfl,cC ⟨_,rfl,_,rfl,_,_,rfl,rfl,?_⟩⟩
   cases hi with
   | none=>exact⟨_,rfl,_,rfl,cu ⟨ln2,fun t nt=>q _ _ ⟨t,rfl,ae⟩ (ah.new nt)⟩⟩
   | some b=>exact⟨_,rfl,_,rfl,cC ⟨_,rfl,_,rfl,_,_,rfl,rfl,ln2,fun t nt=>q _ _ ⟨t,rfl,ae⟩ (ah.new nt)⟩⟩
theorem jO {f:Addr} {fd:FuncData} (F:bY K "stretch_behind" "stretch_behind" cA f fd) (Z:Bl mg) {aA:Addr} (GA:fO K mg aA) (O_moved:Own P w K mg base "moved" 1 ["stretch", "number"] (mM K)):br P w K mg base bU 2 f fd ["stretches", "deed"] (iI aA):=by
  refine F.ok (k:=1) fS (fun vs H Q E h=>?_) (fun cdv A outer s H vs Q E hr h=>?_)
  · obtain⟨d,w,kvs,ks,T,dd,rfl,_⟩:=h
    rfl
  · obtain⟨d,w,kvs,ks,T,dd,rfl,hd,tb,hw,q⟩:=h
    refine⟨_,(ai (oX (xR (i:=2) (j:=3) rfl fS.nd rfl rfl (by decide) rfl rfl (aa (bf bA (pv 1) ar (fun _ _=>rfl)) (aa (bf bA (pv 1) ar (fun _ _=>rfl)) af)) rfl))
      (ai (bO (aT cX (pv 2) bK (bo _))
      (au (aF (aQ (aa (bf bA (pv 1) ar (fun _ _=>rfl)) (aa (bf bA (pv 1) ar (fun _ _=>rfl)) af)))))
      bp)
      (ai (bO (aT cX (pv 2) bK (bo _))
      (au (aF (g0 (gY hr) (pv 0) (bf bA (pv 1) ar (fun _ _=>rfl)) (eO (v:=.ref aA) rfl GA.nF rfl) ⟨rfl,rfl,rfl,rfl⟩)))
      bp)
      (ai (bO (aT cX (pv 2) bK (bo _))
      (au (aF (aR O_moved (hr.mono (by decide)) rfl (aa (g0 (gY hr) (pv 0) (pv 3) (eO (v:=.ref aA) rfl GA.nF rfl) ⟨rfl,rfl,rfl,rfl⟩) (aa (bf bA (pv 1) ar (fun _ _=>rfl)) af)))))
      bp)
      (ai (bO (aT cX (pv 2) bK (bo _))
      (au (aF (eO (v:=.ref aA) rfl GA.nF rfl)))
      bp)
      (au (aF (g0 (gY hr) (pv 0) (pv 3) (eO (v:=.ref aA) rfl GA.nF rfl) ⟨rfl,rfl,rfl,rfl⟩)))))))),?_⟩
    cases dd
    case put x n =>
      refine⟨fun σ' H'=>σ' = [some (.ref d),some (.ref w),some (.str "put"),some (.str x)]/\H=H',⟨_,rfl,w,_,0,_,rfl,rfl,ay.of hw,fq,_,rfl,w,_,1,_,rfl,rfl,ay.of hw,gH,_,_,rfl,rfl,rfl⟩,?_⟩
      rintro σ' H' ⟨rfl,rfl⟩
      refine⟨_,rfl,rfl,_,rfl,?_⟩
      refine cG (show decide (V.str "put" = V.str "put")=true by decide +kernel) ?_
      exact⟨_,rfl,w,_,2,_,rfl,rfl,ay.of hw,at2,_,rfl,w,_,2,_,rfl,rfl,ay.of hw,at2,ln2,fun t nt=>q _ _ (.inl ⟨t,rfl,ae⟩) (ah.new nt)⟩
    case copy x y =>
      refine⟨fun σ' H'=>σ' = [some (.ref d),some (.ref w),some (.str "copy"),some (.str x)]/\H=H',⟨_,rfl,w,_,0,_,rfl,rfl,ay.of hw,fq,_,rfl,w,_,1,_,rfl,rfl,ay.of hw,gH,_,_,rfl,rfl,rfl⟩,?_⟩
      rintro σ' H' ⟨rfl,rfl⟩
      refine⟨_,rfl,rfl,_,rfl,?_⟩
      refine bJ (show decide (V.str "copy" = V.str "put")=false by decide +kernel) ?_
      refine⟨_,rfl,rfl,_,rfl,?_⟩
      refine cG (show decide (V.str "copy" = V.str "copy")=true by decide +kernel) ?_
      obtain⟨v,ev,sv⟩:=tb.getD y
      exact⟨_,rfl,d,rfl,.inl ⟨kvs,.inl hd⟩,_,rfl,w,_,2,_,rfl,rfl,ay.of hw,at2,_,v,fz.k (k:=Sum.inr y) hd,ev,q _ _ sv (ah.refl H)⟩
    case add x n =>
      refine⟨fun σ' H'=>σ' = [some (.ref d),some (.ref w),some (.str "add"),some (.str x)]/\H=H',⟨_,rfl,w,_,0,_,rfl,rfl,ay.of hw,fq,_,rfl,w,_,1,_,rfl,rfl,ay.of hw,gH,_,_,rfl,rfl,rfl⟩,?_⟩
      rintro σ' H' ⟨rfl,rfl⟩
      refine⟨_,rfl,rfl,_,rfl,?_⟩
      refine bJ (show decide (V.str "add" = V.str "put")=false by decide +kernel) ?_
      refine⟨_,rfl,rfl,_,rfl,?_⟩
      refine bJ (show decide (V.str "add" = V.str "copy")=false by decide +kernel) ?_
      refine⟨_,rfl,rfl,_,rfl,?_⟩
      refine cG (show decide (V.str "add" = V.str "add")=true by decide +kernel) ?_
      obtain⟨v,ev,sv⟩:=tb.getD x
      obtain⟨qa,rfl,hqa⟩:=sv.sq GA
      exact⟨_,rfl,d,rfl,.inl ⟨kvs,.inl hd⟩,_,rfl,_,_,fz.k (k:=Sum.inr x) hd,ev,_,rfl,w,_,2,_,rfl,rfl,ay.of hw,at2,qa,T x,n,rfl,hqa,fun v H' sh s1=>q _ _ (.inl sh) s1⟩
    case read x =>
      refine⟨fun σ' H'=>σ' = [some (.ref d),some (.ref w),some (.str "read"),some (.str x)]/\H=H',⟨_,rfl,w,_,0,_,rfl,rfl,ay.of hw,fq,_,rfl,w,_,1,_,rfl,rfl,ay.of hw,gH,_,_,rfl,rfl,rfl⟩,?_⟩
      rintro σ' H' ⟨rfl,rfl⟩
      refine⟨_,rfl,rfl,_,rfl,?_⟩
      refine bJ (show decide (V.str "read" = V.str "put")=false by decide +kernel) ?_
      refine⟨_,rfl,rfl,_,rfl,?_⟩
      refine bJ (show decide (V.str "read" = V.str "copy")=false by decide +kernel) ?_
      refine⟨_,rfl,rfl,_,rfl,?_⟩
      refine bJ (show decide (V.str "read" = V.str "add")=false by decide +kernel) ?_
      refine⟨_,rfl,rfl,_,rfl,?_⟩
      refine cG (show decide (V.str "read" = V.str "read")=true by decide +kernel) ?_
      exact q _ _ (.inr ⟨rfl,rfl⟩) (ah.refl H)
    case tell x =>
      refine⟨fun σ' H'=>σ' = [some (.ref d),some (.ref w),some (.str "tell"),some (.str x)]/\H=H',⟨_,rfl,w,_,0,_,rfl,rfl,ay.of hw,fq,_,rfl,w,_,1,_,rfl,rfl,ay.of hw,gH,_,_,rfl,rfl,rfl⟩,?_⟩
      rintro σ' H' ⟨rfl,rfl⟩
      refine⟨_,rfl,rfl,_,rfl,?_⟩
      refine bJ (show decide (V.str "tell" = V.str "put")=false by decide +kernel) ?_
      refine⟨_,rfl,rfl,_,rfl,?_⟩
      refine bJ (show decide (V.str "tell" = V.str "copy")=false by decide +kernel) ?_
      refine⟨_,rfl,rfl,_,rfl,?_⟩
      refine bJ (show decide (V.str "tell" = V.str "add")=false by decide +kernel) ?_
      refine⟨_,rfl,rfl,_,rfl,?_⟩
      refine bJ (show decide (V.str "tell" = V.str "read")=false by decide +kernel) ?_
      obtain⟨v,ev,sv⟩:=tb.getD x
      exact⟨_,rfl,d,rfl,.inl ⟨kvs,.inl hd⟩,_,rfl,_,v,fz.k (k:=Sum.inr x) hd,ev,q _ _ sv (ah.refl H)⟩
theorem uF {f:Addr} {fd:FuncData} (F:bY K "behind" "behind" fC f fd) (Z:Bl mg) {aA:Addr} (GA:fO K mg aA) (O_stretch_behind:Own P w K mg base "stretch_behind" 2 ["stretches", "deed"] (iI aA)) (O_facts_of:Own P w K mg base "facts_of" 1 ["stretches"] (hU aA)):br P w K mg base bU 3 f fd ["facts", "deeds"] kq:=by
 refine F.ok (k:=2) jC (fun vs H Q E h=>?_) (fun cdv A outer s H vs Q E hr h=>?_)
 ·obtain⟨fv,p,ws,ds,T,m,rfl,_⟩:=h
  rfl
 ·obtain⟨fv,p,ws,ds,T,m,rfl,hf,hp,r,cn,hm,q⟩:=h
  refine⟨_,(ai (bu (i:=2) jC.nd rfl (Or.inl rfl) (bF (fg rfl) rfl Z.dict mG (aa (pv 0) af)))
   (ai (fb PassesOwn.never rfl (eC (pv 1)) (aG (i:=3) jC.nd rfl (Or.inl rfl))
   (au (qE (gY hr) (pv 2) (bf bA (pv 3) ar (fun _ _=>rfl)) (aR O_stretch_behind (hr.mono (by decide)) rfl (aa (pv 2) (aa (pv 3) af))) rfl)))
   (au (aF (aR O_facts_of (hr.mono (by decide)) rfl (aa (pv 2) af)))))),?_⟩
  obtain⟨fp,xs,ss,rfl,hfp,srt,hmem,rf⟩:=hf
  obtain⟨kvs,l1,l2,l3,tb⟩:=FV.tb aA srt hmem rf
  have hssl:ss.length<=m:=cn ss (fun x hx=>(hmem x).mp hx) srt.nd
  refine⟨_,rfl,fp,xs,kvs,rfl,hfp,l1,l2,l3,fun d nd=>?_⟩
  have tb1:Tb aA (upd H d (.dK kvs)) kvs ss T:=tb.aI fun p xs e=>ah.new nd _ _ e
  refine⟨_,rfl,p,rfl,⟨_,ay.of (ah.new nd _ _ hp)⟩,fZ (K:=K) (a:=p) (xs:=ws) (fun i σ H'=>∃ (c:Option V) (kvs':List (Key × V)) (ks':List Str),σ = [some (.ref fp),some (.ref p),some (.ref d),c]/\H' d=some (.dK kvs')/\Tb aA H' kvs' ks' (aw T (ds.take i))/\ks'.length<=m+i/\ah H H') ?_ ?_ ?_ ?_⟩
  ·exact⟨none,kvs,ss,rfl,ae,tb1,hssl,ah.new nd⟩
  ·rintro i σ H1 hi ⟨c,kvs1,ks1,rfl,h1,t1,k1,s1⟩
   exact ay.of (s1 _ _ hp)
  ·rintro i x σ H1 hi ⟨c,kvs1,ks1,rfl,h1,t1,k1,s1⟩
   have hil:i < ds.length:=by
    have:=(List.getElem?_eq_some_iff.mp hi).1
    rw [r.len,List.length_map] at this
    exact this
   have hdi:ds[i]? = some ds[i]:=by simp [hil]
   generalize ds[i] = dd at hdi
   obtain⟨v,hv,rd⟩:=r.get (i:=i) (d:=eF dd) (by rw [List.getElem?_map,hdi];rfl)
   rw [hi] at hv
   cases hv
   obtain⟨dp,rfl,hdp⟩:=qF rd
   have tk:aw T (ds.take (i+1))=pE (aw T (ds.take i)) dd:=by
    unfold aw
    rw [List.take_add_one,hdi,Option.toList_some,List.foldl_append]
    rfl
   refine cM ?_
   refine⟨_,rfl,_,rfl,d,dp,kvs1,ks1,_,dd,rfl,h1,t1,s1 _ _ hdp,fun v H2 sv s2=>?_⟩
   have h2:=s2 _ _ h1
   have kl:kvs1.length=ks1.length:=by have:=congrArg List.length t1.keys;simpa using this
   refine⟨_,rfl,_,rfl,dp,_,1,_,rfl,rfl,ay.of (s2 _ _ (s1 _ _ hdp)),vi dd,d,_,rfl,mE.k (k:=Sum.inr (lG dd)) h2 (bw (by omega)),?_⟩
   obtain⟨ks2,t2,k2,_⟩:=(t1.aI fun p xs e=>s2 _ _ e).put (lG dd) sv
   refine⟨_,_,ks2,rfl,ae,?_,by omega,(s1.trans s2).put nd⟩
   rw [tk]
   exact t2.aI fun p xs e=>by rw [av (bH e h2 (by intro z;cases z))];exact e
  ·rintro σ H1 ⟨c,kvs1,ks1,rfl,h1,t1,k1,s1⟩
   have hwl:ws.length=ds.length:=by rw [r.len,List.length_map]
   rw [hwl,List.take_length] at t1
   refine⟨_,rfl,d,kvs1,ks1,_,rfl,h1,t1,(by omega),fun v H2 f2 s2=>q v H2 f2 (s1.trans s2)⟩
theorem md {f:Addr} {fd:FuncData} (F:bY K "known_beyond" "known_beyond" cS f fd) (Z:Bl mg) {aA:Addr} (GA:fO K mg aA) (O_ways_on:Own P w K mg base "ways_on" 3 ["end"] gN) (O_known:Own P w K mg base "known" 1 ["facts", "name"] (mP aA)) (O_part_of:Own P w K mg base "part_of" 3 ["stretch", "word", "number", "side"] (mR K)) (O_with_known:Own P w K mg base "with_known" 2 ["facts", "name", "stretch"] (ic aA)):br P w K mg base bU 4 f fd ["facts", "end"] (ky aA):=by
  refine F.ok (k:=3) cq (fun vs H Q E h=>?_) (fun cdv A outer s H vs Q E hr h=>?_)
  · obtain⟨fv,ea,T,e,rfl,_⟩:=h
    rfl
  · obtain⟨fv,ea,T,e,rfl,hf,he,cn,q⟩:=h
    refine⟨_,(ai (bu (i:=2) cq.nd rfl (Or.inl rfl) (aR O_ways_on (hr.mono (by decide)) rfl (aa (pv 1) af)))
      (ai (bO (aT jE (aY bb rfl Z.len cD (aa (pv 2) af)) ar (bo _))
      (au (aF (bF bB rfl Z.tuple cy (aa (eJ ["way"] ["facts"] [0] rfl (eC (pv 2)) rfl (by decide +kernel) (by decide +kernel) (by decide +kernel) ⟨⟨rfl,.inl rfl,rfl⟩,True.intro⟩ (fun _ _ _ _=>(aG (i:=0) (show ((["way"]:List Str)++(["facts"]:List Str)).Nodup by decide +kernel) rfl (Or.inl rfl) (hf:=Or.inr rfl))) (fun _ _ _ _=>gc) (fun _ _ _ _=>(pv 1))) af))))
      bp)
      (ai (oX (dX (aQ (aa (bf bA (pv 1) ar (fun _ _=>rfl)) (aa (bf bA (pv 1) ar (fun _ _=>rfl)) (aa (bf bA (pv 1) ar (fun _ _=>rfl)) af)))) (dG rfl (aZ (aG (i:=3) cq.nd rfl (Or.inr rfl)) (aZ (aG (i:=4) cq.nd rfl (Or.inr rfl)) (aZ (aG (i:=5) cq.nd rfl (Or.inr rfl)) dh))))))
      (ai (bu (i:=6) cq.nd rfl (Or.inr rfl) (aR O_known (hr.mono (by decide)) rfl (aa (pv 0) (aa (pv 4) af))))
      (ai (iE (i:=7) ["side"] ["stretch", "word", "number"] [6,3,5] rfl cq.nd rfl rfl rfl (eC (aQ (aa iD (aa iD af)))) rfl (by decide +kernel) (by decide +kernel) (by decide +kernel) ⟨⟨rfl,.inl rfl,rfl⟩,⟨⟨rfl,.inl rfl,rfl⟩,⟨⟨rfl,.inl rfl,rfl⟩,True.intro⟩⟩⟩ (fun _ _ _ _=>(aG (i:=0) (show ((["side"]:List Str)++(["stretch", "word", "number"]:List Str)).Nodup by decide +kernel) rfl (Or.inl rfl) (hf:=Or.inr rfl))) (fun _ _ _ _=>gc) (fun _ _ _ _=>(aR O_part_of (hr.mono (by decide)) rfl (aa (pv 1) (aa (pv 2) (aa (pv 3) (aa (pv 0) af)))))))
      (au (aF (bF bB rfl Z.tuple cy (aa (eJ ["part"] ["facts", "name"] [0,4] rfl (ij (pv 7)) rfl (by decide +kernel) (by decide +kernel) (by decide +kernel) ⟨⟨rfl,.inl rfl,rfl⟩,⟨⟨rfl,.inl rfl,rfl⟩,True.intro⟩⟩ (fun _ _ _ _=>(aG (i:=0) (show ((["part"]:List Str)++(["facts", "name"]:List Str)).Nodup by decide +kernel) rfl (Or.inl rfl) (hf:=Or.inr rfl))) (fun _ _ _ _=>gc) (fun _ _ _ _=>(dW (fG (gu (pv 0))) gr (aR O_with_known (hr.mono (by decide)) rfl (aa (pv 1) (aa (pv 2) (aa (pv 0) af))))))) af))))))))),?_⟩
    refine⟨_,rfl,ea,e,rfl,he,fun wt H1 hw s1=>?_⟩
    have he1:=s1 _ _ he
    have hf1:=hf.same s1
    refine⟨_,rfl,wt,_,rfl,.inr (ay.of hw),_,_,rfl,rfl,_,rfl,?_⟩
    by_cases hl:(aP e).length < 2
    · refine cG (decide_eq_true (by rw [List.length_map];omega)) ?_
      refine⟨_,rfl,wt,rfl,⟨_,ay.of hw⟩,fun acc na=>?_⟩
      refine kY (K:=K) (a:=wt) (xs:=(aP e).map fun k=>V.int (k:Nat)) (fun i zs τ H'=>∃ c:Option V,τ = [c,some fv]/\zs=List.replicate i fv/\H' acc=some (.lst zs)/\ah H1 H') ?_ ?_ ?_ ?_
      · exact⟨none,rfl,rfl,ae,ah.new na⟩
      · rintro i zs τ H2 hi ⟨c,rfl,rfl,ha,s2⟩
        refine⟨ay.of (s2 _ _ hw),ha,?_⟩
        rw [List.length_replicate]
        rw [List.length_map] at hi
        exact bw (by omega)
      · rintro i x zs τ H2 hi ⟨c,rfl,rfl,ha,s2⟩
        refine cM ?_
        refine mD ?_
        refine cu ?_
        refine⟨_,rfl,ha,_,rfl,?_,ae,s2.put na⟩
        rw [<-List.replicate_succ']
      · rintro zs τ H2 ⟨c,rfl,rfl,ha,s2⟩
        rw [List.length_map] at ha
        refine⟨acc,_,rfl,.inl ⟨aW.of ha,fun t nt=>?_⟩⟩
        refine q t _ _ ae ?_ ((s1.trans s2).trans (ah.new nt))
        rw [xx hl]
        exact qT (hf1.same (s2.trans (ah.new nt))) _
    · refine bJ (decide_eq_false (by rw [List.length_map];omega)) ?_
      cases e with
      | stop=>exact absurd (by show 0 < 2;omega) hl
      | go p=>exact absurd (by show 1 < 2;omega) hl
      | bL b x n p r =>
        refine⟨fun σ' H'=>σ' = [some fv,some (.ref ea),some (.ref wt),some (.str (wT b)),some (.str x),some (.int n),none,none]/\ah H1 H',?_,?_⟩
        · refine⟨_,rfl,ea,_,0,_,rfl,rfl,ay.of he1,fq,_,rfl,ea,_,1,_,rfl,rfl,ay.of he1,gH,_,rfl,ea,_,2,_,rfl,rfl,ay.of he1,at2,zv,fun tt htt=>?_⟩
          exact⟨tt,_,rfl,ay.of ae,rfl,_,_,rfl,_,_,rfl,_,_,rfl,rfl,rfl,ah.new htt⟩
        rintro σ' H2 ⟨rfl,s2⟩
        refine⟨_,rfl,_,rfl,fv,x,T,rfl,hf1.same s2,fun sv H3 hsv s3=>?_⟩
        obtain⟨sp,rfl,hsp⟩:=hsv.sq GA
        have s13:=s2.trans s3
        refine⟨ln2,fun st hst=>⟨st,rfl,⟨_,ay.of ae⟩,fun acc na=>?_⟩⟩
        have s4:=ah.new (o:=.tup [.bl true,.bl false]) hst
        have hst4:(upd H3 st (.tup [.bl true,.bl false])) st=some (.tup [.bl true,.bl false]):=ae
        generalize (upd H3 st (.tup [.bl true,.bl false]))=H4 at s4 hst4 na
        refine kY (K:=K) (a:=st) (xs:=[.bl true,.bl false]) (fun i zs τ H'=>∃ c:Option V,τ = [c,some (.ref sp),some (.str (wT b)),some (.int n)]/\j6 H' zs ([bW T b x n true,bW T b x n false].take i)/\H' acc=some (.lst zs)/\ah H4 H') ?_ ?_ ?_ ?_
        · exact⟨none,rfl,.nil,ae,ah.new na⟩
        · rintro i zs τ H5 hi ⟨c,rfl,rv,ha,s5⟩
          refine⟨ay.of (s5 _ _ hst4),ha,?_⟩
          have h1:=Paired.length rv
          rw [List.length_take] at h1
          exact bw (by rw [h1];exact Nat.le_trans (Nat.min_le_right _ _) (by show 2<=1000;decide))
        · rintro i y zs τ H5 hi ⟨c,rfl,rv,ha,s5⟩
          obtain⟨side,rfl,hsd⟩:∃ side:Bool,y=.bl side/\[bW T b x n true,bW T b x n false][i]? = some (bW T b x n side):=by
            match i,hi with
            | 0,hi=>cases hi;exact⟨true,rfl,rfl⟩
            | 1,hi=>cases hi;exact⟨false,rfl,rfl⟩
            | i+2,hi=>simp at hi
          refine cM ?_
          refine mD ?_
          refine cu ?_
          refine⟨_,rfl,_,rfl,_,rfl,_,rfl,sp,wT b,n,side,_,_,rfl,hsp.same (s4.trans s5),fun v H6 r6 s6=>?_⟩
          have ha6:=s6 _ _ ha
          refine⟨ha6,_,rfl,?_,ae,(s5.trans s6).put na⟩
          rw [List.take_add_one,hsd]
          exact d9 ((rv.same s6).put ha6) (.cons (RV.put r6 ha6) .nil)
        · rintro zs τ H5 ⟨c,rfl,rv,ha,s5⟩
          have s15:=s13.trans (s4.trans s5)
          have rv:j6 H5 zs [bW T b x n true,bW T b x n false]:=rv
          have rvl:zs.length=2:=Paired.length rv
          refine⟨_,rfl,acc,rfl,⟨_,aW.of ha⟩,fun ac2 na2=>?_⟩
          refine iq (K:=K) (a:=acc) (xs:=zs) (fun i us τ H'=>∃ c:Option V,τ = [c,some fv,some (.str x)]/\iV H' us ((fQ T (.bL b x n p r)).take i)/\H' ac2=some (.lst us)/\ah H5 H') ?_ ?_ ?_ ?_
          · exact⟨none,rfl,.nil,ae,ah.new na2⟩
          · rintro i us τ H6 hi ⟨c,rfl,bv,ha2,s6⟩
            refine⟨aW.of (s6 _ _ ha),ha2,?_⟩
            have h1:=Paired.length bv
            rw [List.length_take] at h1
            exact bw (by rw [h1];exact Nat.le_trans (Nat.min_le_right _ _) (by show 2<=1000;decide))
          · rintro i y us τ H6 hi ⟨c,rfl,bv,ha2,s6⟩
            obtain⟨rs,hrs,hry⟩:=hV rv hi
            have hb:(fQ T (.bL b x n p r))[i]? = some (rs.map (bE T x)):=by
              show ([bW T b x n true,bW T b x n false].map fun z:Rs=>Option.map (bE T x) z)[i]? = _
              rw [List.getElem?_map,hrs];rfl
            refine cM ?_
            refine mD ?_
            refine cu ?_
            cases rs with
            | none =>
              cases (show y=V.bx from hry)
              refine⟨_,rfl,_,rfl,cu ?_⟩
              refine⟨ha2,_,rfl,?_,ae,s6.put na2⟩
              rw [List.take_add_one,hb]
              refine d9 (bv.aI fun p zs e=>?_) (.cons rfl .nil)
              rw [av (bH e ha2 (by intro z;cases z))];exact e
            | some s =>
              have hsv6:SV aA H6 y s:=RV.sv (hry.same s6)
              obtain⟨yp,rfl,hyp⟩:∃ yp,y=.ref yp/\True:=by
                obtain⟨a1,b1⟩:=s
                obtain⟨yp,e,_⟩:=hry
                exact⟨yp,e,trivial⟩
              refine⟨_,rfl,_,rfl,cC ?_⟩
              refine⟨_,rfl,_,rfl,_,rfl,fv,.ref yp,x,T,s,rfl,hf1.same (s13.trans (s4.trans (s5.trans s6))),hsv6,cn,fun v H7 f7 s7=>?_⟩
              have ha7:=s7 _ _ ha2
              refine⟨ha7,_,rfl,?_,ae,(s6.trans s7).put na2⟩
              rw [List.take_add_one,hb]
              have kt:∀ p zs,H7 p=some (.tup zs)->(upd H7 ac2 (.lst (us ++ [v]))) p=some (.tup zs):=fun p zs e=>by rw [av (bH e ha7 (by intro z;cases z))];exact e
              exact d9 ((bv.same s7).aI kt) (.cons (FV.aI f7 kt) .nil)
          · rintro us τ H6 ⟨c,rfl,bv,ha2,s6⟩
            rw [rvl] at bv
            refine⟨ac2,_,rfl,.inl ⟨aW.of ha2,fun t nt=>?_⟩⟩
            exact q t _ _ ae (iV.same (show iV H6 us (fQ T (.bL b x n p r)) from bv) (ah.new nt)) ((s1.trans (s15.trans s6)).trans (ah.new nt))
theorem vX {f:Addr} {fd:FuncData} (F:bY K "leads" "leads" gi f fd) (Z:Bl mg) (O_known_beyond:Own P w K mg base "known_beyond" 4 ["facts", "end"] (ky aA)) (O_ways_on:Own P w K mg base "ways_on" 3 ["end"] gN):br P w K mg base bU 5 f fd ["facts", "end"] (mS aA):=by
  refine F.ok (k:=4) pV (fun vs H Q E h=>?_) (fun cdv A outer s H vs Q E hr h=>?_)
  · obtain⟨fv,ea,T,e,rfl,_⟩:=h
    rfl
  · obtain⟨fv,ea,T,e,rfl,hf,he,cn,q⟩:=h
    refine⟨_,(ai (bu (i:=2) pV.nd rfl (Or.inl rfl) (aR O_known_beyond (hr.mono (by decide)) rfl (aa (pv 0) (aa (pv 1) af))))
      (au (aF (bF bB rfl Z.tuple cy (aa (eJ ["way", "there"] [] [] rfl (tW rfl Z.zip (aa (aR O_ways_on (hr.mono (by decide)) rfl (aa (pv 1) af)) (aa (pv 2) af))) rfl (by decide +kernel) (by decide +kernel) (by decide +kernel) True.intro (fun _ _ _ _=>(mB (K:=K) (n:=2) rfl (dG (n:=2) rfl (aZ (aG (i:=0) (show ((["way", "there"]:List Str)++([]:List Str)).Nodup by decide +kernel) rfl (Or.inl rfl) (hf:=Or.inr rfl)) (aZ (aG (i:=1) (show ((["way", "there"]:List Str)++([]:List Str)).Nodup by decide +kernel) rfl (Or.inl rfl) (hf:=Or.inr rfl)) dh))))) (fun _ _ _ _=>(ip (fG (mj (pv 1))))) (fun _ _ _ _=>(aQ (aa (pv 0) (aa (pv 1) af))))) af))))),?_⟩
    refine⟨_,rfl,_,rfl,fv,ea,T,e,rfl,hf,he,cn,fun bt us H1 hb bv s1=>?_⟩
    refine⟨_,rfl,ea,e,rfl,s1 _ _ he,fun wt H2 hw s2=>?_⟩
    have hb2:=s2 _ _ hb
    have bv2:=bv.same s2
    refine⟨_,rfl,wt,bt,rfl,⟨_,ay.of hw⟩,⟨_,ay.of hb2⟩,fun acc na=>?_⟩
    refine tX (K:=K) (a:=wt) (b:=bt) (xs:=(aP e).map fun k=>V.int (k:Nat)) (ys:=us) (fun i zs τ H'=>∃ (c1 c2:Option V),τ = [c1,c2]/\jq H' zs ((((aP e).zip (fQ T e)).take i).filterMap fun p=>p.2.map fun U=>(p.1,U))/\zs.length<=i/\H' acc=some (.lst zs)/\ah H2 H') ?_ ?_ ?_ ?_
    · exact⟨none,none,rfl,.nil,Nat.le_refl _,ae,ah.new na⟩
    · rintro i zs τ H3 hi ⟨c1,c2,rfl,pv,hz,ha,s3⟩
      refine⟨ay.of (s3 _ _ hw),ay.of (s3 _ _ hb2),ha,?_⟩
      have h1:i<=(aP e).length:=by rw [List.length_map] at hi;omega
      have h2:(aP e).length<=2:=by cases e <;> (show _<=2) <;> simp [aP]
      exact bw (by omega)
    · rintro i x y zs τ H3 u hx hy hu ⟨c1,c2,rfl,pv,hz,ha,s3⟩
      obtain⟨k,hk,rfl⟩:∃ k,(aP e)[i]? = some k/\x=V.int (k:Nat):=by
        rw [List.getElem?_map] at hx
        cases z:(aP e)[i]? with
        | none=>rw [z] at hx;cases hx
        | some k=>rw [z] at hx;exact⟨k,rfl,(Option.some.inj hx).symm⟩
      obtain⟨o,ho,hyo⟩:=hV bv2 hy
      have hnext:=uy (T:=T) hk ho
      have su:=ah.new (o:=.tup [.int (k:Nat),y]) hu
      have hu4:(upd H3 u (.tup [.int (k:Nat),y])) u=some (.tup [.int (k:Nat),y]):=ae
      generalize (upd H3 u (.tup [.int (k:Nat),y]))=H4 at su hu4
      refine⟨u,_,rfl,ay.of hu4,rfl,_,_,rfl,_,_,rfl,rfl,?_⟩
      refine⟨_,rfl,_,rfl,?_⟩
      cases o with
      | none =>
        cases (show y=V.bx from hyo)
        refine cC ?_
        refine⟨_,_,rfl,?_,Nat.le_succ_of_le hz,su _ _ ha,s3.trans su⟩
        rw [hnext]
        simpa using pv.same su
      | some U =>
        obtain⟨yp,zsy,ssy,rfl,_⟩:=id hyo
        refine cu ?_
        refine⟨_,rfl,_,rfl,ln2,fun t nt=>?_⟩
        have s5:=ah.new (o:=.tup [.int (k:Nat),.ref yp]) nt
        have ht:(upd H4 t (.tup [.int (k:Nat),.ref yp])) t=some (.tup [.int (k:Nat),.ref yp]):=ae
        generalize (upd H4 t (.tup [.int (k:Nat),.ref yp]))=H5 at s5 ht
        have ha5:=s5 _ _ (su _ _ ha)
        have kt:∀ p ws,H5 p=some (.tup ws)->(upd H5 acc (.lst (zs ++ [V.ref t]))) p=some (.tup ws):=fun p ws e=>by rw [av (bH e ha5 (by intro z;cases z))];exact e
        refine⟨ha5,_,_,rfl,?_,(by rw [List.length_append];show _+1<=_;omega),ae,(s3.trans (su.trans s5)).put na⟩
        rw [hnext]
        exact d9 ((pv.same (su.trans s5)).aI kt) (.cons ⟨t,.ref yp,rfl,kt _ _ ht,FV.aI (FV.same hyo (s3.trans (su.trans s5))) kt⟩ .nil)
    · rintro zs τ H3 ⟨c1,c2,rfl,pv,hz,ha,s3⟩
      have hm:min ((aP e).map fun k=>V.int (k:Nat)).length us.length=((aP e).zip (fQ T e)).length:=by
        rw [List.length_zip,List.length_map,Paired.length bv2]
      rw [hm,List.take_length] at pv
      refine⟨acc,_,rfl,.inl ⟨aW.of ha,fun t nt=>?_⟩⟩
      exact q t zs _ ae (jq.same (show jq H3 zs (bT T e) from pv) (ah.new nt)) (((s1.trans s2).trans s3).trans (ah.new nt))
theorem vY {f:Addr} {fd:FuncData} (F:bY K "start" "start" gm f fd) (Z:Bl mg) (O_names_of:Own P w K mg base "names_of" 3 ["plan"] jj):br P w K mg base bU 4 f fd ["plan"] mT:=by
 refine F.ok (k:=3) vU (fun vs H Q E h=>?_) (fun cdv A outer s H vs Q E hr h=>?_)
 ·obtain⟨plv,ps,xs,m,rfl,_⟩:=h
  rfl
 ·obtain⟨plv,ps,xs,m,rfl,hp,pok,hx,hal,q⟩:=h
  refine⟨_,(au (aF (bF bB rfl Z.tuple cy (aa (eJ ["name"] [] [] rfl (eC (aR O_names_of (hr.mono (by decide)) rfl (aa (pv 0) af))) rfl (by decide +kernel) (by decide +kernel) (by decide +kernel) True.intro (fun _ _ _ _=>(aG (i:=0) (show ((["name"]:List Str)++([]:List Str)).Nodup by decide +kernel) rfl (Or.inl rfl) (hf:=Or.inr rfl))) (fun _ _ _ _=>gc) (fun _ _ _ _=>(aQ (aa (pv 0) (aa (aQ (aa ar (aa ar af))) af))))) af)))),?_⟩
  refine⟨_,rfl,plv,ps,xs,m,rfl,hp,pok,hx,hal,fun nt ss H1 hnt hperm hsort hsl s1=>?_⟩
  refine⟨nt,rfl,⟨_,ay.of hnt⟩,fun acc na=>?_⟩
  refine kY (K:=K) (a:=nt) (xs:=ss.map V.str) (fun i zs τ H'=>∃ c:Option V,τ = [c]/\aV H' zs ((ss.take i).map fun x=>.tuple [.str x,.tuple [.int 0,.int 0]])/\H' acc=some (.lst zs)/\ah H1 H') ?_ ?_ ?_ ?_
  ·exact⟨none,rfl,.nil,ae,ah.new na⟩
  ·rintro i zs τ H2 hi ⟨c,rfl,r,ha,s2⟩
   refine⟨ay.of (s2 _ _ hnt),ha,?_⟩
   have h1:=r.len
   rw [List.length_map,List.length_take] at h1
   exact bw (by omega)
  ·rintro i x zs τ H2 hi ⟨c,rfl,r,ha,s2⟩
   obtain⟨y,hy,rfl⟩:∃ y,ss[i]? = some y/\x=V.str y:=by
    rw [List.getElem?_map] at hi
    cases e:ss[i]? with
    | none=>rw [e] at hi;cases hi
    | some k=>rw [e] at hi;exact⟨k,rfl,(Option.some.inj hi).symm⟩
   refine cM ?_
   refine mD ?_
   refine cu ?_
   refine⟨_,rfl,ln2,fun t1 n1=>⟨ln2,fun t2 n2=>?_⟩⟩
   have q1:=ah.new (o:=.tup [.int 0,.int 0]) n1
   have q2:=ah.new (o:=.tup [.str y,.ref t1]) n2
   have ha3:=q2 _ _ (q1 _ _ ha)
   have kt:∀ p ws,(upd (upd H2 t1 (.tup [.int 0,.int 0])) t2 (.tup [.str y,.ref t1])) p=some (.tup ws)->(upd (upd (upd H2 t1 (.tup [.int 0,.int 0])) t2 (.tup [.str y,.ref t1])) acc (.lst (zs ++ [V.ref t2]))) p=some (.tup ws):=fun p ws e=>by rw [av (bH e ha3 (by intro z;cases z))];exact e
   refine⟨ha3,_,rfl,?_,ae,((s2.trans q1).trans q2).put na⟩
   rw [List.take_add_one,hy,List.map_append]
   exact (((r.same q1 (eR _)).same q2 (eR _)).aI kt (eR _)).app (.tup (kt _ _ ae) (.cons (.str _) (.cons (.tup (kt _ _ (q2 _ _ ae)) (.cons (.int _) (.cons (.int _) .nil))) .nil)))
  ·rintro zs τ H2 ⟨c,rfl,r,ha,s2⟩
   rw [List.length_map,List.take_length] at r
   refine⟨acc,_,rfl,.inl ⟨aW.of ha,fun t ht=>?_⟩⟩
   exact q (.ref t) ss _ (.tup ae (r.same (ah.new ht) (eR _))) hperm hsort ((s1.trans s2).trans (ah.new ht))
theorem me {f:Addr} {fd:FuncData} (F:bY K "__init__" "Row.__init__" cT f fd) (Z:Bl mg) {C:Addr} (T:pG K C)  : br P w K mg base bU 1 f fd ["self", "first"] (iM P w C):=by
 refine F.ok (k:=0) lY (fun vs H Q E h=>?_) (fun cdv A outer s H vs Q E hr h=>?_)
 ·obtain⟨r,dx,k,d0,rfl,_⟩:=h
  rfl
 ·obtain⟨r,dx,k,d0,rfl,hr0,hk,rd,nl,q⟩:=h
  refine⟨_,(ai (tE (pv 0) (gC (aa (pv 1) af)) rfl)
   (au (tE (pv 0) (vK (pI hr) (vc (pv 1) ar xg) rfl rfl (List.cons_ne_nil _ _) (by show 1<=15;decide)) rfl))),?_⟩
  refine⟨_,rfl,nz,fun m nm=>?_⟩
  have s1:=ah.new (o:=.lst [.ref k]) nm
  have hm1:(upd H m (.lst [.ref k])) m=some (.lst [.ref k]):=ae
  have nrm:r ≠ m:=aC hr0 nm
  have rd1:=rd.same s1 nl
  generalize (upd H m (.lst [.ref k]))=H1 at s1 hm1 rd1
  have hr1:=s1 _ _ hr0
  refine⟨_,rfl,r,C,dx,_,rfl,hr1,T.cl,T.members,(by show 0 < 1000;decide),?_⟩
  have kt1:∀ p zs,H1 p=some (.tup zs)->∀ o,(upd H1 r o) p=some (.tup zs):=fun p zs e o=>by rw [av (bH e hr1 (by intro z;cases z))];exact e
  refine fun d nd=>?_
  have ndr:r ≠ d:=fun z=>by rw [<-z,ae] at nd;cases nd
  have nd1:H1 d=none:=by rw [av ndr.symm] at nd;exact nd
  have ndm:d ≠ m:=fun z=>by rw [z,hm1] at nd1;cases nd1
  have kt2:∀ p zs,H1 p=some (.tup zs)->∀ o o',(upd (upd H1 r o) d o') p=some (.tup zs):=fun p zs e o o'=>by rw [av (aC e nd1)];exact kt1 p zs e o
  refine⟨_,rfl,ae,k,.int 0,d0,rfl,hk,rd1.aI (fun p zs e=>kt2 p zs e _ _) nl,?_⟩
  refine⟨_,rfl,r,C,dx,_,rfl,(by rw [av ndr,av ndr,ae]),T.cl,T.places,(by rw [lT];show 1 < 1000;decide),?_⟩
  refine q m d _ ⟨⟨dx,by rw [ae,lT,uu]⟩,?_,?_,fun p hp=>?_⟩ (fun c o e n=>?_) nm (s1.free nd1)
  ·rw [av nrm.symm,av ndm.symm,av ndm.symm,av nrm.symm];exact hm1
  ·rw [av ndr.symm,ae];rfl
  ·rw [List.mem_singleton.mp hp]
   refine⟨hk,rd1.aI (fun p zs e=>?_) nl⟩
   have hpr:p ≠ r:=bH e hr1 (by intro z;cases z)
   have hpd:p ≠ d:=aC e nd1
   rw [av hpr,av hpd,av hpd,av hpr];exact e
  ·rw [av n,av (aC (s1 _ _ e) nd1),av (aC (s1 _ _ e) nd1),av n];exact s1 _ _ e
theorem mf {f:Addr} {fd:FuncData} (F:bY K "place_of" "Row.place_of" cU f fd) (Z:Bl mg) {C:Addr} (T:pG K C)  : br P w K mg base bU 1 f fd ["self", "thing"] (iN P w C):=by
  refine F.ok (k:=0) lZ (fun vs H Q E h=>?_) (fun cdv A outer s H vs Q E hr h=>?_)
  · obtain⟨r,m,d,k,d0,ms,rfl,_⟩:=h
    rfl
  · obtain⟨r,m,d,k,d0,ms,rfl,A,hms,hk,rd,nl,nls,q⟩:=h
    refine⟨_,(ai (bO (aT (si (pI hr)) (pv 1) (fe (pv 0) rfl) (by with_unfolding_all rfl))
      (ai (dX (aY bb rfl Z.len cD (aa (fe (pv 0) rfl) af)) (oK (fe (pv 0) rfl) (pv 1) (vF (pI hr))))
      (au (dM (gW PySem.F.plainAttrs_list PySem.F.slot_list_append PySem.F.type_list_append dY (fe (pv 0) rfl) (aa (pv 1) af)))))
      bp)
      (au (aF (xw (pI hr) (fe (pv 0) rfl) (pv 1) (fun _ _=>rfl))))),?_⟩
    obtain⟨dx,hob⟩:=A.ob
    obtain⟨n1,n2,n3⟩:=A.Ar
    have hml:(ms.map fun p=>V.ref p.2).length=ms.length:=List.length_map ..
    have hv:=iK d0 0 ms
    refine⟨_,rfl,_,rfl,r,C,dx,_,_,rfl,hob,T.cl,T.places,fL,k,d,d0,cw 0 ms,rfl,rfl,⟨A.jt,A.ig,hk,rd⟩,_,rfl,?_⟩
    by_cases hm:d0 ∈ ms.map (·.1)
    · rw [if_pos hm] at hv
      refine bJ (by rw [hv];rfl) ?_
      have e:iL ms d0 k=ms:=by unfold iL;rw [if_pos hm]
      rw [e] at q
      refine⟨_,rfl,r,C,dx,_,_,rfl,hob,T.cl,T.places,fL,_,rfl,k,d,d0,cw 0 ms,_,rfl,rfl,⟨A.jt,A.ig,hk,rd⟩,hv,?_⟩
      rw [Nat.zero_add]
      exact q H A iJ.refl
    · rw [if_neg hm] at hv
      refine cG (by rw [hv];rfl) ?_
      refine⟨_,rfl,r,C,dx,_,_,rfl,hob,T.cl,T.members,fh,m,_,rfl,.inl (aW.of A.mem),_,rfl,r,C,dx,_,_,rfl,hob,T.cl,T.places,fL,_,rfl,k,d,d0,cw 0 ms,rfl,rfl,⟨A.jt,A.ig,hk,rd⟩,bw (by rw [kA];omega),?_⟩
      have eput:putD (cw 0 ms) d0 k (.int ((ms.map fun p=>V.ref p.2).length:Nat))=cw 0 (ms ++ [(d0,k)]):=by
        unfold putD
        rw [hv,pJ,hml,Nat.zero_add]
        rfl
      rw [eput]
      change (_:Hp->Prop) (upd H d (dE P w d (cw 0 (ms ++ [(d0,k)]))))
      have hob1:(upd H d (dE P w d (cw 0 (ms ++ [(d0,k)])))) r=some (.ins C dx (mN (.ref m) (.ref d))):=by rw [av n2];exact hob
      have hm1:(upd H d (dE P w d (cw 0 (ms ++ [(d0,k)])))) m=some (.lst (ms.map fun p=>V.ref p.2)):=by rw [av n3.symm];exact A.mem
      refine⟨_,rfl,r,C,dx,_,_,rfl,hob1,T.cl,T.members,fh,.inl ⟨rfl,_,aW.of hm1⟩,_,rfl,m,_,_,rfl,rfl,hm1,bw (by omega),?_⟩
      have e:iL ms d0 k=ms ++ [(d0,k)]:=by unfold iL;rw [if_neg hm]
      rw [e] at q
      have kt:∀ p zs,H p=some (.tup zs)->∀ o o',(upd (upd H d o) m o') p=some (.tup zs):=fun p zs h o o'=>by
        rw [av (bH h A.mem (by intro z;cases z)),av (bH h A.jt (by intro z;cases z))];exact h
      have keys:∀ (H':Hp),(∀ p zs,H p=some (.tup zs)->H' p=some (.tup zs))->∀ p ∈ ms ++ [(d0,k)],ib p.1/\aN H' (.ref p.2) p.1:=fun H' kt' p hp=>by
        rcases List.mem_append.mp hp with hp | hp
        · exact⟨(A.keys p hp).1,(A.keys p hp).2.aI kt' (nls p hp)⟩
        · rw [List.mem_singleton.mp hp];exact⟨hk,rd.aI kt' nl⟩
      have A2:fj P w C (upd (upd H d (dE P w d (cw 0 (ms ++ [(d0,k)])))) m (.lst ((ms.map fun p=>V.ref p.2) ++ [.ref k]))) r m d (ms ++ [(d0,k)]) :=
        ⟨⟨dx,by rw [av n1];exact hob1⟩,by rw [ae,List.map_append];rfl,by rw [av n3,ae],keys _ fun p zs h=>kt p zs h _ _⟩
      have hv2:=iK d0 0 (ms ++ [(d0,k)])
      rw [if_pos (by rw [List.map_append];exact List.mem_append_right _ (List.mem_singleton.mpr rfl)),Nat.zero_add] at hv2
      obtain⟨dx2,hob2⟩:=A2.ob
      refine⟨_,rfl,r,C,dx2,_,_,rfl,hob2,T.cl,T.places,fL,_,rfl,k,d,d0,_,_,rfl,rfl,⟨A2.jt,A2.ig,hk,(A2.keys (d0,k) (List.mem_append_right _ (List.mem_singleton.mpr rfl))).2⟩,hv2,?_⟩
      exact q _ A2 fun c o h c1 c2=>by rw [av c1,av c2];exact h
theorem sM {f:Addr} {fd:FuncData} (F:bY K "reached" "reached" eY f fd) (Z:Bl mg) (O_ways_on:Own P w K mg base "ways_on" 3 ["end"] gN):br P w K mg base bU 4 f fd ["plan"] jv:=by
  refine bY.Aq F (k:=3) fm (fun vs H Q E h=>?_) (fun cdv A outer s H vs Q E hcd hr h=>?_)
  · obtain⟨plv,ps,rfl,_⟩:=h
    rfl
  · obtain⟨plv,ps,rfl,hp,hin,hn0,hn,q⟩:=h
    refine⟨_,(ai (bu (i:=1) fm.nd rfl (Or.inl rfl) (xB hcd ar))
      (ai (bu (i:=2) fm.nd rfl (Or.inl rfl) (gC (aa ar af)))
      (ai (oM PassesOwn.never (uS (pv 2) (fun _=>rfl))
      (ai (bu (i:=3) fm.nd rfl (Or.inl rfl) (yj PySem.F.plainAttrs_list PySem.F.slot_list_pop PySem.F.type_list_pop yk (pv 2)))
      (au (fb PassesOwn.never rfl (eC (aR O_ways_on (hr.mono (by decide)) rfl (aa (bf bA (bf bA (pv 0) (pv 3) (fun _ _=>rfl)) ar (fun _ _=>rfl)) af))) (aG (i:=4) fm.nd rfl (Or.inl rfl))
      (au (bO (aT um (pv 4) (pv 1) (by with_unfolding_all rfl))
      (ai (dM (uo PySem.F.slot_set_add PySem.F.type_set_add qP (pv 1) (aa (pv 4) af)))
      (au (dM (gW PySem.F.plainAttrs_list PySem.F.slot_list_append PySem.F.type_list_append dY (pv 2) (aa (pv 4) af)))))
      bp))))))
      (au (aF (bF bB rfl Z.tuple cy (aa (aY (iS rfl) rfl Z.sorted hG (aa (pv 1) af)) af))))))),?_⟩
    obtain⟨pp,vs,rfl,e1,r1⟩:=aN.bM hp
    have hvl:=r1.len
    rw [List.length_map] at hvl
    refine fun fs nfs=>?_
    refine⟨ae,Sum.inl (0:Int),rfl,?_⟩
    change (_:Hp->Prop) (upd (upd H fs (bR P w fs [])) fs (bR P w fs [Sum.inl (0:Int)]))
    rw [wL]
    have s1:=ah.new (o:=bR P w fs [Sum.inl (0:Int)]) nfs
    have hf1:(upd H fs (bR P w fs [Sum.inl (0:Int)])) fs=some (bR P w fs (kI [0])):=ae
    generalize (upd H fs (bR P w fs [Sum.inl (0:Int)]))=H1 at s1 hf1
    refine⟨nz,fun wl nwl=>?_⟩
    have s2:=ah.new (o:=.lst [.int 0]) nwl
    have hf2:=s2 _ _ hf1
    have hw2:(upd H1 wl (.lst [.int 0])) wl=some (.lst (vN [0])):=ae
    have nfw:fs ≠ wl:=aC hf1 nwl
    have nwH:H wl=none:=s1.free nwl
    have s12:=s1.trans s2
    generalize (upd H1 wl (.lst [.int 0]))=H2 at s2 hf2 hw2 s12
    refine⟨fun m σ H'=>∃ (ks ws:List Nat) (u1 u2:Option V),σ = [some (.ref pp),some (.ref fs),some (.ref wl),u1,u2]/\H' fs=some (bR P w fs (kI ks))/\H' wl=some (.lst (vN ws))/\sr ps ks ws/\m=2 * (ps.length - ks.length)+ws.length/\ws.length<=ks.length/\ah H H',⟨_,[0],[0],_,_,rfl,hf2,hw2,⟨by simp,fun k hk=>by rw [List.mem_singleton.mp hk];exact hn0,fun k hk=>by rw [List.mem_singleton.mp hk];exact .zero,by simp,fun k hk=>hk,fun k hk=>.inl hk⟩,rfl,Nat.le_refl _,s12⟩,?_⟩
    rintro m σ H3 ⟨ks,ws,u1,u2,rfl,hf3,hw3,sk,hm,hwk,s3⟩
    have hkn:=eQ sk.nd sk.lt
    refine⟨_,rfl,!(vN ws).isEmpty,.inl ⟨_,aW.of hw3,rfl⟩,?_⟩
    rcases (show ws = []\/∃ ws' at_,ws=ws' ++ [at_] from (List.eq_nil_or_concat ws).imp id fun ⟨a,b,h⟩=>⟨a,b,by rw [h,List.concat_eq_append]⟩) with rfl | ⟨ws',at_,rfl⟩
    · refine bJ rfl ?_
      refine⟨_,rfl,fs,ks.map (fun k:Nat=>(k:Int)),rfl,(by rw [hf3,qU];rfl),(by rw [List.length_map];omega),fun l ss hperm _ nl=>?_⟩
      obtain⟨ms,rfl,hms⟩:=jw hperm
      refine⟨l,_,rfl,.inl ⟨aW.of ae,?_⟩⟩
      rw [<-uw]
      intro t nt
      refine q t ms _ ae (fun k=>(hms.mem_iff).trans (sk.all k)) (fun k hk=>sk.lt k (hms.mem_iff.mp hk)) (by rw [hms.length_eq];omega) ((s3.trans (ah.new nl)).trans (ah.new nt))
    · have hwl:(ws' ++ [at_]).length=ws'.length+1:=by rw [List.length_append];rfl
      have hev:vN (ws' ++ [at_])=vN ws' ++ [V.int (at_:Nat)]:=by show (ws' ++ [at_]).map _=_;rw [List.map_append];rfl
      refine cG (by rw [hev];cases vN ws' <;> rfl) ?_
      have hak:at_ ∈ ks:=sk.sub at_ (List.mem_append_right _ (List.mem_singleton.mpr rfl))
      have hat:=sk.lt at_ hak
      have hps:ps[at_]? = some ps[at_]:=by simp [hat]
      generalize ps[at_] = pce at hps
      obtain⟨ds,e⟩:=pce
      obtain⟨p',xs',pc,da,ea,wsv,ep,e1',el',hx',e2,e3,r3,e4⟩:=gJ hp hps
      cases ep
      rw [e1] at e1'
      cases e1'
      refine⟨fun σ' H'=>∃ (ks' ws2:List Nat) (u1 u2:Option V),σ' = [some (.ref pp),some (.ref fs),some (.ref wl),u1,u2]/\H' fs=some (bR P w fs (kI ks'))/\H' wl=some (.lst (vN ws2))/\sr ps ks' ws2/\2 * (ps.length - ks'.length)+ws2.length < m/\ws2.length<=ks'.length/\ah H H',fun σ' H' ⟨ks',ws2,u1,u2,h1,h2,h3,h4,h5,h6,h7⟩=>⟨_,h5,ks',ws2,u1,u2,h1,h2,h3,h4,rfl,h6,h7⟩,?_⟩
      refine⟨_,rfl,.inl ⟨rfl,_,aW.of hw3⟩,wl,_,.int (at_:Nat),rfl,rfl,hw3,(by rw [hev];simp),?_⟩
      have hdl:(vN (ws' ++ [at_])).dropLast=vN ws':=by rw [hev,List.dropLast_concat]
      rw [hdl]
      have hw4:(upd H3 wl (.lst (vN ws'))) wl=some (.lst (vN ws')):=ae
      have hf4:(upd H3 wl (.lst (vN ws'))) fs=some (bR P w fs (kI ks)):=by rw [av nfw];exact hf3
      have s4:ah H (upd H3 wl (.lst (vN ws'))):=s3.put nwH
      generalize (upd H3 wl (.lst (vN ws')))=H4 at hw4 hf4 s4
      refine⟨_,rfl,_,rfl,pp,_,_,_,rfl,rfl,ay.of (s4 _ _ e1),dt hx',pc,_,1,_,rfl,rfl,ay.of (s4 _ _ e2),gH,ea,e,rfl,s4 _ _ e4,fun wt H5 hwt s5=>?_⟩
      refine⟨wt,rfl,⟨_,ay.of hwt⟩,fZ (K:=K) (a:=wt) (xs:=vN (aP e)) (fun i σ H'=>∃ (ks' add:List Nat) (u2:Option V),σ = [some (.ref pp),some (.ref fs),some (.ref wl),some (.int (at_:Nat)),u2]/\H' fs=some (bR P w fs (kI ks'))/\H' wl=some (.lst (vN (ws' ++ add)))/\ks' = ks++add/\ks'.Nodup/\(∀ k ∈ ks',k < ps.length)/\(∀ k ∈ add,ju ps k)/\(∀ k ∈ (aP e).take i,k ∈ ks')/\(∀ c o,H5 c=some o->c ≠ fs->c ≠ wl->H' c=some o)) ?_ ?_ ?_ ?_⟩
      · exact⟨ks,[],_,rfl,s5 _ _ hf4,by rw [List.append_nil];exact s5 _ _ hw4,by rw [List.append_nil],sk.nd,sk.lt,(fun _ h=>nomatch h),(fun _ h=>by simp at h),fun c o h _ _=>h⟩
      · rintro i σ H6 hi ⟨ks',add,u2,rfl,h1,h2,rfl,h4,h5,h6,h7,h8⟩
        exact ay.of (h8 _ _ hwt (bH hwt (s5 _ _ hf4) (by intro z;cases z)) (bH hwt (s5 _ _ hw4) (by intro z;cases z)))
      · rintro i y σ H6 hi ⟨ks',add,u2,rfl,h1,h2,rfl,h4,h5,h6,h7,h8⟩
        obtain⟨k0,hk0,rfl⟩:∃ k,(aP e)[i]? = some k/\y=V.int (k:Nat):=by
          rw [List.getElem?_map] at hi
          cases z:(aP e)[i]? with
          | none=>rw [z] at hi;cases hi
          | some k=>rw [z] at hi;exact⟨k,rfl,(Option.some.inj hi).symm⟩
        have hk0m:=List.mem_of_getElem? hk0
        have hk0b:=qV hin hps k0 hk0m
        have htk:(aP e).take (i+1)=(aP e).take i ++ [k0]:=by rw [List.take_add_one,hk0];rfl
        refine cM ?_
        refine⟨_,rfl,_,rfl,fs,_,Sum.inl (k0:Int),rfl,h1,rfl,fun b hb=>⟨_,rfl,?_⟩⟩
        rw [pL] at hb
        by_cases hm0:k0 ∈ ks++add
        · refine bJ (by rw [hb.mpr hm0];rfl) ?_
          refine⟨ks++add,add,_,rfl,h1,h2,rfl,h4,h5,h6,fun k hk=>?_,h8⟩
          rw [htk] at hk
          rcases List.mem_append.mp hk with hk | hk
          · exact h7 k hk
          · rw [List.mem_singleton.mp hk];exact hm0
        · refine cG (by rw [Bool.eq_false_iff.mpr fun z=>hm0 (hb.mp z)];rfl) ?_
          have hfew:=eQ h4 h5
          refine⟨_,rfl,⟨fs,_,rfl,h1⟩,_,rfl,fs,_,Sum.inl (k0:Int),rfl,rfl,h1,(by rw [List.length_map];exact Nat.lt_of_le_of_lt (show (ks++add).length+1<=1002 by omega) (by decide)),?_⟩
          rw [uA,show LS.putIn (ks++add) k0=ks++(add ++ [k0]) by unfold LS.putIn;rw [if_neg hm0,List.append_assoc]]
          change (_:Hp->Prop) (upd H6 fs (bR P w fs (kI (ks++(add ++ [k0])))))
          have h27:(upd H6 fs (bR P w fs (kI (ks++(add ++ [k0]))))) wl=some (.lst (vN (ws' ++ add))):=by rw [av nfw.symm];exact h2
          have hal:(ws' ++ add).length<=200:=by
            rw [List.length_append] at hfew ⊢
            omega
          refine⟨_,rfl,.inl ⟨rfl,_,aW.of h27⟩,_,rfl,wl,_,_,rfl,rfl,h27,bw (by rw [List.length_map];omega),?_⟩
          refine⟨_,add ++ [k0],_,rfl,by rw [av nfw,ae],?_,rfl,?_,?_,?_,?_,fun c o h c1 c2=>by rw [av c2,av c1];exact h8 c o h c1 c2⟩
          · rw [ae]
            show _=some (HO.lst ((ws' ++ (add ++ [k0])).map _))
            rw [<-List.append_assoc,List.map_append]
            rfl
          · rw [<-List.append_assoc,List.nodup_append]
            refine⟨h4,by simp,fun x hx y hy z=>?_⟩
            rw [List.mem_singleton.mp hy] at z
            exact hm0 (z ▸ hx)
          · intro k hk
            rw [<-List.append_assoc] at hk
            rcases List.mem_append.mp hk with hk | hk
            · exact h5 k hk
            · rw [List.mem_singleton.mp hk];exact hk0b
          · intro k hk
            rcases List.mem_append.mp hk with hk | hk
            · exact h6 k hk
            · rw [List.mem_singleton.mp hk];exact .step (sk.yN at_ hak) hps hk0m
          · intro k hk
            rw [htk] at hk
            rw [<-List.append_assoc]
            rcases List.mem_append.mp hk with hk | hk
            · exact List.mem_append_left _ (h7 k hk)
            · exact List.mem_append_right _ hk
      · rintro σ H6 ⟨ks',add,u2,rfl,h1,h2,rfl,h4,h5,h6,h7,h8⟩
        rw [show (vN (aP e)).length=(aP e).length from List.length_map ..,List.take_length] at h7
        have hfew:=eQ h4 h5
        refine⟨ks++add,ws' ++ add,_,_,rfl,h1,h2,⟨h4,h5,fun k hk=>?_,List.mem_append_left _ sk.zero,fun k hk=>?_,fun k hk=>?_⟩,?_,?_,fun c o h=>?_⟩
        · rcases List.mem_append.mp hk with hk | hk
          · exact sk.yN k hk
          · exact h6 k hk
        · rcases List.mem_append.mp hk with hk | hk
          · exact List.mem_append_left _ (sk.sub k (List.mem_append_left _ hk))
          · exact List.mem_append_right _ hk
        · rcases List.mem_append.mp hk with hk | hk
          · by_cases hka:k=at_
            · subst hka
              refine .inr fun ds' e' he' j hj=>?_
              rw [hps] at he'
              cases he'
              exact h7 j hj
            · rcases sk.done k hk with hw | hd
              · rcases List.mem_append.mp hw with hw | hw
                · exact .inl (List.mem_append_left _ hw)
                · exact absurd (List.mem_singleton.mp hw) hka
              · exact .inr fun ds' e' he' j hj=>List.mem_append_left _ (hd ds' e' he' j hj)
          · exact .inl (List.mem_append_right _ hk)
        · rw [List.length_append] at hfew ⊢
          rw [List.length_append] at ⊢
          rw [hwl] at hm
          omega
        · rw [List.length_append,List.length_append]
          omega
        · exact h8 c o (s5 _ _ (s4 _ _ h)) (aC h nfs) (aC h nwH)
theorem vZ {f:Addr} {fd:FuncData} (F:bY K "heads" "heads" gn f fd) (Z:Bl mg) (O_reached:Own P w K mg base "reached" 4 ["plan"] jv) (O_ways_on:Own P w K mg base "ways_on" 3 ["end"] gN):br P w K mg base bU 5 f fd ["plan"] mU:=by
  refine F.ok (k:=4) iQ (fun vs H Q E h=>?_) (fun cdv A outer s H vs Q E hr h=>?_)
  · obtain⟨plv,ps,rfl,_⟩:=h
    rfl
  · obtain⟨plv,ps,rfl,hp,hin,hn0,hn,q⟩:=h
    refine⟨_,(ai (bu (i:=1) iQ.nd rfl (Or.inl rfl) (rF uj rfl Z.set ui))
      (ai (fb PassesOwn.never rfl (eC (aR O_reached (hr.mono (by decide)) rfl (aa (pv 0) af))) (aG (i:=2) iQ.nd rfl (Or.inl rfl))
      (au (fb PassesOwn.never rfl (eC (aR O_ways_on (hr.mono (by decide)) rfl (aa (bf bA (bf bA (pv 0) (pv 2) (fun _ _=>rfl)) ar (fun _ _=>rfl)) af))) (aG (i:=3) iQ.nd rfl (Or.inl rfl))
      (au (bO (aT rm (pv 3) (pv 2) (bo _))
      (au (dM (uo PySem.F.slot_set_add PySem.F.type_set_add qP (pv 1) (aa (pv 3) af))))
      bp)))))
      (au (aF (bF bB rfl Z.tuple cy (aa (aY (iS rfl) rfl Z.sorted hG (aa (pv 1) af)) af)))))),?_⟩
    obtain⟨pp,vs,rfl,e1,r1⟩:=aN.bM hp
    have hvl:=r1.len
    rw [List.length_map] at hvl
    refine⟨rfl,fun fs nfs=>?_⟩
    change (_:Hp->Prop) (upd H fs (bR P w fs []))
    have s1:=ah.new (o:=bR P w fs []) nfs
    have hf1:(upd H fs (bR P w fs [])) fs=some (bR P w fs (kI [])):=ae
    generalize (upd H fs (bR P w fs []))=H1 at s1 hf1
    refine⟨_,rfl,_,ps,rfl,hp.same s1 (jW ps),hin,hn0,hn,fun t ks H2 ht hks hlt hkl s2=>?_⟩
    have hf2:=s2 _ _ hf1
    have s12:=s1.trans s2
    refine⟨t,rfl,⟨_,ay.of ht⟩,fZ (K:=K) (a:=t) (xs:=vN ks) (fun i σ H'=>∃ (hs:List Nat) (u1 u2:Option V),σ = [some (.ref pp),some (.ref fs),u1,u2]/\H' fs=some (bR P w fs (kI hs))/\hs.Nodup/\(∀ k ∈ hs,k < ps.length)/\(∀ k,k ∈ hs ↔ ∃ j ∈ ks.take i,∃ ds e,ps[j]? = some (ds,e)/\k ∈ aP e/\k<=j)/\(∀ c o,H2 c=some o->c ≠ fs->H' c=some o)) ?_ ?_ ?_ ?_⟩
    · exact⟨[],_,_,rfl,hf2,List.nodup_nil,(fun _ h=>nomatch h),fun k=>⟨fun h=>(nomatch h),fun ⟨j,hj,_⟩=>(by simp at hj)⟩,fun c o h _=>h⟩
    · rintro i σ H3 hi ⟨hs,u1,u2,rfl,h1,h2,h3,h4,h5⟩
      exact ay.of (h5 _ _ ht (bH ht hf2 (by intro z;cases z)))
    · rintro i y σ H3 hi ⟨hs,u1,u2,rfl,h1,h2,h3,h4,h5⟩
      obtain⟨at_,hat,rfl⟩:∃ k,ks[i]? = some k/\y=V.int (k:Nat):=by
        rw [List.getElem?_map] at hi
        cases z:ks[i]? with
        | none=>rw [z] at hi;cases hi
        | some k=>rw [z] at hi;exact⟨k,rfl,(Option.some.inj hi).symm⟩
      have hatl:=hlt at_ (List.mem_of_getElem? hat)
      have hps:ps[at_]? = some ps[at_]:=by simp [hatl]
      generalize ps[at_] = pce at hps
      obtain⟨ds,e⟩:=pce
      obtain⟨p',xs',pc,da,ea,wsv,ep,e1',el',hx',e2,e3,r3,e4⟩:=gJ hp hps
      cases ep
      rw [e1] at e1'
      cases e1'
      have k3:∀ p zs,H p=some (.tup zs)->H3 p=some (.tup zs):=fun p zs h=>h5 _ _ (s12 _ _ h) (bH (s12 _ _ h) hf2 (by intro z;cases z))
      refine cM ?_
      refine⟨_,rfl,_,rfl,pp,_,_,_,rfl,rfl,ay.of (k3 _ _ e1),dt hx',pc,_,1,_,rfl,rfl,ay.of (k3 _ _ e2),gH,ea,e,rfl,k3 _ _ e4,fun wt H5 hwt s5=>?_⟩
      refine⟨wt,rfl,⟨_,ay.of hwt⟩,fZ (K:=K) (a:=wt) (xs:=vN (aP e)) (fun j σ H'=>∃ (hs':List Nat) (u2:Option V),σ = [some (.ref pp),some (.ref fs),some (.int (at_:Nat)),u2]/\H' fs=some (bR P w fs (kI hs'))/\hs'.Nodup/\(∀ k ∈ hs',k < ps.length)/\(∀ k,k ∈ hs' ↔ k ∈ hs\/(k ∈ (aP e).take j/\k<=at_))/\(∀ c o,H5 c=some o->c ≠ fs->H' c=some o)) ?_ ?_ ?_ ?_⟩
      · exact⟨hs,_,rfl,s5 _ _ h1,h2,h3,fun k=>⟨.inl,fun h=>h.elim id fun ⟨z,_⟩=>by simp at z⟩,fun c o h _=>h⟩
      · rintro j σ H6 hj ⟨hs',u2,rfl,g1,g2,g3,g4,g5⟩
        exact ay.of (g5 _ _ hwt (bH hwt (s5 _ _ h1) (by intro z;cases z)))
      · rintro j y σ H6 hj ⟨hs',u2,rfl,g1,g2,g3,g4,g5⟩
        obtain⟨k0,hk0,rfl⟩:∃ k,(aP e)[j]? = some k/\y=V.int (k:Nat):=by
          rw [List.getElem?_map] at hj
          cases z:(aP e)[j]? with
          | none=>rw [z] at hj;cases hj
          | some k=>rw [z] at hj;exact⟨k,rfl,(Option.some.inj hj).symm⟩
        have hk0m:=List.mem_of_getElem? hk0
        have hk0b:=qV hin hps k0 hk0m
        have htk:(aP e).take (j+1)=(aP e).take j ++ [k0]:=by rw [List.take_add_one,hk0];rfl
        refine cM ?_
        refine⟨_,rfl,_,rfl,_,_,rfl,rfl,_,rfl,?_⟩
        refine eI (fun hc=>?_) (fun hc=>?_)
        · have hle:k0<=at_:=by have:=of_decide_eq_true hc;omega
          have hfew:=eQ g2 g3
          refine⟨_,rfl,⟨fs,_,rfl,g1⟩,_,rfl,fs,_,Sum.inl (k0:Int),rfl,rfl,g1,(by rw [List.length_map];exact Nat.lt_of_le_of_lt (show hs'.length+1<=1002 by omega) (by decide)),?_⟩
          rw [uA]
          change (_:Hp->Prop) (upd H6 fs (bR P w fs (kI (LS.putIn hs' k0))))
          refine⟨LS.putIn hs' k0,_,rfl,ae,vI g2,fun k hk=>?_,fun k=>?_,fun c o h c1=>by rw [av c1];exact g5 c o h c1⟩
          · rcases LS.dZ.mp hk with hk | hk
            · exact g3 k hk
            · rw [hk];exact hk0b
          · rw [LS.dZ,g4,htk]
            constructor
            · rintro ((h | ⟨h,h'⟩) | rfl)
              · exact .inl h
              · exact .inr ⟨List.mem_append_left _ h,h'⟩
              · exact .inr ⟨List.mem_append_right _ (List.mem_singleton.mpr rfl),hle⟩
            · rintro (h | ⟨h,h'⟩)
              · exact .inl (.inl h)
              · rcases List.mem_append.mp h with h | h
                · exact .inl (.inr ⟨h,h'⟩)
                · exact .inr (List.mem_singleton.mp h)
        · have hle:¬ k0<=at_:=fun z=>hc (decide_eq_true (by omega))
          refine⟨hs',_,rfl,g1,g2,g3,fun k=>?_,g5⟩
          rw [g4,htk]
          constructor
          · rintro (h | ⟨h,h'⟩)
            · exact .inl h
            · exact .inr ⟨List.mem_append_left _ h,h'⟩
          · rintro (h | ⟨h,h'⟩)
            · exact .inl h
            · rcases List.mem_append.mp h with h | h
              · exact .inr ⟨h,h'⟩
              · rw [List.mem_singleton.mp h] at h';exact absurd h' hle
      · rintro σ H6 ⟨hs',u2,rfl,g1,g2,g3,g4,g5⟩
        rw [show (vN (aP e)).length=(aP e).length from List.length_map ..,List.take_length] at g4
        refine⟨hs',_,_,rfl,g1,g2,g3,fun k=>?_,fun c o h c1=>g5 c o (s5 _ _ (h5 c o h c1)) c1⟩
        rw [g4,h4,List.take_add_one,hat]
        constructor
        · rintro (⟨j,hj,r⟩ | ⟨h,h'⟩)
          · exact⟨j,List.mem_append_left _ hj,r⟩
          · exact⟨at_,List.mem_append_right _ (List.mem_singleton.mpr rfl),ds,e,hps,h,h'⟩
        · rintro⟨j,hj,ds',e',hp',h,h'⟩
          rcases List.mem_append.mp hj with hj | hj
          · exact .inl ⟨j,hj,ds',e',hp',h,h'⟩
          · have hj:j=at_:=List.mem_singleton.mp hj
            subst hj
            rw [hps] at hp'
            cases hp'
            exact .inr ⟨h,h'⟩
    · rintro σ H3 ⟨hs,u1,u2,rfl,h1,h2,h3,h4,h5⟩
      rw [show (vN ks).length=ks.length from List.length_map ..,List.take_length] at h4
      have hfew:=eQ h2 h3
      refine⟨_,rfl,fs,hs.map (fun k:Nat=>(k:Int)),rfl,(by rw [h1,qU];rfl),(by rw [List.length_map];omega),fun l ss hperm _ nl=>?_⟩
      obtain⟨ms,rfl,hms⟩:=jw hperm
      refine⟨l,_,rfl,.inl ⟨aW.of ae,?_⟩⟩
      rw [<-uw]
      intro t' nt
      have s3:ah H H3:=fun c o h=>h5 c o (s12 c o h) (aC h nfs)
      refine q t' ms _ ae (fun k=>(hms.mem_iff).trans ((h4 k).trans ?_)) (by rw [hms.length_eq];omega) ((s3.trans (ah.new nl)).trans (ah.new nt))
      constructor
      · rintro⟨j,hj,ds,e,r1,r2,r3⟩
        exact⟨j,ds,e,(hks j).mp hj,r1,r2,r3⟩
      · rintro⟨j,ds,e,hj,r1,r2,r3⟩
        exact⟨j,(hks j).mpr hj,ds,e,r1,r2,r3⟩
theorem ql {f:Addr} {fd:FuncData} (F:bY K "copy_for" "copy_for" en f fd) (Z:Bl mg)  : br P w K mg base bU 1 f fd ["lead", "tops", "places", "most"] (jx P w):=by
  refine F.ok (k:=0) kc (fun vs H Q E h=>?_) (fun cdv A outer s H vs Q E hr h=>?_)
  · obtain⟨la,tp,d,most,k,T,dl,hs,fv,ms,cs,tops,rfl,_⟩:=h
    rfl
  · obtain⟨la,tp,d,most,k,T,dl,hs,fv,ms,cs,tops,rfl,hla,rl,cd,lay,htp,hts,hd,ig,cc,q⟩:=h
    refine⟨_,(ai (bu (i:=4) kc.nd rfl (Or.inl rfl) (bf bA (pv 0) ar (fun _ _=>rfl)))
      (ai (bO (aT nv (pv 4) (pv 1) (by with_unfolding_all rfl))
      (au (aF (aQ (aa (pv 4) (aa (aQ af) af)))))
      bp)
      (ai (bO (PW.pt (v7 (aT (xu (pI hr)) (pv 0) (pv 2) (by with_unfolding_all rfl)) (sX (aT jE (aY so rfl Z.len cD (aa (pv 2) af)) (pv 3) (bo _)))))
      (au (aF (pv 0)))
      bp)
      (au (aF (aQ (aa (pv 4) (aa (aQ af) af)))))))),?_⟩
    refine⟨_,rfl,la,_,0,_,rfl,rfl,ay.of hla,fq,?_⟩
    have out:aK tops most cs (k,T)=(k,T0)->∀ t1 t2,H t1=none->(upd H t1 (.tup [])) t2=none->Q (.ref t2) (upd (upd H t1 (.tup [])) t2 (.tup [.int (k:Nat),.ref t1])):=fun e t1 t2 n1 n2=>by
      rw [e] at q
      have q2:=ah.new (o:=.tup [.int (k:Nat),.ref t1]) n2
      exact q t2 (.tuple [.int (k:Nat),.tuple []]) _ (.tup ae (.cons (.int _) (.cons (.tup (q2 _ _ ae) .nil) .nil))) ⟨_,FD.zero,rfl⟩ ((ah.new n1).trans q2)
    refine⟨_,rfl,_,rfl,tp,_,rfl,.inr (ay.of htp),rfl,qS _,_,rfl,?_⟩
    rw [show (if false=true then !nu (.int (k:Nat)) (vN hs) else nu (.int (k:Nat)) (vN hs))=decide (k ∈ hs) from mO k hs]
    by_cases hk:k ∈ hs
    · refine cG (decide_eq_true hk) ?_
      exact⟨_,rfl,(by show 0<=sizeLine;decide),fun t1 n1=>⟨ln2,fun t2 n2=>out (by unfold aK;rw [if_pos ((hts k).mp hk)]) t1 t2 n1 n2⟩⟩
    · refine bJ (decide_eq_false hk) ?_
      have hnt:¬ tops k:=fun z=>hk ((hts k).mpr z)
      obtain⟨hmem,_⟩:=cd.mem cc
      have hcl:(ms.map (·.1)).length=cs.length:=Paired.length cc
      have hml:ms.length=cs.length:=by rw [<-hcl,List.length_map]
      have hv:=iK dl 0 ms
      refine⟨_,rfl,_,rfl,la,d,dl,cw 0 ms,rfl,rfl,⟨hd,ig,cd.key lay,rl⟩,_,rfl,?_⟩
      by_cases hin:(k,T) ∈ cs
      · rw [if_pos (hmem.mpr hin)] at hv
        refine cG (by rw [hv];rfl) (cu ?_)
        exact⟨_,rfl,q la dl H rl (by unfold aK;rw [if_neg hnt,if_pos (.inl hin)];exact cd) (ah.refl H)⟩
      · rw [if_neg (fun z=>hin (hmem.mp z))] at hv
        refine bJ (by rw [hv];rfl) ?_
        refine⟨_,rfl,d,cw 0 ms,rfl,hd,_,rfl,_,_,rfl,rfl,_,rfl,?_⟩
        rw [kA]
        refine eI (fun hc=>?_) (fun hc=>?_)
        · have hlt:cs.length < most:=by have:=of_decide_eq_true hc;omega
          exact⟨_,rfl,q la dl H rl (by unfold aK;rw [if_neg hnt,if_pos (.inr hlt)];exact cd) (ah.refl H)⟩
        · have hlt:¬ cs.length < most:=fun z=>hc (decide_eq_true (by omega))
          exact⟨_,rfl,(by show 0<=sizeLine;decide),fun t1 n1=>⟨ln2,fun t2 n2=>out (by unfold aK;rw [if_neg hnt,if_neg (fun z=>z.elim hin hlt)]) t1 t2 n1 n2⟩⟩
theorem uG {f:Addr} {fd:FuncData} (F:bY K "end_to" "end_to" fD f fd) (Z:Bl mg) (O_without_ways:Own P w K mg base "without_ways" 4 ["end"] jo):br P w K mg base bU 5 f fd ["end", "ways"] mV:=by
 refine F.ok (k:=4) uE (fun vs H Q E h=>?_) (fun cdv A outer s H vs Q E hr h=>?_)
 ·obtain⟨ea,l,e,ns,rfl,_⟩:=h
  rfl
 ·obtain⟨ea,l,e,ns,rfl,he,hl,hns,hn2,q⟩:=h
  refine⟨_,(ai (bO (aT cX (aY bb rfl Z.len cD (aa (pv 1) af)) ar (bo _))
   (au (aF (aQ (aa bK (aa (bf d6 (pv 1) ar (fun _ _=>rfl)) af)))))
   bp)
   (au (aF (aX qH (aR O_without_ways (hr.mono (by decide)) rfl (aa (pv 0) af)) (bF bB rfl Z.tuple cy (aa (pv 1) af)))))),?_⟩
  refine⟨_,rfl,l,_,rfl,.inl (aW.of hl),rfl,_,rfl,?_⟩
  have hlen:(vN ns).length=ns.length:=List.length_map ..
  by_cases h1:ns.length=1
  ·obtain⟨a,rfl⟩:∃ a,ns = [a]:=List.length_eq_one_iff.mp h1
   refine cG (decide_eq_true rfl) ?_
   exact⟨_,rfl,l,_,0,_,rfl,rfl,aW.of hl,fq,ln2,fun t nt=>q t _ ae (ah.new nt)⟩
  ·refine bJ (decide_eq_false fun z=>h1 (by have:=V.int.inj z;omega)) ?_
   have hns:=hns.resolve_left h1
   refine⟨_,rfl,ea,e,rfl,he,fun t H1 ht s1=>⟨_,rfl,l,_,rfl,.inl ⟨aW.of (s1 _ _ hl),fun t2 nt2=>?_⟩⟩⟩
   have q2:=ah.new (o:=.tup (vN ns)) nt2
   have hhl:(fi e).length<=3:=by cases e <;> simp [fi]
   refine⟨t,t2,_,_,rfl,rfl,q2 _ _ ht,ae,Nat.le_of_lt (bw (by omega)),fun t3 H3 ht3 s3=>?_⟩
   refine q t3 H3 ?_ ((s1.trans q2).trans s3)
   have e1:iO e ns=vG e ns:=by
    match ns,h1 with
    | [],_=>rfl
    | [a],h=>exact absurd rfl h
    | _ :: _ :: _,_=>rfl
   rw [e1,vH hns]
   exact ht3
theorem qm {f:Addr} {fd:FuncData} (F:bY K "led_past" "led_past" er f fd) (Z:Bl mg) {tk_MOST_TO_LEAD:Tok} (G_MOST_TO_LEAD:mg "MOST_TO_LEAD" = some (.int 60 tk_MOST_TO_LEAD)) {C:Addr} (T:pG K C) (O_heads:Own P w K mg base "heads" 5 ["plan"] mU) (O_start:Own P w K mg base "start" 4 ["plan"] mT) (O_Row___init__:vg P w K mg base C "Row" 1 ["self", "first"] (iM P w C)) (O_Row_place_of:vf P w K mg base C "place_of" 1 ["self", "thing"] (iN P w C)) (O_behind:Own P w K mg base "behind" 3 ["facts", "deeds"] kq) (O_leads:Own P w K mg base "leads" 5 ["facts", "end"] (mS aA)) (O_copy_for:Own P w K mg base "copy_for" 1 ["lead", "tops", "places", "most"] (jx P w)) (O_end_to:Own P w K mg base "end_to" 5 ["end", "ways"] mV):br P w K mg base bU 7 f fd ["plan", "most"] (jA P w C):=by
  refine F.ok (k:=6) cf (fun vs H Q E h=>?_) (fun cdv A outer s H vs Q E hr h=>?_)
  · obtain⟨plv,ps,xs,most,rfl,_⟩:=h
    rfl
  · obtain⟨plv,ps,xs,most,rfl,hp,pok,nok,hx10,hn0,hn,hm1,hm3,q⟩:=h
    refine⟨_,(ai (bO (aT om (aY bb rfl Z.len cD (aa (pv 0) af)) (eO (v:=.int 60) rfl G_MOST_TO_LEAD ⟨_,rfl⟩) (bo _))
      (au uK)
      bp)
      (ai (bu (i:=2) cf.nd rfl (Or.inr rfl) (aR O_heads (hr.mono (by decide)) rfl (aa (pv 0) af)))
      (ai (oX (bu (i:=3) cf.nd rfl (Or.inr rfl) (xj O_Row___init__ (hr.mono (by decide)) rfl (aa (aQ (aa ar (aa (dW (aT nv ar (pv 2) (by with_unfolding_all rfl)) (aQ af) (aR O_start (hr.mono (by decide)) rfl (aa (pv 0) af))) af))) af))))
      (ai (bu (i:=4) cf.nd rfl (Or.inl rfl) (gC af))
      (ai (oM PassesOwn.never (aT jE (aY bb rfl Z.len cD (aa (pv 4) af)) (aY bb rfl Z.len cD (aa (fe (pv 3) rfl) af)) (bo _))
      (ai (dX (bf d6 (fe (pv 3) rfl) (aY bb rfl Z.len cD (aa (pv 4) af)) (fun _ _=>rfl)) (dG rfl (aZ (aG (i:=5) cf.nd rfl (Or.inl rfl)) (aZ (aG (i:=6) cf.nd rfl (Or.inl rfl)) dh))))
      (ai (dX (bf bA (pv 0) (pv 5) (fun _ _=>rfl)) (dG rfl (aZ (aG (i:=7) cf.nd rfl (Or.inl rfl)) (aZ (aG (i:=8) cf.nd rfl (Or.inl rfl)) dh))))
      (ai (bu (i:=9) cf.nd rfl (Or.inl rfl) (aR O_leads (hr.mono (by decide)) rfl (aa (aR O_behind (hr.mono (by decide)) rfl (aa (pv 6) (aa (pv 7) af))) (aa (pv 8) af))))
      (ai (iE (i:=10) ["lead"] ["copies", "tops", "most"] [3,2,1] rfl cf.nd rfl rfl rfl (eC (pv 9)) rfl (by decide +kernel) (by decide +kernel) (by decide +kernel) ⟨⟨rfl,.inl rfl,rfl⟩,⟨⟨rfl,.inl rfl,rfl⟩,⟨⟨rfl,.inl rfl,rfl⟩,True.intro⟩⟩⟩ (fun _ _ _ _=>(aG (i:=0) (show ((["lead"]:List Str)++(["copies", "tops", "most"]:List Str)).Nodup by decide +kernel) rfl (Or.inl rfl) (hf:=Or.inr rfl))) (fun _ _ _ _=>gc) (fun _ _ _ _=>(xi O_Row_place_of (pv 1) (hr.mono (by decide)) (aa (aR O_copy_for (hr.mono (by decide)) rfl (aa (pv 0) (aa (pv 2) (aa (xD (K:=K) rfl (pv 1) rfl) (aa (pv 3) af))))) af))))
      (au (dM (gW PySem.F.plainAttrs_list PySem.F.slot_list_append PySem.F.type_list_append dY (pv 4) (aa (aQ (aa (pv 7) (aa (aR O_end_to (hr.mono (by decide)) rfl (aa (pv 8) (aa (pv 10) af))) af))) af)))))))))
      (au (aF (aQ (aa (bF bB rfl Z.tuple cy (aa (pv 4) af)) (aa (bF bB rfl Z.tuple cy (aa (fe (pv 3) rfl) af)) af)))))))))),?_⟩
    obtain⟨pp,vs,rfl,e1,r1⟩:=aN.bM hp
    have hvl:=r1.len
    rw [List.length_map] at hvl
    have hin:=pok.yx
    refine⟨_,rfl,pp,_,rfl,.inr (ay.of e1),_,_,rfl,rfl,_,rfl,?_⟩
    refine bJ (decide_eq_false (by omega)) ?_
    refine⟨_,rfl,_,ps,rfl,hp,hin,hn0,hn,fun tp hs H1 htp hhs hsl s1=>?_⟩
    have hp1:=hp.same s1 (jW ps)
    have hal:(bh ps).length<=4000:=by
      have h1:=xy pok
      have h2:ps.length * (2 * 6+1)<=60 * 13:=Nat.mul_le_mul hn (Nat.le_refl 13)
      omega
    refine⟨fun σ' H'=>∃ (r m d ka:Addr) (d0:PyData),σ' = [some (.ref pp),some (.int (most:Nat)),some (.ref tp),some (.ref r),none,none,none,none,none,none,none]/\fj P w C H' r m d [(d0,ka)]/\CD (eS ps) d0/\H m=none/\H d=none/\H r=none/\ah H1 H',?_,?_⟩
    · have layc:pH (eS ps).2:=by
        unfold eS
        split
        · exact cx.zero.lay nok
        · exact (kB pok).lay nok
      refine⟨_,rfl,tp,_,rfl,.inr (ay.of htp),rfl,qS _,_,rfl,?_⟩
      rw [show (if false=true then !nu (.int 0) (vN hs) else nu (.int 0) (vN hs))=decide (0 ∈ hs) from mO 0 hs]
      by_cases h0':0 ∈ hs
      · have h0:=(hhs 0).mp h0'
        refine cG (decide_eq_true h0') ?_
        refine⟨(by show 0<=sizeLine;decide),fun t1 n1=>⟨ln2,fun ka nka=>fun r dx nx ndx nex=>?_⟩⟩
        have cd:=(show CD (eS ps) (.tuple [.int ((0:Nat):Int),.tuple []]) from by unfold eS;rw [if_pos h0];exact⟨_,FD.zero,rfl⟩)
        have nl:=cd.iz
        have q2:=ah.new (o:=.tup [.int 0,.ref t1]) nka
        have s3:=(ah.new (o:=.tup []) n1).trans q2
        have rd3:aN (upd (upd H1 t1 (.tup [])) ka (.tup [.int 0,.ref t1])) (.ref ka) (.tuple [.int ((0:Nat):Int),.tuple []]):=.tup ae (.cons (.int _) (.cons (.tup (q2 _ _ ae) .nil) .nil))
        generalize (upd (upd H1 t1 (.tup [])) ka (.tup [.int 0,.ref t1]))=H3 at q2 s3 rd3 nx ndx
        have s0:ah H3 (upd (upd H3 dx (.own r)) r (.ins C dx [])):=fun b o e=>by
          rw [av (aC e nx),av (aC e ndx)]
          exact e
        refine⟨r,dx,ka,_,rfl,ae,cd.key layc,rd3.same s0 nl,nl,fun m d H4 A4 k4 nm nd=>⟨rfl,?_⟩⟩
        exact⟨r,m,d,ka,_,rfl,A4,cd,s1.free (s3.free (s0.free nm)),s1.free (s3.free (s0.free nd)),s1.free (s3.free nx),fun c o e=>k4 c o (s0 c o (s3 c o e)) (aC (s3 c o e) nx)⟩
      · have h0:¬ ba ps 0:=fun z=>h0' ((hhs 0).mpr z)
        refine bJ (decide_eq_false h0') ?_
        refine⟨_,rfl,_,ps,xs,6,rfl,hp1,pok,(by omega),hal,fun v ss H2 rv hperm hsort s3'=>⟨ln2,fun ka nka=>fun r dx nx ndx nex=>?_⟩⟩
        have cd:=(show CD (eS ps) (.tuple [.int ((0:Nat):Int),jr ss]) from by unfold eS;rw [if_neg h0];exact⟨_,vL hperm hsort,rfl⟩)
        have nl:=cd.iz
        have q2:=ah.new (o:=.tup [.int 0,v]) nka
        have s3:=s3'.trans q2
        have rd3:aN (upd H2 ka (.tup [.int 0,v])) (.ref ka) (.tuple [.int ((0:Nat):Int),jr ss]):=.tup ae (.cons (.int _) (.cons (rv.same q2 (eR ss)) .nil))
        generalize (upd H2 ka (.tup [.int 0,v]))=H3 at q2 s3 rd3 nx ndx
        have s0:ah H3 (upd (upd H3 dx (.own r)) r (.ins C dx [])):=fun b o e=>by
          rw [av (aC e nx),av (aC e ndx)]
          exact e
        refine⟨r,dx,ka,_,rfl,ae,cd.key layc,rd3.same s0 nl,nl,fun m d H4 A4 k4 nm nd=>⟨rfl,?_⟩⟩
        exact⟨r,m,d,ka,_,rfl,A4,cd,s1.free (s3.free (s0.free nm)),s1.free (s3.free (s0.free nd)),s1.free (s3.free nx),fun c o e=>k4 c o (s0 c o (s3 c o e)) (aC (s3 c o e) nx)⟩
    rintro σ' H2 ⟨r,m,d,ka,d0,rfl,A2,cd0,nm,nd,nr,s2⟩
    have s12:=s1.trans s2
    have htp2:=s2 _ _ htp
    have cc2:j7 [(d0,ka)] [eS ps]:=.cons cd0 .nil
    refine⟨(by show 0<=sizeLine;decide),fun pz npz=>?_⟩
    have npzH:H pz=none:=s12.free npz
    have q3:=ah.new (o:=.lst []) npz
    have s3:=s12.trans q3
    have A3:=A2.mv cc2.iz (fun c o h _=>q3 c o h) (fun p zs h=>q3 _ _ h)
    have htp3:=q3 _ _ htp2
    have hz3:(upd H2 pz (.lst [])) pz=some (.lst []):=ae
    have npm:pz ≠ m:=(aC A2.mem npz).symm
    have npd:pz ≠ d:=(aC A2.jt npz).symm
    have npr:pz ≠ r:=by obtain⟨dx,h⟩:=A2.ob;exact (aC h npz).symm
    generalize (upd H2 pz (.lst []))=H3 at q3 s3 A3 hz3 htp3
    have c0ok:(eS ps).1 < ps.length/\cx xs (eS ps).2:=by
      unfold eS
      split
      · exact⟨hn0,cx.zero⟩
      · exact⟨hn0,kB pok⟩
    refine⟨fun fu σ H'=>∃ (ms:List (PyData × Addr)) (cs:List Cp) (outs:List Piece) (zs:List V) (u1 u2 u3 u4 u5 u6:Option V),σ = [some (.ref pp),some (.int (most:Nat)),some (.ref tp),some (.ref r),some (.ref pz),u1,u2,u3,u4,u5,u6]/\fj P w C H' r m d ms/\j7 ms cs/\gQ ps.length most cs/\(∀ c ∈ cs,c.1 < ps.length/\cx xs c.2)/\H' pz=some (.lst zs)/\aV H' zs (outs.map bQ)/\cY (ba ps) most ps fu cs outs=eN ps most/\fu+outs.length=most+ps.length/\outs.length<=cs.length/\H' tp=some (.tup (vN hs))/\ah H H',⟨most+ps.length,[(d0,ka)],[eS ps],[],[],_,_,_,_,_,_,rfl,A3,cc2,⟨by simp,Nat.le_trans (List.length_filter_le _ _) hm1⟩,(fun c hc=>by rw [List.mem_singleton.mp hc];exact c0ok),hz3,.nil,rfl,rfl,Nat.zero_le _,htp3,s3⟩,?_⟩
    clear A2 A3 hz3 s3 q3 htp3 cc2 cd0 npz htp2 s2
    rintro fu σ H4 ⟨ms,cs,outs,zs,u1,u2,u3,u4,u5,u6,rfl,A4,cc4,pN,hcs,hz4,rz4,hloop,hfu,hoc,htp4,s4⟩
    obtain⟨dx4,hob4⟩:=A4.ob
    have hzl:zs.length=outs.length:=by have:=rz4.len;rw [List.length_map] at this;exact this
    have hml:ms.length=cs.length:=by have:=Paired.length cc4;rw [List.length_map] at this;exact this
    have hml':(ms.map fun p=>V.ref p.2).length=ms.length:=List.length_map ..
    have hcn:=pN.len fun c hc=>(hcs c hc).1
    refine⟨_,rfl,pz,_,rfl,.inl (aW.of hz4),_,rfl,r,C,dx4,_,_,rfl,hob4,T.cl,T.members,fh,m,_,rfl,.inl (aW.of A4.mem),_,_,rfl,rfl,_,rfl,?_⟩
    refine eI (fun hc=>?_) (fun hc=>?_)
    · have hlt:outs.length < ms.length:=by have:=of_decide_eq_true hc;omega
      obtain⟨fu,rfl⟩:∃ f',fu=f' + 1:=⟨fu - 1,by omega⟩
      have hmsi:ms[outs.length]? = some ms[outs.length]:=by simp [hlt]
      generalize ms[outs.length] = pm at hmsi
      obtain⟨c,hci,cd⟩:=hV cc4 (i:=outs.length) (x:=pm.1) (by rw [List.getElem?_map,hmsi];rfl)
      have hcm:=List.mem_of_getElem? hci
      obtain⟨hcl,hct⟩:=hcs c hcm
      have hps:ps[c.1]? = some ps[c.1]:=by simp [hcl]
      generalize ps[c.1] = pce at hps
      rw [fX hci hps] at hloop
      obtain⟨ds,e⟩:=pce
      obtain⟨p',xs',pc,da,ea,ws,ep,e1',el',hx',e2,e3,r3,e4⟩:=gJ hp hps
      cases ep
      rw [e1] at e1'
      cases e1'
      have dok:=pok.lg _ (List.mem_of_getElem? hps)
      have eok:=pok.ends _ (List.mem_of_getElem? hps)
      obtain⟨fd,hfd,epm⟩:=id cd
      have rdm:=(A4.keys pm (List.mem_of_getElem? hmsi)).2
      rw [epm] at rdm
      obtain⟨pa,pvs,ere,hpm,rpv⟩:=aN.bM rdm
      cases ere
      obtain⟨y1,t1,rfl,q1,rpv⟩:=rpv.cons_inv
      obtain⟨y2,t2,rfl,q2,rpv⟩:=rpv.cons_inv
      have z:=rpv.nil_inv
      subst z
      rw [q1.int_inv] at hpm
      have fv2:FV H4 y2 c.2:=hfd.fv q2
      refine⟨_,fun σ' H' h=>⟨fu,Nat.lt_succ_self fu,h⟩,?_⟩
      refine⟨_,rfl,r,C,dx4,_,_,rfl,hob4,T.cl,T.members,fh,_,rfl,pz,_,rfl,.inl (aW.of hz4),m,_,_,_,rfl,rfl,aW.of A4.mem,dt (j:=zs.length) (by rw [hzl,List.getElem?_map,hmsi];rfl),pm.2,_,rfl,ay.of hpm,rfl,_,_,rfl,_,_,rfl,rfl,?_⟩
      refine⟨_,rfl,_,rfl,pp,_,_,_,rfl,rfl,ay.of (s4 _ _ e1),dt hx',pc,_,rfl,ay.of (s4 _ _ e2),rfl,_,_,rfl,_,_,rfl,rfl,?_⟩
      have bok:=hct.sx dok.2
      refine⟨_,rfl,_,rfl,y2,da,ws,ds,c.2,10,rfl,fv2,s4 _ _ e3,r3.same s4 (dI ds),(fun ss hs nd=>Nat.le_trans (hct.cn ss hs nd) hx10),(by have:ds.length<=6:=dok.1;omega),fun gv H5 g5 s5=>⟨_,rfl,gv,ea,aw c.2 ds,e,rfl,g5,s5 _ _ (s4 _ _ e4),(fun ss hs nd=>Nat.le_trans (bok.cn ss hs nd) (by omega)),fun at_ vs2 H6 hat pv s6=>?_⟩⟩
      have lok:=qX bok eok
      obtain⟨hll,hl2⟩:=pM (e:=e) bok
      have s46:=s5.trans s6
      have A6:=A4.mv cc4.iz (fun c o h _=>s46 c o h) (fun p zs h=>s46 _ _ h)
      have hz6:=s46 _ _ hz4
      have htp6:=s46 _ _ htp4
      have hvl:vs2.length=(bT (aw c.2 ds) e).length:=Paired.length pv
      generalize hls:bT (aw c.2 ds) e=ls at hloop lok hll hl2 pv hvl
      refine⟨_,rfl,at_,rfl,⟨_,ay.of hat⟩,fun acc na=>?_⟩
      have nam:acc ≠ m:=(aC A6.mem na).symm
      have nad:acc ≠ d:=(aC A6.jt na).symm
      have nar:acc ≠ r:=by obtain⟨dx,h⟩:=A6.ob;exact (aC h na).symm
      have kb:∀ {H':Hp},iJ m d H6 H'->∀ p zs,H6 p=some (.tup zs)->H' p=some (.tup zs):=fun b p zs h=>b p _ h (bH h A6.mem (by intro z;cases z)) (bH h A6.jt (by intro z;cases z))
      refine kY (K:=K) (a:=at_) (xs:=vs2) (fun i ys τ H'=>∃ (cv:Option V) (ms':List (PyData × Addr)),τ = [cv,some (.ref r),some (.ref tp),some (.int (most:Nat))]/\fj P w C H' r m d ms'/\j7 ms' (bD (ba ps) most cs (ls.take i)).1/\ys=vN (bD (ba ps) most cs (ls.take i)).2/\H' acc=some (.lst ys)/\iJ m d H6 H') ?_ ?_ ?_ ?_
      · have qn:=ah.new (o:=.lst []) na
        exact⟨none,ms,rfl,A6.mv cc4.iz (fun c o h _=>qn c o h) (fun p zs h=>qn _ _ h),cc4,rfl,ae,iJ.of_same qn⟩
      · rintro i ys τ H7 hi ⟨cv,ms',rfl,A7,cc7,rfl,ha,b7⟩
        refine⟨ay.of (kb b7 _ _ hat),ha,bw ?_⟩
        obtain⟨_,_,hlen,_⟩:=fM (tops:=ba ps) (ls:=ls.take i) (ns:=[]) pN hcs fun c hc=>lok c (List.mem_of_mem_take hc)
        rw [List.length_map]
        unfold bD
        rw [hlen,List.length_take]
        show 0+_<=_
        omega
      · rintro i y ys τ H7 hi ⟨cv,ms',rfl,A7,cc7,rfl,ha,b7⟩
        obtain⟨pr,hpr,qa,u,rfl,hq,fvu⟩:=hV pv hi
        obtain⟨k,U⟩:=pr
        obtain⟨hkl,hUok⟩:=lok _ (List.mem_of_getElem? hpr)
        obtain⟨cok7,hcs7,_,_⟩:=fM (tops:=ba ps) (ls:=ls.take i) (ns:=[]) pN hcs fun c hc=>lok c (List.mem_of_mem_take hc)
        have hcn7:=gQ.len cok7 fun c hc=>(hcs7 c hc).1
        have hml7:ms'.length=(bD (ba ps) most cs (ls.take i)).1.length:=by have:=Paired.length cc7;rw [List.length_map] at this;exact this
        have hnx:=qe (ba ps) most (cs:=cs) hpr
        have fvu7:=fvu.aI (kb b7)
        obtain⟨fdu,hfdu,ru⟩:=fvu7.fd
        have hq7:=kb b7 _ _ hq
        have cdl:CD (k,U) (.tuple [.int (k:Nat),fdu]):=⟨fdu,hfdu,rfl⟩
        obtain⟨dx7,hob7⟩:=A7.ob
        have htp7:=kb b7 _ _ htp6
        refine cM ?_
        refine mD ?_
        refine cu ?_
        refine⟨_,rfl,r,dx7,_,rfl,hob7,pF,_,rfl,_,rfl,_,rfl,r,C,dx7,_,_,rfl,hob7,T.cl,T.places,fL,_,rfl,qa,tp,d,most,k,U,_,hs,u,ms',_,ba ps,rfl,hq7,.tup hq7 (.cons (.int _) (.cons ru .nil)),cdl,hUok.lay nok,htp7,hhs,A7.jt,A7.ig,cc7,fun a d' H8 rd' cd' s8=>?_⟩
        have A8:=A7.mv cc7.iz (fun c o h _=>s8 c o h) (fun p zs h=>s8 _ _ h)
        have hcpok:cx xs (aK (ba ps) most (bD (ba ps) most cs (ls.take i)).1 (k,U)).2:=by
          unfold aK
          split
          · exact cx.zero
          · split
            · exact hUok
            · exact cx.zero
        refine⟨r,m,d,a,d',ms',rfl,A8,(by rw [hml7];unfold bD;omega),cd'.key (hcpok.lay nok),rd',cd'.iz,cc7.iz,fun H9 A9 b9=>?_⟩
        have ha9:=b9 _ _ (s8 _ _ ha) nam nad
        have cc9:=j7.put (a:=a) cc7 cd'
        have eix:=(cd'.mem cc9).2
        rw [eix]
        refine⟨ha9,_,iL ms' d' a,rfl,?_,?_,?_,ae,fun c' o h c1 c2=>?_⟩
        · refine A9.mv cc9.iz (fun x o h z=>?_) (fun p zs h=>by rw [av (bH h ha9 (by intro z;cases z))];exact h)
          rw [av ?_]
          · exact h
          · rcases z with rfl | rfl | rfl
            · exact nar.symm
            · exact nam.symm
            · exact nad.symm
        · rw [hnx];exact cc9
        · rw [hnx]
          show _=((bD (ba ps) most cs (ls.take i)).2 ++ [_]).map _
          rw [List.map_append]
          rfl
        · rw [av (aC h na)]
          exact b9 c' o (s8 _ _ (b7 c' o h c1 c2)) c1 c2
      rintro ys τ H7 ⟨cv,ms',rfl,A7,cc7,rfl,ha,b7⟩
      rw [hvl,List.take_length] at cc7 ha
      obtain⟨cok7,hcs7,hlen7,more,emore⟩:=fM (tops:=ba ps) (ls:=ls) (ns:=[]) pN hcs lok
      have hcn7:=gQ.len cok7 fun c hc=>(hcs7 c hc).1
      have s7:ah H H7:=fun c o h=>b7 c o (s46 c o (s4 c o h)) (aC h nm) (aC h nd)
      have hz7:H7 pz=some (.lst zs):=b7 _ _ hz6 npm npd
      have hlen7':(bD (ba ps) most cs ls).2.length=ls.length:=by unfold bD;rw [hlen7];show 0+_=_;omega
      refine⟨_,rfl,.inl ⟨rfl,_,aW.of hz7⟩,_,rfl,_,rfl,_,rfl,ea,acc,e,(bD (ba ps) most cs ls).2,rfl,s7 _ _ e4,ha,(by rw [hlen7'];exact hll),(by rw [hlen7'];exact hl2),fun t3 H8 ht3 s8=>⟨ln2,fun t4 nt4=>?_⟩⟩
      have q4:=ah.new (o:=.tup [.ref da,.ref t3]) nt4
      have s79:=s8.trans q4
      have ht9:=q4 _ _ ht3
      have h49:(upd H8 t4 (.tup [.ref da,.ref t3])) t4=some (.tup [.ref da,.ref t3]):=ae
      generalize (upd H8 t4 (.tup [.ref da,.ref t3]))=H9 at q4 s79 ht9 h49
      have hz9:=s79 _ _ hz7
      refine⟨pz,_,_,rfl,rfl,hz9,bw (by omega),?_⟩
      have kt:∀ p xs,H9 p=some (.tup xs)->(upd H9 pz (.lst (zs ++ [.ref t4]))) p=some (.tup xs):=fun p xs h=>by rw [av (bH h hz9 (by intro z;cases z))];exact h
      have s9:=s7.trans s79
      have kt49:∀ p xs,H4 p=some (.tup xs)->(upd H9 pz (.lst (zs ++ [.ref t4]))) p=some (.tup xs):=fun p xs h=>kt _ _ (s79 _ _ (kb b7 _ _ (s46 _ _ h)))
      refine⟨ms',(bD (ba ps) most cs ls).1,outs ++ [(ds,iO e (bD (ba ps) most cs ls).2)],_,_,_,_,_,_,_,rfl,A7.mv cc7.iz (fun x o h z=>?_) (fun p zs h=>kt _ _ (s79 _ _ h)),cc7,cok7,hcs7,ae,?_,hloop,(by rw [List.length_append];show fu+(_+1)=_;omega),?_,kt49 _ _ htp4,s9.put npzH⟩
      · rw [av ?_]
        · exact s79 _ _ h
        · rcases z with rfl | rfl | rfl
          · exact npr.symm
          · exact npm.symm
          · exact npd.symm
      · rw [List.map_append]
        have rd4:aN H9 (.ref t4) (bQ (ds,iO e (bD (ba ps) most cs ls).2)):=.tup h49 (.cons (.tup (s9 _ _ e3) (r3.same s9 (dI ds))) (.cons (uv ht9) .nil))
        exact aV.app (rz4.aI kt49 (aS outs)) (rd4.aI kt (cE _))
      · have:(bD (ba ps) most cs ls).1.length=cs.length+more.length:=by unfold bD;rw [emore,List.length_append]
        rw [this,List.length_append]
        show _+1<=_
        omega
    · have hnl:¬ outs.length < ms.length:=fun z=>hc (decide_eq_true (by omega))
      rw [hX (List.getElem?_eq_none (by omega))] at hloop
      rw [<-hloop] at q
      refine⟨_,rfl,pz,_,rfl,.inl ⟨aW.of hz4,fun t1 n1=>?_⟩⟩
      have q1:=ah.new (o:=.tup zs) n1
      refine⟨_,rfl,r,C,dx4,_,_,rfl,q1 _ _ hob4,T.cl,T.members,fh,m,_,rfl,.inl ⟨aW.of (q1 _ _ A4.mem),fun t2 n2=>⟨ln2,fun t3 n3=>?_⟩⟩⟩
      have q2:=ah.new (o:=.tup (ms.map fun p=>V.ref p.2)) n2
      have q3:=ah.new (o:=.tup [.ref t1,.ref t2]) n3
      have q13:=(q1.trans q2).trans q3
      refine q (.ref t3) (ms.map (·.1)) _ cc4 (.tup ae (.cons (.tup (q3 _ _ (q2 _ _ ae)) (rz4.same q13 (aS outs))) (.cons (.tup (q3 _ _ ae) (qY fun p hp=>(A4.keys p hp).2.same q13 (cc4.iz p hp))) .nil))) (s4.trans q13)
theorem sN {f:Addr} {fd:FuncData} (F:bY K "_law_bag" "_law_bag" eZ f fd) (Z:Bl mg)  : br P w K mg base bU 1 f fd ["script", "k"] (rN K):=by
 refine F.ok (k:=0) iR (fun vs H Q E h=>?_) (fun cdv A outer s H vs Q E hr h=>?_)
 ·obtain⟨a,ns,k,rfl,_⟩:=h
  rfl
 ·obtain⟨a,ns,k,rfl,hS,hk,q⟩:=h
  refine⟨_,(ai (bu (i:=2) iR.nd rfl (Or.inl rfl) ar)
   (ai (bO (aT jE (pv 1) (aY bb rfl Z.len cD (aa (pv 0) af)) (bo _))
   (au (bu (i:=2) iR.nd rfl (Or.inl rfl) (aX gB (bf d6 (pv 0) (pv 1) (fun _ _=>rfl)) (aX xc (aX oQ ar ar) (aX oQ ar ar)))))
   bp)
   (ai (bO (aT jE (pv 2) (aX oQ ar ar) (bo _))
   (au (aF (gC (aa ar (aa (aX dH ar (aX gB (aX dH (aX fI (pv 2) ar) (aX fI ar (pv 1))) ar)) af)))))
   bp)
   (au (aF (gC (aa (pv 2) (aa (aX dH ar (aX gB (aX dH (pv 2) (pv 1)) ar)) af)))))))),?_⟩
  refine⟨_,rfl,_,rfl,_,_,rfl,.inl hS,_,_,rfl,rfl,_,rfl,?_⟩
  refine eI (fun hc=>?_) (fun hc=>?_)
  ·have hl:k < ((ns.map V.int).length:Nat):=of_decide_eq_true hc
   obtain⟨v,hv,hm⟩:=ze hk hl
   obtain⟨z,_,rfl⟩:=List.mem_map.mp hm
   refine⟨_,rfl,_,rfl,_,_,_,_,rfl,rfl,hS,hv,10,60,rfl,rfl,⟨by decide,by decide,by decide⟩,10,60,rfl,rfl,⟨by decide,by decide,by decide⟩,_,_,rfl,rfl,(by unfold IntMulOk;decide +kernel),_,_,rfl,rfl,(show (0:Int) < 10 ^ (60:Int).toNat * 10 ^ (60:Int).toNat by decide +kernel),?_⟩
   refine⟨_,rfl,10,18,rfl,rfl,⟨by decide,by decide,by decide⟩,_,_,rfl,rfl,_,rfl,?_⟩
   refine eI (fun hd=>?_) (fun hd=>?_)
   ·refine⟨_,rfl,_,_,rfl,rfl,.inr ⟨by decide,by decide⟩,_,rfl,_,_,rfl,rfl,.inl ⟨by decide,by decide⟩,_,_,rfl,rfl,_,_,rfl,rfl,(show (0:Int) < 2147483646 by decide),_,_,rfl,rfl,ln2,fun p hp=>?_⟩
    exact q p _ hp ⟨_,_,ae,by omega,by omega⟩ (ah.new hp)
   ·refine⟨_,rfl,_,rfl,_,rfl,_,_,rfl,rfl,_,_,rfl,rfl,(show (0:Int) < 2147483646 by decide),_,_,rfl,rfl,ln2,fun p hp=>?_⟩
    exact q p _ hp ⟨_,_,ae,by omega,by omega⟩ (ah.new hp)
  ·refine⟨_,rfl,10,18,rfl,rfl,⟨by decide,by decide,by decide⟩,_,_,rfl,rfl,_,rfl,?_⟩
   refine eI (fun hd=>?_) (fun hd=>?_)
   ·refine⟨_,rfl,_,_,rfl,rfl,.inr ⟨by decide,by decide⟩,_,rfl,_,_,rfl,rfl,.inl ⟨by decide,by decide⟩,_,_,rfl,rfl,_,_,rfl,rfl,(show (0:Int) < 2147483646 by decide),_,_,rfl,rfl,ln2,fun p hp=>?_⟩
    exact q p _ hp ⟨_,_,ae,by omega,by omega⟩ (ah.new hp)
   ·refine⟨_,rfl,_,rfl,_,rfl,_,_,rfl,rfl,_,_,rfl,rfl,(show (0:Int) < 2147483646 by decide),_,_,rfl,rfl,ln2,fun p hp=>?_⟩
    exact q p _ hp ⟨_,_,ae,by omega,by omega⟩ (ah.new hp)
theorem qo {f:Addr} {fd:FuncData} (F:bY K "_law_take" "_law_take" eu f fd) (Z:Bl mg)  : br P w K mg base bU 1 f fd ["bag", "many"] oW:=by
 refine F.ok (k:=0) kd (fun vs H Q E h=>?_) (fun cdv A outer s H vs Q E hr h=>?_)
 ·obtain⟨b,m,rfl,_⟩:=h
  rfl
 ·obtain⟨b,m,rfl,⟨x,y,hb,h0,h1⟩,hm,q⟩:=h
  refine⟨_,(ai (bO (aT om (bf d6 (pv 0) ar (fun _ _=>rfl)) ar (bo _))
   (ai (bu (i:=2) kd.nd rfl (Or.inl rfl) (aX gB (bf d6 (pv 0) ar (fun _ _=>rfl)) (pv 1)))
   (ai (dX (aX u7 (bf d6 (pv 0) ar (fun _ _=>rfl)) (pv 1)) (oK (pv 0) ar set_list))
   (au (aF (pv 2)))))
   bp)
   (ai (dX (aX gB (aX fI (bf d6 (pv 0) ar (fun _ _=>rfl)) ar) ar) (oK (pv 0) ar set_list))
   (au (aF (aX gB (aX wO (aX gB (aX fI (bf d6 (pv 0) ar (fun _ _=>rfl)) (bf d6 (pv 0) ar (fun _ _=>rfl))) ar) ar) (pv 1)))))),?_⟩
  refine⟨_,rfl,b,_,0,_,rfl,rfl,aW.of hb,fq,_,_,rfl,rfl,_,rfl,?_⟩
  refine eI (fun hc=>?_) (fun hc=>?_)
  ·refine⟨_,rfl,b,_,0,_,rfl,rfl,aW.of hb,fq,_,rfl,_,_,rfl,rfl,hm.1,?_⟩
   refine⟨_,rfl,b,_,0,_,rfl,rfl,aW.of hb,fq,_,rfl,_,_,rfl,rfl,hm,_,rfl,b,_,0,0,rfl,rfl,hb,rfl,?_⟩
   refine⟨_,rfl,?_⟩
   exact q _ _ (Int.emod_nonneg _ (by have:=hm.1;omega)) (Int.emod_lt_of_pos _ hm.1) ⟨_,_,ae,h0,h1⟩ Fix.wo
  ·refine⟨_,rfl,b,_,1,_,rfl,rfl,aW.of hb,gH,_,_,rfl,rfl,.inr ⟨by decide,by decide⟩,_,_,rfl,rfl,(show (0:Int) < 2147483647 by decide),_,rfl,b,_,1,1,rfl,rfl,hb,rfl,?_⟩
   refine⟨_,rfl,b,_,1,_,rfl,rfl,aW.of ae,gH,_,rfl,b,_,1,_,rfl,rfl,aW.of ae,gH,_,_,rfl,rfl,.inl ⟨by omega,by omega⟩,_,_,rfl,rfl,(show (0:Int) < 2147483629 by decide),_,_,rfl,rfl,⟨by decide,by decide⟩,_,rfl,_,_,rfl,rfl,hm.1,?_⟩
   exact q _ _ (Int.emod_nonneg _ (by have:=hm.1;omega)) (Int.emod_lt_of_pos _ hm.1) ⟨_,_,ae,by omega,by omega⟩ Fix.wo
theorem sO {f:Addr} {fd:FuncData} (F:bY K "_law_yes" "_law_yes" e6 f fd) (Z:Bl mg)  : br P w K mg base bU 1 f fd ["end", "worth"] pU:=by
 refine F.ok (k:=0) sG (fun vs H Q E h=>?_) (fun cdv A outer s H vs Q E hr h=>?_)
 ·obtain⟨ea,b,x,t,w,p,q,rfl,_⟩:=h
  rfl
 ·obtain⟨ea,b,x,t,w,p,q,rfl,he,k⟩:=h
  refine⟨_,(au (aF (mn jE (pv 1) (bf bA (pv 0) ar (fun _ _=>rfl)) (bo _)))),?_⟩
  exact⟨_,rfl,_,rfl,ea,_,2,_,rfl,rfl,ay.of he,at2,_,_,rfl,rfl,k⟩
theorem qp {f:Addr} {fd:FuncData} (F:bY K "_law_kept" "_law_kept" eB f fd) (Z:Bl mg)  : br P w K mg base bU 1 f fd ["end", "count"] m5:=by
 refine F.ok (k:=0) qg (fun vs H Q E h=>?_) (fun cdv A outer s H vs Q E hr h=>?_)
 ·obtain⟨ea,e,n,rfl,_⟩:=h
  rfl
 ·obtain⟨ea,e,n,rfl,he,hq,q⟩:=h
  refine⟨_,(ai (bO (aT cX (aY bb rfl Z.len cD (aa (pv 0) af)) ar (bo _))
   (au (aF (aQ (aa bK (aa (aY (fJ rfl) rfl Z.min ja (aa (bf bA (pv 0) ar (fun _ _=>rfl)) (aa (aX fc (pv 1) ar) af))) af)))))
   bp)
   (ai (bO (aT cX (aY bb rfl Z.len cD (aa (pv 0) af)) ar (bo _))
   (au (aF (aX qH (ki mH (pv 0) mr (mw ar)) (aQ (aa (aY (fJ rfl) rfl Z.min ja (aa (bf bA (pv 0) ar (fun _ _=>rfl)) (aa (aX fc (pv 1) ar) af))) (aa (aY (fJ rfl) rfl Z.min ja (aa (bf bA (pv 0) ar (fun _ _=>rfl)) (aa (aX fc (pv 1) ar) af))) af))))))
   bp)
   (au (aF (pv 0))))),?_⟩
  refine⟨_,rfl,ea,_,rfl,.inr (ay.of he),rfl,_,rfl,?_⟩
  cases e with
  | stop =>
   refine bJ (show decide (V.int ((1:Nat):Int)=V.int 2)=false by decide +kernel) ?_
   refine⟨_,rfl,ea,_,rfl,.inr (ay.of he),rfl,_,rfl,?_⟩
   refine bJ (show decide (V.int ((1:Nat):Int)=V.int 5)=false by decide +kernel) ?_
   exact⟨_,rfl,q ea H he (ah.refl H)⟩
  | go p =>
   refine cG (show decide (V.int ((2:Nat):Int)=V.int 2)=true by decide +kernel) ?_
   have hp:p < n:=hq p (List.mem_singleton.mpr rfl)
   refine⟨_,rfl,ea,_,1,_,rfl,rfl,ay.of he,gH,_,rfl,_,_,rfl,rfl,_,_,rfl,ln2,fun t nt=>?_⟩
   rw [show (if ((n:Nat):Int) - 1 < ((p:Nat):Int) then ((n:Nat):Int) - 1 else ((p:Nat):Int))=((p:Nat):Int) from if_neg (by omega)]
   exact q t _ ae (ah.new nt)
  | bL b x m p r =>
   refine bJ (show decide (V.int ((5:Nat):Int)=V.int 2)=false by decide +kernel) ?_
   refine⟨_,rfl,ea,_,rfl,.inr (ay.of he),rfl,_,rfl,?_⟩
   refine cG (show decide (V.int ((5:Nat):Int)=V.int 5)=true by decide +kernel) ?_
   have hp:p < n:=hq p (List.mem_cons_self ..)
   have hr':r < n:=hq r (List.mem_cons_of_mem _ (List.mem_cons_self ..))
   refine⟨_,rfl,_,rfl,sj (e:=.bL b x m p r) he fun t1 H1 ht1 s1=>?_⟩
   have he1:=s1 _ _ he
   refine⟨_,rfl,ea,_,3,_,rfl,rfl,ay.of he1,zu,_,rfl,_,_,rfl,rfl,_,_,rfl,?_⟩
   refine⟨_,rfl,ea,_,4,_,rfl,rfl,ay.of he1,zy,_,rfl,_,_,rfl,rfl,_,_,rfl,ln2,fun t2 nt2=>?_⟩
   rw [show (if ((n:Nat):Int) - 1 < ((p:Nat):Int) then ((n:Nat):Int) - 1 else ((p:Nat):Int))=((p:Nat):Int) from if_neg (by omega),show (if ((n:Nat):Int) - 1 < ((r:Nat):Int) then ((n:Nat):Int) - 1 else ((r:Nat):Int))=((r:Nat):Int) from if_neg (by omega)]
   have q2:=ah.new (o:=.tup [.int (p:Nat),.int (r:Nat)]) nt2
   exact⟨t1,t2,_,_,rfl,rfl,q2 _ _ ht1,ae,(by show 5<=sizeLine;decide),fun t3 H3 ht3 s3=>q t3 H3 ht3 ((s1.trans q2).trans s3)⟩
theorem sP {f:Addr} {fd:FuncData} (F:bY K "_law_row" "_law_row" e7 f fd) (Z:Bl mg) (O_law_take:Own P w K mg base "_law_take" 1 ["bag", "many"] oW) (O_law_kept:Own P w K mg base "_law_kept" 1 ["end", "count"] m5):br P w K mg base bU 2 f fd ["bag"] pT:=by
  refine F.ok (k:=1) fo (fun vs H Q E h=>?_) (fun cdv A outer s H vs Q E hr h=>?_)
  · obtain⟨b,rfl,_⟩:=h
    rfl
  · obtain⟨b,rfl,hB,q⟩:=h
    refine⟨_,(ai (bu (i:=1) fo.nd rfl (Or.inl rfl) (aX dH ar (aR O_law_take (hr.mono (by decide)) rfl (aa (pv 0) (aa ar af)))))
      (ai (bu (i:=2) fo.nd rfl (Or.inl rfl) (gC (aa (aQ (aa (aQ (aa (aQ (aa bK (aa bK af))) af)) (aa (aQ (aa bK (aa ar af))) af))) af)))
      (ai (fb PassesOwn.never rfl (nc rfl Z.range (aa (pv 1) af)) (aG (i:=3) fo.nd rfl (Or.inl rfl))
      (ai (dM (gW PySem.F.plainAttrs_list PySem.F.slot_list_append PySem.F.type_list_append dY (pv 2) (aa (aQ (aa (aQ (aa (aQ (aa bK (aa bK af))) af)) (aa (aQ (aa bK (aa bK (aa (aX fc (aR O_law_take (hr.mono (by decide)) rfl (aa (pv 0) (aa ar af))) ar) (aa (aX dH (aX fI ar (pv 3)) ar) (aa (aX dH (aX fI ar (pv 3)) ar) af)))))) af))) af)))
      (au (dM (gW PySem.F.plainAttrs_list PySem.F.slot_list_append PySem.F.type_list_append dY (pv 2) (aa (aQ (aa (aQ (aa (aQ (aa bK (aa bK (aa ar af)))) af)) (aa (aQ (aa bK (aa (aY (fJ rfl) rfl Z.min ja (aa (aX dH (aX fI ar (pv 3)) ar) (aa (aX dH (aX fI ar (pv 1)) ar) af))) af))) af))) af))))))
      (ai (dM (gW PySem.F.plainAttrs_list PySem.F.slot_list_append PySem.F.type_list_append dY (pv 2) (aa (aQ (aa (aQ (aa (aQ (aa bK (aa bK af))) af)) (aa (aQ (aa bK af)) af))) af)))
      (ai (bu (i:=4) fo.nd rfl (Or.inr rfl) (aY bb rfl Z.len cD (aa (pv 2) af)))
      (au (aF (bF bB rfl Z.tuple cy (aa (eJ ["deeds", "end"] ["count"] [4] rfl (ij (pv 2)) rfl (by decide +kernel) (by decide +kernel) (by decide +kernel) ⟨⟨rfl,.inl rfl,rfl⟩,True.intro⟩ (fun _ _ _ _=>(mB (K:=K) (n:=2) rfl (dG (n:=2) rfl (aZ (aG (i:=0) (show ((["deeds", "end"]:List Str)++(["count"]:List Str)).Nodup by decide +kernel) rfl (Or.inl rfl) (hf:=Or.inr rfl)) (aZ (aG (i:=1) (show ((["deeds", "end"]:List Str)++(["count"]:List Str)).Nodup by decide +kernel) rfl (Or.inl rfl) (hf:=Or.inr rfl)) dh))))) (fun _ _ _ _=>gc) (fun _ _ _ _=>(aQ (aa (pv 0) (aa (aR O_law_kept (hr.mono (by decide)) rfl (aa (pv 1) (aa (pv 2) af))) af))))) af))))))))),?_⟩
    refine⟨_,rfl,b,9,rfl,hB,⟨by decide,by decide +kernel⟩,fun z H1 z0 z1 B1 X1=>⟨_,_,rfl,rfl,?_⟩⟩
    obtain⟨M,hM,hM2,hM10⟩:∃ M:Nat,2+z=(M:Int)/\2<=M/\M<=10:=⟨(2+z).toNat,by omega,by omega,by omega⟩
    show kQ 1 (V.int (2+z)) _ _ _
    rw [hM]
    refine⟨ln2,fun t1 n1=>⟨nz,fun t2 n2=>⟨ln2,fun t3 n3=>⟨ln2,fun t4 n4=>⟨nz,fun pl npl=>?_⟩⟩⟩⟩⟩
    have q1:=ah.new (o:=.tup [.str "read",.str "n"]) n1
    have q2:=ah.new (o:=.tup [.ref t1]) n2
    have q3:=ah.new (o:=.tup [.str "go",.int 1]) n3
    have q4:=ah.new (o:=.tup [.ref t2,.ref t3]) n4
    have q5:=ah.new (o:=.lst [.ref t4]) npl
    have S5:=(((q1.trans q2).trans q3).trans q4).trans q5
    have k4:=q5 _ _ (ae:(upd (upd (upd (upd H1 t1 (.tup [.str "read",.str "n"])) t2 (.tup [.ref t1])) t3 (.tup [.str "go",.int 1])) t4 (.tup [.ref t2,.ref t3])) t4=_)
    have k3:=q5 _ _ (q4 _ _ (ae:(upd (upd (upd H1 t1 (.tup [.str "read",.str "n"])) t2 (.tup [.ref t1])) t3 (.tup [.str "go",.int 1])) t3=_))
    have k2:=q5 _ _ (q4 _ _ (q3 _ _ (ae:(upd (upd H1 t1 (.tup [.str "read",.str "n"])) t2 (.tup [.ref t1])) t2=_)))
    have k1:=q5 _ _ (q4 _ _ (q3 _ _ (q2 _ _ (ae:(upd H1 t1 (.tup [.str "read",.str "n"])) t1=_))))
    have kl:(upd (upd (upd (upd (upd H1 t1 (.tup [.str "read",.str "n"])) t2 (.tup [.ref t1])) t3 (.tup [.str "go",.int 1])) t4 (.tup [.ref t2,.ref t3])) pl (.lst [.ref t4])) pl=some (.lst [.ref t4]):=ae
    have B6:=B1.same S5
    have npb:pl ≠ b:=((((B1.same q1).same q2).same q3).same q4).yo npl
    generalize (upd (upd (upd (upd (upd H1 t1 (.tup [.str "read",.str "n"])) t2 (.tup [.ref t1])) t3 (.tup [.str "go",.int 1])) t4 (.tup [.ref t2,.ref t3])) pl (.lst [.ref t4]))=H6 at S5 k1 k2 k3 k4 kl B6 q5
    have r0:aV H6 [.ref t4] ([(([bP.read nN],L2.End.go 1):Piece)].map bQ):=.cons (.tup k4 (.cons (.tup k2 (.cons (.tup k1 (.cons (.str _) (.cons (.str _) .nil))) .nil)) (.cons (.tup k3 (.cons (.str _) (.cons (.int _) .nil))) .nil))) .nil
    clear q1 q2 q3 q4 q5 S5 k1 k2 k3 k4 n1 n2 n3 n4 npl
    refine⟨_,rfl,_,rfl,(by omega),(by omega),i7 (lo:=0) (fun i σ H'=>∃ (ts:List Int) (vs:List V) (u1 u2:Option V),σ = [some (.ref b),some (.int (M:Nat)),some (.ref pl),u1,u2]/\ts.length=i/\(∀ t ∈ ts,-3<=t/\t<=3)/\H' pl=some (.lst vs)/\aV H' vs (((([bP.read nN],L2.End.go 1):Piece) :: dq 0 ts).map bQ)/\gZ H' b) ?_ ?_ ?_⟩
    · exact⟨[],_,_,_,rfl,rfl,(fun _ h=>nomatch h),kl,r0,B6⟩
    · rintro i σ H7 hi ⟨ts,vs,u1,u2,rfl,hl,hr,hp,rv,B7⟩
      have hvl:vs.length=2 * i+1:=by
        have:=rv.len
        rw [List.length_map,List.length_cons,gS] at this
        omega
      refine cM ?_
      refine⟨_,rfl,.inl ⟨rfl,_,aW.of hp⟩,ln2,fun a1 m1=>⟨nz,fun a2 m2=>?_⟩⟩
      have p1:=ah.new (o:=.tup [.str "tell",.str "n"]) m1
      have p2:=ah.new (o:=.tup [.ref a1]) m2
      have j1:=p2 _ _ (ae:(upd H7 a1 (.tup [.str "tell",.str "n"])) a1=_)
      have j2:(upd (upd H7 a1 (.tup [.str "tell",.str "n"])) a2 (.tup [.ref a1])) a2=some (.tup [.ref a1]):=ae
      have s12:=p1.trans p2
      generalize (upd (upd H7 a1 (.tup [.str "tell",.str "n"])) a2 (.tup [.ref a1]))=H8 at p2 j1 j2 s12
      refine⟨_,rfl,b,7,rfl,B7.same s12,⟨by decide,by decide +kernel⟩,fun t H9 t0 t1' B9 X9=>⟨_,_,rfl,rfl,?_⟩⟩
      refine⟨_,rfl,_,_,rfl,rfl,.inl ⟨by decide,by decide⟩,_,_,rfl,rfl,_,rfl,_,_,rfl,rfl,.inl ⟨by decide,by decide⟩,_,_,rfl,rfl,Ak,fun a3 m3=>⟨ln2,fun a4 m4=>?_⟩⟩
      have hb8:=B7.same s12
      have j1':=X9 _ _ j1 (hb8.oV j1)
      have j2':=X9 _ _ j2 (hb8.oV j2)
      have hp9:=X9 _ _ (s12 _ _ hp) npb
      have rv9:=(rv.same s12 (aS _)).fix hb8 X9 (aS _)
      have e1:(2:Int) * (0+(i:Int))+2=((2 * i+2:Nat):Int):=by omega
      have e2:(2:Int) * (0+(i:Int))+3=((2 * i+3:Nat):Int):=by omega
      have i1:∀ Hx:Hp,aN Hx (.int (2 * (0+(i:Int))+2)) (.int ((2 * i+2:Nat):Int)):=fun Hx=>by rw [e1];exact .int _
      have i2:∀ Hx:Hp,aN Hx (.int (2 * (0+(i:Int))+3)) (.int ((2 * i+3:Nat):Int)):=fun Hx=>by rw [e2];exact .int _
      have p3:=ah.new (o:=.tup [.str "less",.str "n",.int (t - 3),.int (2 * (0+(i:Int))+2),.int (2 * (0+(i:Int))+3)]) m3
      have p4:=ah.new (o:=.tup [.ref a2,.ref a3]) m4
      have j3:=p4 _ _ (ae:(upd H9 a3 (.tup [.str "less",.str "n",.int (t - 3),.int (2 * (0+(i:Int))+2),.int (2 * (0+(i:Int))+3)])) a3=_)
      have j4:(upd (upd H9 a3 (.tup [.str "less",.str "n",.int (t - 3),.int (2 * (0+(i:Int))+2),.int (2 * (0+(i:Int))+3)])) a4 (.tup [.ref a2,.ref a3])) a4=some (.tup [.ref a2,.ref a3]):=ae
      have s34:=p3.trans p4
      generalize (upd (upd H9 a3 (.tup [.str "less",.str "n",.int (t - 3),.int (2 * (0+(i:Int))+2),.int (2 * (0+(i:Int))+3)])) a4 (.tup [.ref a2,.ref a3]))=H10 at p4 j3 j4 s34
      have hp10:=s34 _ _ hp9
      have rv10:=rv9.same s34 (aS _)
      have B10:=B9.same s34
      have rp:aN H10 (.ref a4) (bQ (kJ i (t - 3))):=.tup j4 (.cons (.tup (s34 _ _ j2') (.cons (.tup (s34 _ _ j1') (.cons (.str _) (.cons (.str _) .nil))) .nil)) (.cons (.tup j3 (.cons (.str _) (.cons (.str _) (.cons (.int _) (.cons (i1 _) (.cons (i2 _) .nil)))))) .nil))
      refine⟨pl,_,_,rfl,rfl,hp10,bw (by omega),?_⟩
      have kt:∀ p zs o,H10 p=some (.tup zs)->(upd H10 pl o) p=some (.tup zs):=fun p zs o e=>by rw [av (bH e hp10 (by intro z;cases z))];exact e
      have hp11:(upd H10 pl (.lst (vs ++ [.ref a4]))) pl=some (.lst (vs ++ [.ref a4])):=ae
      have rv11:=rv10.aI (fun p zs e=>kt p zs (.lst (vs ++ [.ref a4])) e) (aS _)
      have rp11:=rp.aI (fun p zs e=>kt p zs (.lst (vs ++ [.ref a4])) e) (cE _)
      have B11:gZ (upd H10 pl (.lst (vs ++ [.ref a4]))) b:=by
        obtain⟨x,y,e,z⟩:=B10
        exact⟨x,y,by rw [av npb.symm];exact e,z⟩
      generalize (upd H10 pl (.lst (vs ++ [.ref a4])))=H11 at hp11 rv11 rp11 B11
      clear kt rp rv10 hp10 B10 rv9 hp9 j1' j2' j1 j2 j3 j4 s12 s34 p1 p2 p3 p4 m1 m2 m3 m4 hb8 X9
      refine⟨_,rfl,.inl ⟨rfl,_,aW.of hp11⟩,zv,fun c1 m1=>⟨nz,fun c2 m2=>?_⟩⟩
      refine⟨_,rfl,_,_,rfl,rfl,.inl ⟨by decide,by decide⟩,_,_,rfl,rfl,_,rfl,_,_,rfl,rfl,.inl ⟨by decide,by decide⟩,_,_,rfl,rfl,_,_,rfl,ln2,fun c3 m3=>⟨ln2,fun c4 m4=>?_⟩⟩
      have e3:(if (2:Int) * ((M:Nat):Int)+1 < 2 * (0+(i:Int))+3 then (2:Int) * ((M:Nat):Int)+1 else 2 * (0+(i:Int))+3)=((2 * i+3:Nat):Int):=by
        rw [if_neg (by omega)];omega
      have i3:∀ Hx:Hp,aN Hx (.int (if (2:Int) * ((M:Nat):Int)+1 < 2 * (0+(i:Int))+3 then (2:Int) * ((M:Nat):Int)+1 else 2 * (0+(i:Int))+3)) (.int ((2 * i+3:Nat):Int)):=fun Hx=>by rw [e3];exact .int _
      have p1:=ah.new (o:=.tup [.str "add",.str "m",.int 1]) m1
      have p2:=ah.new (o:=.tup [.ref c1]) m2
      have p3:=ah.new (o:=.tup [.str "go",.int (if (2:Int) * ((M:Nat):Int)+1 < 2 * (0+(i:Int))+3 then (2:Int) * ((M:Nat):Int)+1 else 2 * (0+(i:Int))+3)]) m3
      have p4:=ah.new (o:=.tup [.ref c2,.ref c3]) m4
      have j1:=p4 _ _ (p3 _ _ (p2 _ _ (ae:(upd H11 c1 (.tup [.str "add",.str "m",.int 1])) c1=_)))
      have j2:=p4 _ _ (p3 _ _ (ae:(upd (upd H11 c1 (.tup [.str "add",.str "m",.int 1])) c2 (.tup [.ref c1])) c2=_))
      have j3:=p4 _ _ (ae:(upd (upd (upd H11 c1 (.tup [.str "add",.str "m",.int 1])) c2 (.tup [.ref c1])) c3 (.tup [.str "go",.int (if (2:Int) * ((M:Nat):Int)+1 < 2 * (0+(i:Int))+3 then (2:Int) * ((M:Nat):Int)+1 else 2 * (0+(i:Int))+3)])) c3=_)
      have j4:(upd (upd (upd (upd H11 c1 (.tup [.str "add",.str "m",.int 1])) c2 (.tup [.ref c1])) c3 (.tup [.str "go",.int (if (2:Int) * ((M:Nat):Int)+1 < 2 * (0+(i:Int))+3 then (2:Int) * ((M:Nat):Int)+1 else 2 * (0+(i:Int))+3)])) c4 (.tup [.ref c2,.ref c3])) c4=some (.tup [.ref c2,.ref c3]):=ae
      have s4:=((p1.trans p2).trans p3).trans p4
      generalize (upd (upd (upd (upd H11 c1 (.tup [.str "add",.str "m",.int 1])) c2 (.tup [.ref c1])) c3 (.tup [.str "go",.int (if (2:Int) * ((M:Nat):Int)+1 < 2 * (0+(i:Int))+3 then (2:Int) * ((M:Nat):Int)+1 else 2 * (0+(i:Int))+3)])) c4 (.tup [.ref c2,.ref c3]))=H12 at p4 j1 j2 j3 j4 s4
      have hp12:=s4 _ _ hp11
      have rp12:aN H12 (.ref c4) (bQ (mY i)):=.tup j4 (.cons (.tup j2 (.cons (.tup j1 (.cons (.str _) (.cons (.str _) (.cons (.int _) .nil)))) .nil)) (.cons (.tup j3 (.cons (.str _) (.cons (i3 _) .nil))) .nil))
      refine⟨pl,_,_,rfl,rfl,hp12,bw (by rw [List.length_append];show _+1<=_;omega),?_⟩
      have kt:∀ p zs o,H12 p=some (.tup zs)->(upd H12 pl o) p=some (.tup zs):=fun p zs o e=>by rw [av (bH e hp12 (by intro z;cases z))];exact e
      refine⟨ts ++ [t - 3],_,_,_,rfl,(by rw [List.length_append,hl];rfl),fun u hu=>?_,ae,?_,?_⟩
      · rcases List.mem_append.mp hu with hu | hu
        · exact hr u hu
        · rw [List.mem_singleton.mp hu];omega
      · rw [nY,hl,Nat.zero_add,<-List.cons_append,List.map_append]
        have h1:=(rv11.same s4 (aS _)).aI (fun p zs e=>kt p zs (.lst (vs ++ [V.ref a4] ++ [V.ref c4])) e) (aS _)
        have h2:=(rp11.same s4 (cE _)).aI (fun p zs e=>kt p zs (.lst (vs ++ [V.ref a4] ++ [V.ref c4])) e) (cE _)
        have h3:=rp12.aI (fun p zs e=>kt p zs (.lst (vs ++ [V.ref a4] ++ [V.ref c4])) e) (cE _)
        have h4:=(h1.app h2).app h3
        rw [List.append_assoc] at h4
        rw [List.append_assoc] at h4
        rw [List.append_assoc]
        exact h4
      · obtain⟨x,y,e,z⟩:=B11.same s4
        exact⟨x,y,by rw [av npb.symm];exact e,z⟩
    rintro σ H7 ⟨ts,vs,u1,u2,rfl,hl,hr,hp,rv,B7⟩
    have hl:ts.length=M:=by omega
    have hvl:vs.length=2 * M+1:=by
      have:=rv.len
      rw [List.length_map,List.length_cons,gS] at this
      omega
    refine⟨_,rfl,.inl ⟨rfl,_,aW.of hp⟩,ln2,fun c1 m1=>⟨nz,fun c2 m2=>⟨nz,fun c3 m3=>⟨ln2,fun c4 m4=>?_⟩⟩⟩⟩
    have p1:=ah.new (o:=.tup [.str "tell",.str "m"]) m1
    have p2:=ah.new (o:=.tup [.ref c1]) m2
    have p3:=ah.new (o:=.tup [.str "stop"]) m3
    have p4:=ah.new (o:=.tup [.ref c2,.ref c3]) m4
    have j1:=p4 _ _ (p3 _ _ (p2 _ _ (ae:(upd H7 c1 (.tup [.str "tell",.str "m"])) c1=_)))
    have j2:=p4 _ _ (p3 _ _ (ae:(upd (upd H7 c1 (.tup [.str "tell",.str "m"])) c2 (.tup [.ref c1])) c2=_))
    have j3:=p4 _ _ (ae:(upd (upd (upd H7 c1 (.tup [.str "tell",.str "m"])) c2 (.tup [.ref c1])) c3 (.tup [.str "stop"])) c3=_)
    have j4:(upd (upd (upd (upd H7 c1 (.tup [.str "tell",.str "m"])) c2 (.tup [.ref c1])) c3 (.tup [.str "stop"])) c4 (.tup [.ref c2,.ref c3])) c4=some (.tup [.ref c2,.ref c3]):=ae
    have s4:=((p1.trans p2).trans p3).trans p4
    generalize (upd (upd (upd (upd H7 c1 (.tup [.str "tell",.str "m"])) c2 (.tup [.ref c1])) c3 (.tup [.str "stop"])) c4 (.tup [.ref c2,.ref c3]))=H8 at p4 j1 j2 j3 j4 s4
    have hp8:=s4 _ _ hp
    have rp8:aN H8 (.ref c4) (bQ ([.tell nM],.stop)):=.tup j4 (.cons (.tup j2 (.cons (.tup j1 (.cons (.str _) (.cons (.str _) .nil))) .nil)) (.cons (.tup j3 (.cons (.str _) .nil)) .nil))
    refine⟨pl,_,_,rfl,rfl,hp8,bw (by omega),?_⟩
    have kt:∀ p zs o,H8 p=some (.tup zs)->(upd H8 pl o) p=some (.tup zs):=fun p zs o e=>by rw [av (bH e hp8 (by intro z;cases z))];exact e
    have hp9:(upd H8 pl (.lst (vs ++ [.ref c4]))) pl=some (.lst (vs ++ [.ref c4])):=ae
    have rv9:aV (upd H8 pl (.lst (vs ++ [.ref c4]))) (vs ++ [.ref c4]) ((dQ ts).map bQ):=by
      have h1:=(rv.same s4 (aS _)).aI (fun p zs e=>kt p zs (.lst (vs ++ [.ref c4])) e) (aS _)
      have h2:=rp8.aI (fun p zs e=>kt p zs (.lst (vs ++ [.ref c4])) e) (cE _)
      have h3:=h1.app h2
      rw [show (dQ ts).map bQ=((([bP.read nN],L2.End.go 1):Piece) :: dq 0 ts).map bQ ++ [bQ ([.tell nM],.stop)] from by show ((([bP.read nN],L2.End.go 1):Piece) :: (dq 0 ts ++ [([.tell nM],.stop)])).map bQ=_;rw [<-List.cons_append,List.map_append];rfl]
      exact h3
    generalize (upd H8 pl (.lst (vs ++ [.ref c4])))=H9 at hp9 rv9
    have hvl9:(vs ++ [V.ref c4]).length=2 * M+2:=by rw [List.length_append,hvl];rfl
    generalize vs ++ [V.ref c4] = vs9 at hp9 rv9 hvl9
    have lp:=uD (ts:=ts) (by omega) hr
    have rlen:=mZ ts
    refine⟨_,rfl,pl,_,rfl,.inl (aW.of hp9),?_⟩
    refine⟨_,rfl,pl,rfl,⟨_,aW.of hp9⟩,fun acc na=>?_⟩
    refine iq (K:=K) (a:=pl) (xs:=vs9) (fun i ys τ H'=>∃ w1 w2:Option V,τ = [w1,w2,some (.int ((vs9.length:Nat):Int))]/\H' acc=some (.lst ys)/\aV H' ys (((dQ ts).take i).map bQ)/\ah H9 H') ?_ ?_ ?_ ?_
    · exact⟨none,none,rfl,ae,.nil,ah.new na⟩
    · rintro i ys τ H' hi ⟨w1,w2,rfl,ha,ry,sa⟩
      refine⟨aW.of (sa _ _ hp9),ha,?_⟩
      have:=ry.len
      rw [List.length_map,List.length_take] at this
      exact bw (by omega)
    · rintro i y ys τ H' hi ⟨w1,w2,rfl,ha,ry,sa⟩
      have hil:i < (dQ ts).length:=by have:=(List.getElem?_eq_some_iff.mp hi).1;omega
      have hoi:(dQ ts)[i]? = some (dQ ts)[i]:=by simp [hil]
      generalize (dQ ts)[i] = p at hoi
      obtain⟨v,hv,rv'⟩:=rv9.get (i:=i) (d:=bQ p) (by rw [List.getElem?_map,hoi];rfl)
      rw [hi] at hv
      cases hv
      obtain⟨ds,e⟩:=p
      obtain⟨qa,qvs,rfl,hqa,rq⟩:=aN.bM rv'
      obtain⟨y1,t1',rfl,q1,rq⟩:=rq.cons_inv
      obtain⟨y2,t2',rfl,q2,rq⟩:=rq.cons_inv
      have z:=rq.nil_inv
      subst z
      obtain⟨ea,eq2,he⟩:=sC q2
      subst eq2
      refine⟨qa,_,rfl,ay.of (sa _ _ hqa),rfl,_,_,rfl,_,_,rfl,rfl,?_⟩
      refine mD ?_
      refine cu ?_
      have nlp:bN (PyData.tuple (ds.map eF))=true:=dI ds
      refine⟨_,rfl,_,rfl,_,rfl,ea,e,vs9.length,rfl,sa _ _ he,(fun q hq=>by have:=(lp.fwd _ _ hoi q hq).2;omega),fun t H2 ht s2=>⟨ln2,fun t4 nt4=>?_⟩⟩
      have q4:=ah.new (o:=.tup [y1,.ref t]) nt4
      have ha4:=q4 _ _ (s2 _ _ ha)
      have s24:=s2.trans q4
      have rp:aN (upd H2 t4 (.tup [y1,.ref t])) (.ref t4) (bQ (ds,e)):=.tup ae (.cons ((q1.same sa nlp).same s24 nlp) (.cons (uv (q4 _ _ ht)) .nil))
      generalize (upd H2 t4 (.tup [y1,.ref t]))=H3 at q4 ha4 s24 rp
      have kt:∀ p zs,H3 p=some (.tup zs)->(upd H3 acc (.lst (ys ++ [.ref t4]))) p=some (.tup zs):=fun p zs e=>by rw [av (bH e ha4 (by intro z;cases z))];exact e
      refine⟨ha4,_,_,rfl,ae,?_,(sa.trans s24).put na⟩
      rw [List.take_add_one,hoi,List.map_append]
      exact ((ry.same s24 (aS _)).aI kt (aS _)).app (rp.aI kt (cE _))
    rintro ys τ H10 ⟨w1,w2,rfl,ha,ry,sa⟩
    rw [hvl9,<-hl,<-rlen,List.take_length] at ry
    refine⟨acc,_,rfl,.inl ⟨aW.of ha,fun t nt=>?_⟩⟩
    exact q (.ref t) ts _ (.tup ae (ry.same (ah.new nt) (aS _))) (by omega) hr
theorem jP {f:Addr} {fd:FuncData} (F:bY K "_law_tests_open" "_law_tests_open" cB f fd) (Z:Bl mg) (O_law_yes:Own P w K mg base "_law_yes" 1 ["end", "worth"] pU):br P w K mg base bU 2 f fd ["other", "number"] kK:=by
  refine F.ok (k:=1) bG (fun vs H Q E h=>?_) (fun cdv A outer s H vs Q E hr h=>?_)
  · obtain⟨op,num,ovs,ps,outs,cs,rfl,_⟩:=h
    rfl
  · obtain⟨op,num,ovs,ps,outs,cs,rfl,n1,n2,hop,rov,lp,fr,hol,hg,hc0,q⟩:=h
    refine⟨_,(ai (bu (i:=2) bG.nd rfl (Or.inl rfl) (pQ rfl rfl Z.list rfl Z.range (aa (wc tm ar) (aa ar af))))
      (ai (bu (i:=3) bG.nd rfl (Or.inl rfl) ar)
      (ai (fb PassesOwn.never rfl (nc rfl Z.range (aa ar af)) (aG (i:=4) bG.nd rfl (Or.inl rfl))
      (ai (bu (i:=5) bG.nd rfl (Or.inr rfl) (bf bA (bf bA (pv 0) (pv 3) (fun _ _=>rfl)) ar (fun _ _=>rfl)))
      (ai (bO (aT cX (bf bA (pv 5) ar (fun _ _=>rfl)) bK (bo _))
      (au (aF iD))
      bp)
      (au (bO (aT cX (bf bA (pv 5) ar (fun _ _=>rfl)) bK (bo _))
      (au (bu (i:=3) bG.nd rfl (Or.inl rfl) (bf bA (pv 5) ar (fun _ _=>rfl))))
      (ai (iE (i:=6) ["one"] ["end"] [5] rfl bG.nd rfl rfl rfl (ij (pv 2)) rfl (by decide +kernel) (by decide +kernel) (by decide +kernel) ⟨⟨rfl,.inl rfl,rfl⟩,True.intro⟩ (fun _ _ _ _=>(aG (i:=0) (show ((["one"]:List Str)++(["end"]:List Str)).Nodup by decide +kernel) rfl (Or.inl rfl) (hf:=Or.inr rfl))) (fun _ _ _ _=>(ip (i0 (aR O_law_yes (hr.mono (by decide)) rfl (aa (pv 1) (aa (pv 0) af)))))) (fun _ _ _ _=>(pv 0)))
      (ai (bO (PW.pt (v7 (aT cX (aY bb rfl Z.len cD (aa (pv 6) af)) ar (bo _)) (sX (aT cX (aY bb rfl Z.len cD (aa (pv 6) af)) (aY bb rfl Z.len cD (aa (pv 2) af)) (bo _)))))
      (au (aF iD))
      bp)
      (ai (iE (i:=2) ["one"] ["end", "number"] [5,1] rfl bG.nd rfl rfl rfl (ij (pv 2)) rfl (by decide +kernel) (by decide +kernel) (by decide +kernel) ⟨⟨rfl,.inl rfl,rfl⟩,⟨⟨rfl,.inl rfl,rfl⟩,True.intro⟩⟩ (fun _ _ _ _=>(aG (i:=0) (show ((["one"]:List Str)++(["end", "number"]:List Str)).Nodup by decide +kernel) rfl (Or.inl rfl) (hf:=Or.inr rfl))) (fun _ _ _ _=>(ip (aT cX (aR O_law_yes (hr.mono (by decide)) rfl (aa (pv 1) (aa (pv 0) af))) (aR O_law_yes (hr.mono (by decide)) rfl (aa (pv 1) (aa (pv 2) af))) (bo _)))) (fun _ _ _ _=>(pv 0)))
      (au (bu (i:=3) bG.nd rfl (Or.inl rfl) (bf bA (pv 5) (aX fc ar (bF tu rfl Z.int ym (aa (aR O_law_yes (hr.mono (by decide)) rfl (aa (pv 5) (aa (pv 1) af))) af))) (fun _ _=>rfl))))))))))))
      (au (aF iD))))),?_⟩
    refine⟨_,rfl,_,_,rfl,⟨by decide,by decide,by decide,by decide⟩,(by decide),fun la nla=>?_⟩
    have s1:=ah.new (o:=.lst (bX.map V.int)) nla
    have hl1:(upd H la (.lst (bX.map V.int))) la=some (.lst (bX.map V.int)):=ae
    change (_:Hp->Prop) (upd H la (.lst (bX.map V.int)))
    generalize (upd H la (.lst (bX.map V.int)))=H1 at s1 hl1
    obtain⟨T00,hc0⟩:=hc0
    have bl:bX.length=19:=by simp [bX,j9]
    refine⟨_,rfl,(by decide),(by decide),i7 (lo:=0) (fun i σ H'=>∃ (j:Nat) (c:Cp) (la:Addr) (u1 u2 u3:Option V),σ = [some (.ref op),some (.int num),some (.ref la),some (.int (j:Nat)),u1,u2,u3]/\cs[j]? = some c/\dJ c num=true/\H' la=some (.lst ((bX.filter (dJ c)).map V.int))/\ah H H') ?_ ?_ ?_⟩
    · refine⟨0,_,la,_,_,_,rfl,hc0,rfl,?_,s1⟩
      rw [show bX.filter (dJ (0,T00))=bX from List.filter_eq_self.mpr fun u _=>rfl]
      exact hl1
    · rintro i σ H2 hi ⟨j,c,la,u1,u2,u3,rfl,hcj,hin,hla,s2⟩
      have hjl:j < outs.length:=by rw [hol];exact (List.getElem?_eq_some_iff.mp hcj).1
      have hoj:outs[j]? = some outs[j]:=by simp [hjl]
      generalize outs[j] = po at hoj
      have nx:=vS lp fr hg hcj hoj hin
      obtain⟨ds,e⟩:=po
      have ro:aN H2 (.ref op) (fV outs):=.tup (s2 _ _ hop) (rov.same s2 (aS outs))
      obtain⟨p',xs',pc,da,ea,ws,ep,e1',el',hx',e2,e3,r3,e4⟩:=gJ ro hoj
      cases ep
      rw [s2 _ _ hop] at e1'
      cases e1'
      refine cM ?_
      refine⟨_,rfl,_,rfl,op,_,_,_,rfl,rfl,ay.of (s2 _ _ hop),dt hx',pc,_,1,_,rfl,rfl,ay.of e2,gH,?_⟩
      refine⟨_,rfl,ea,_,0,_,rfl,rfl,ay.of e4,(by cases e <;> exact fq:gG (de e) 0=some (V.str (wE e))),rfl,_,rfl,?_⟩
      cases e with
      | stop =>
        refine cG (show decide (V.str "stop" = V.str "stop")=true by decide +kernel) ?_
        exact q _ s2
      | go k =>
        refine bJ (show decide (V.str "go" = V.str "stop")=false by decide +kernel) ?_
        refine⟨_,rfl,ea,_,0,_,rfl,rfl,ay.of e4,fq,rfl,_,rfl,?_⟩
        refine cG (show decide (V.str "go" = V.str "go")=true by decide +kernel) ?_
        obtain⟨c',g1,g2⟩:=nx
        refine⟨_,rfl,ea,_,1,_,rfl,rfl,ay.of e4,gH,?_⟩
        exact⟨k,c',la,_,_,_,rfl,g1,by rw [g2];exact hin,by rw [g2];exact hla,s2⟩
      | bL tb tx t k1 k2 =>
        refine bJ (show decide (V.str (wT tb)=V.str "stop")=false by cases tb <;> decide +kernel) ?_
        refine⟨_,rfl,ea,_,0,_,rfl,rfl,ay.of e4,fq,rfl,_,rfl,?_⟩
        refine bJ (show decide (V.str (wT tb)=V.str "go")=false by cases tb <;> decide +kernel) ?_
        obtain⟨⟨v1,vb1,vi1,vl1⟩,⟨v2,vb2,vi2,vl2⟩,c',g1,g2⟩:=nx
        have hll:(bX.filter (dJ c)).length<=19:=by have:=List.length_filter_le (dJ c) bX;omega
        have g2:dJ c' = fun u=>dJ c u && (decide (u < t) == decide (num < t)):=g2
        have hm1:v1 ∈ bX.filter (dJ c):=List.mem_filter.mpr ⟨vb1,vi1⟩
        have hm2:v2 ∈ bX.filter (dJ c):=List.mem_filter.mpr ⟨vb2,vi2⟩
        have hfil:bX.filter (dJ c')=(bX.filter (dJ c)).filter fun u=>decide (u < t) == decide (num < t):=by rw [g2,List.filter_filter];congr 1;funext u;exact Bool.and_comm _ _
        generalize hLs:bX.filter (dJ c)=Ls at hla hll hm1 hm2 hfil
        refine⟨_,rfl,la,rfl,⟨_,aW.of hla⟩,fun ac1 na1=>?_⟩
        refine iq (K:=K) (a:=la) (xs:=Ls.map V.int) (fun i ys τ H'=>∃ w1:Option V,τ = [w1,some (.ref ea)]/\ys=((Ls.take i).filter fun u=>decide (u < t)).map V.int/\H' ac1=some (.lst ys)/\ah H2 H') ?_ ?_ ?_ ?_
        · exact⟨none,rfl,rfl,ae,ah.new na1⟩
        · rintro i' ys τ H' hi' ⟨w1,rfl,rfl,ha,sa⟩
          refine⟨aW.of (sa _ _ hla),ha,bw ?_⟩
          rw [List.length_map]
          refine Nat.le_trans (List.length_filter_le _ _) ?_
          rw [List.length_take]
          omega
        · rintro i' y ys τ H' hi' ⟨w1,rfl,rfl,ha,sa⟩
          obtain⟨u,hu,rfl⟩:∃ u,Ls[i']? = some u/\y=V.int u:=by
            rw [List.getElem?_map] at hi'
            cases z:Ls[i']? with
            | none=>rw [z] at hi';cases hi'
            | some k=>rw [z] at hi';exact⟨k,rfl,(Option.some.inj hi').symm⟩
          have htk:Ls.take (i' + 1)=Ls.take i' ++ [u]:=by rw [List.take_add_one,hu];rfl
          refine cM ?_
          refine⟨_,rfl,_,rfl,ea,tb,tx,t,u,k1,k2,rfl,sa _ _ e4,_,rfl,?_⟩
          rw [htk,List.filter_append]
          by_cases hlt:u < t
          · refine cG (decide_eq_true hlt) ?_
            refine⟨_,rfl,ha,_,rfl,?_,ae,sa.put na1⟩
            rw [List.filter_cons_of_pos (by rw [decide_eq_true hlt]),List.map_append]
            rfl
          · refine bJ (decide_eq_false hlt) ?_
            refine⟨_,rfl,?_,ha,sa⟩
            rw [List.filter_cons_of_neg (by rw [decide_eq_false hlt];decide),List.filter_nil,List.append_nil]
        rintro ys τ H3 ⟨w1,rfl,rfl,ha1,s3⟩
        rw [List.length_map,List.take_length] at ha1
        have y0:0 < (Ls.filter fun u=>decide (u < t)).length:=List.length_pos_of_mem (List.mem_filter.mpr ⟨hm1,decide_eq_true vl1⟩)
        have yn:(Ls.filter fun u=>decide (u < t)).length ≠ Ls.length:=fun z=>by
          have:=List.length_filter_eq_length_iff.mp z v2 hm2
          exact vl2 (of_decide_eq_true this)
        have hla3:=s3 _ _ hla
        have he3:=s3 _ _ e4
        refine⟨_,rfl,ac1,_,rfl,.inl (aW.of ha1),rfl,_,rfl,?_⟩
        refine bJ (decide_eq_false fun z=>by have:=V.int.inj z;rw [List.length_map] at this;omega) ?_
        refine⟨_,rfl,ac1,_,rfl,.inl (aW.of ha1),_,rfl,la,_,rfl,.inl (aW.of hla3),rfl,_,rfl,?_⟩
        refine bJ (decide_eq_false fun z=>yn (by have:=V.int.inj z;rw [List.length_map,List.length_map] at this;omega)) ?_
        refine⟨_,rfl,la,rfl,⟨_,aW.of hla3⟩,fun ac2 na2=>?_⟩
        refine iq (K:=K) (a:=la) (xs:=Ls.map V.int) (fun i ys τ H'=>∃ w1:Option V,τ = [w1,some (.ref ea),some (.int num)]/\ys=((Ls.take i).filter fun u=>decide (u < t) == decide (num < t)).map V.int/\H' ac2=some (.lst ys)/\ah H3 H') ?_ ?_ ?_ ?_
        · exact⟨none,rfl,rfl,ae,ah.new na2⟩
        · rintro i' ys τ H' hi' ⟨w1,rfl,rfl,ha,sa⟩
          refine⟨aW.of (sa _ _ hla3),ha,bw ?_⟩
          rw [List.length_map]
          refine Nat.le_trans (List.length_filter_le _ _) ?_
          rw [List.length_take]
          omega
        · rintro i' y ys τ H' hi' ⟨w1,rfl,rfl,ha,sa⟩
          obtain⟨u,hu,rfl⟩:∃ u,Ls[i']? = some u/\y=V.int u:=by
            rw [List.getElem?_map] at hi'
            cases z:Ls[i']? with
            | none=>rw [z] at hi';cases hi'
            | some k=>rw [z] at hi';exact⟨k,rfl,(Option.some.inj hi').symm⟩
          have htk:Ls.take (i' + 1)=Ls.take i' ++ [u]:=by rw [List.take_add_one,hu];rfl
          refine cM ?_
          refine⟨_,rfl,_,rfl,ea,tb,tx,t,u,k1,k2,rfl,sa _ _ he3,_,rfl,_,rfl,ea,tb,tx,t,num,k1,k2,rfl,sa _ _ he3,rfl,_,rfl,?_⟩
          rw [htk,List.filter_append]
          by_cases hlt:decide (u < t)=decide (num < t)
          · refine cG (by rw [hlt];exact decide_eq_true rfl) ?_
            refine⟨_,rfl,ha,_,rfl,?_,ae,sa.put na2⟩
            rw [List.filter_cons_of_pos (by rw [hlt];exact beq_self_eq_true _),List.map_append]
            rfl
          · refine bJ (decide_eq_false fun z=>hlt (V.bl.inj z)) ?_
            refine⟨_,rfl,?_,ha,sa⟩
            rw [show ([u].filter fun u=>decide (u < t) == decide (num < t)) = [] from List.filter_eq_nil_iff.mpr fun x hx=>by rw [List.mem_singleton.mp hx];intro z;exact hlt (eq_of_beq z),List.append_nil]
        rintro ys τ H4 ⟨w1,rfl,rfl,ha2,s4⟩
        rw [List.length_map,List.take_length] at ha2
        have he4:=s4 _ _ he3
        refine⟨_,rfl,_,rfl,_,rfl,ea,tb,tx,t,num,k1,k2,rfl,he4,.inr ⟨_,rfl,_,_,rfl,rfl,?_⟩⟩
        have hat:gG (de (.bL tb tx t k1 k2)) (4 - (if decide (num < t)=true then 1 else 0))=some (V.int ((if num < t then k1 else k2:Nat):Int)):=by
          by_cases hlt:num < t
          · rw [if_pos (decide_eq_true hlt),if_pos hlt];exact zu
          · rw [if_neg (fun z=>hlt (of_decide_eq_true z)),if_neg hlt];exact zy
        refine⟨ea,_,_,_,rfl,rfl,ay.of he4,hat,?_⟩
        refine⟨_,c',ac2,_,_,_,rfl,g1,by rw [g2];show (dJ c num && _)=true;rw [hin];exact beq_self_eq_true _,?_,(s2.trans s3).trans s4⟩
        rw [hfil]
        exact ha2
    · rintro σ H2 ⟨j,c,la,u1,u2,u3,rfl,hcj,hin,hla,s2⟩
      exact q _ s2
theorem yQ {f:Addr} {fd:FuncData} (F:bY K "law" "law" fY f fd) (Z:Bl mg) {C:Addr} (T:pG K C) (O_law_bag:Own P w K mg base "_law_bag" 1 ["script", "k"] (rN K)) (O_law_row:Own P w K mg base "_law_row" 2 ["bag"] pT) (O_law_tests_open:Own P w K mg base "_law_tests_open" 2 ["other", "number"] kK) (O_led_past:Own P w K mg base "led_past" 7 ["plan", "most"] (jA P w C)):br P w K mg base bU 8 f fd ["script"] (oo K):=by
  refine F.ok (k:=7) jD (fun vs H Q E h=>?_) (fun cdv A outer s H vs Q E hr h=>?_)
  · obtain⟨a,ns,rfl,_⟩:=h
    rfl
  · obtain⟨a,ns,rfl,hS,hlen,q⟩:=h
    refine⟨_,(ai (bu (i:=1) jD.nd rfl (Or.inl rfl) (aR O_law_bag (hr.mono (by decide)) rfl (aa (pv 0) (aa ar af))))
      (ai (bu (i:=2) jD.nd rfl (Or.inl rfl) (aR O_law_row (hr.mono (by decide)) rfl (aa (pv 1) af)))
      (ai (bu (i:=3) jD.nd rfl (Or.inl rfl) (bf bA (aR O_led_past (hr.mono (by decide)) rfl (aa (pv 2) (aa ar af))) ar (fun _ _=>rfl)))
      (ai (fb PassesOwn.never rfl (tf rfl Z.range (aa (wc tm ar) (aa ar af))) (aG (i:=4) jD.nd rfl (Or.inl rfl))
      (au (bO (xO (i0 (aR O_law_tests_open (hr.mono (by decide)) rfl (aa (pv 3) (aa (pv 4) af)))))
      (au (aF iD))
      bp)))
      (au (aF iD)))))),?_⟩
    refine⟨_,rfl,a,ns,0,rfl,hS,(by decide),fun b H1 nb B1 s1=>?_⟩
    refine⟨_,rfl,b,rfl,B1,fun plv ts H2 rp hl hr=>?_⟩
    have lp:=uD (by omega) hr
    have pok:=yP hr
    have hn0:=lp.pos
    have hn:(dQ ts).length<=60:=Nat.le_trans lp.len (by decide)
    refine⟨_,rfl,plv,dQ ts,[nN,nM],300,rfl,rp,pok,zo,(by show 2<=10;decide),hn0,hn,(by decide),(by decide),fun lv ds H3 cc r3 s3=>?_⟩
    obtain⟨gd,cn⟩:=vR lp
    obtain⟨I,hol,more,em⟩:=pO pok hn0 (show 1<=300 by decide)
    have fr:=uC (most:=300) pok hn0 (by decide) cn
    have hc0:∃ T,(eN (dQ ts) 300).1[0]? = some (0,T):=by
      rw [em]
      unfold eS
      split
      · exact⟨_,rfl⟩
      · exact⟨_,rfl⟩
    obtain⟨lp',lvs,rfl,hlp,rl⟩:=aN.bM r3
    obtain⟨ov,t1,rfl,ro,rl⟩:=rl.cons_inv
    obtain⟨op,ovs,rfl,hop,rovs⟩:=aN.bM ro
    refine⟨lp',_,0,_,rfl,rfl,ay.of hlp,fq,?_⟩
    refine⟨_,rfl,_,_,rfl,⟨by decide,by decide,by decide,by decide⟩,i7 (lo:=-9) (n:=19) (fun i σ H'=>∃ u1:Option V,σ = [some (.ref a),some (.ref b),some plv,some (.ref op),u1]/\ah H3 H') ?_ ?_ ?_⟩
    · exact⟨_,rfl,ah.refl _⟩
    · rintro i σ H4 hi ⟨u1,rfl,s4⟩
      refine cM ?_
      refine⟨_,rfl,_,rfl,op,_,ovs,dQ ts,_,_,rfl,(by omega),(by omega),s4 _ _ hop,rovs.same s4 (aS _),lp,fr,hol,gd,hc0,fun H5 s5=>⟨_,rfl,cC ?_⟩⟩
      exact⟨_,rfl,s4.trans s5⟩
    · rintro σ H4 ⟨u1,rfl,s4⟩
      exact q _
end
theorem all_mk {l:PySem.W.OpenLaw} {w:World} {K:PySem.W.Frag} {h:Heap} {mg:Str->Option Value} {fa:Addr} (X:K.In h) (G:h.Ns mainGlobals mg) (hfa:mg "law" = some (.ref fa))
  {f0:Addr} {od0 an0:Option Addr} {sl0:Array (Option Value)} {oc0 kV0 dc0 pm0 cd0 ct0:Value}
  {f1:Addr} {od1 an1:Option Addr} {sl1:Array (Option Value)} {oc1 kV1 dc1 pm1 cd1 ct1:Value}
  {f2:Addr} {od2 an2:Option Addr} {sl2:Array (Option Value)} {oc2 kV2 dc2 pm2 cd2 ct2:Value}
  {f3:Addr} {od3 an3:Option Addr} {sl3:Array (Option Value)} {oc3 kV3 dc3 pm3 cd3 ct3:Value}
  {f4:Addr} {od4 an4:Option Addr} {sl4:Array (Option Value)} {oc4 kV4 dc4 pm4 cd4 ct4:Value}
  {f5:Addr} {od5 an5:Option Addr} {sl5:Array (Option Value)} {oc5 kV5 dc5 pm5 cd5 ct5:Value}
  {f6:Addr} {od6 an6:Option Addr} {sl6:Array (Option Value)} {oc6 kV6 dc6 pm6 cd6 ct6:Value}
  {f7:Addr} {od7 an7:Option Addr} {sl7:Array (Option Value)} {oc7 kV7 dc7 pm7 cd7 ct7:Value}
  {f8:Addr} {od8 an8:Option Addr} {sl8:Array (Option Value)} {oc8 kV8 dc8 pm8 cd8 ct8:Value}
  {f9:Addr} {od9 an9:Option Addr} {sl9:Array (Option Value)} {oc9 kV9 dc9 pm9 cd9 ct9:Value}
  {f10:Addr} {od10 an10:Option Addr} {sl10:Array (Option Value)} {oc10 kV10 dc10 pm10 cd10 ct10:Value}
  {f11:Addr} {od11 an11:Option Addr} {sl11:Array (Option Value)} {oc11 kV11 dc11 pm11 cd11 ct11:Value}
  {f12:Addr} {od12 an12:Option Addr} {sl12:Array (Option Value)} {oc12 kV12 dc12 pm12 cd12 ct12:Value}
  {f13:Addr} {od13 an13:Option Addr} {sl13:Array (Option Value)} {oc13 kV13 dc13 pm13 cd13 ct13:Value}
  {f14:Addr} {od14 an14:Option Addr} {sl14:Array (Option Value)} {oc14 kV14 dc14 pm14 cd14 ct14:Value}
  {f15:Addr} {od15 an15:Option Addr} {sl15:Array (Option Value)} {oc15 kV15 dc15 pm15 cd15 ct15:Value}
  {f16:Addr} {od16 an16:Option Addr} {sl16:Array (Option Value)} {oc16 kV16 dc16 pm16 cd16 ct16:Value}
  {f17:Addr} {od17 an17:Option Addr} {sl17:Array (Option Value)} {oc17 kV17 dc17 pm17 cd17 ct17:Value}
  {f18:Addr} {od18 an18:Option Addr} {sl18:Array (Option Value)} {oc18 kV18 dc18 pm18 cd18 ct18:Value}
  {f19:Addr} {od19 an19:Option Addr} {sl19:Array (Option Value)} {oc19 kV19 dc19 pm19 cd19 ct19:Value}
  {f20:Addr} {od20 an20:Option Addr} {sl20:Array (Option Value)} {oc20 kV20 dc20 pm20 cd20 ct20:Value}
  {f21:Addr} {od21 an21:Option Addr} {sl21:Array (Option Value)} {oc21 kV21 dc21 pm21 cd21 ct21:Value}
  {f22:Addr} {od22 an22:Option Addr} {sl22:Array (Option Value)} {oc22 kV22 dc22 pm22 cd22 ct22:Value}
  {f23:Addr} {od23 an23:Option Addr} {sl23:Array (Option Value)} {oc23 kV23 dc23 pm23 cd23 ct23:Value}
  {f24:Addr} {od24 an24:Option Addr} {sl24:Array (Option Value)} {oc24 kV24 dc24 pm24 cd24 ct24:Value}
  {f25:Addr} {od25 an25:Option Addr} {sl25:Array (Option Value)} {oc25 kV25 dc25 pm25 cd25 ct25:Value}
  {f26:Addr} {od26 an26:Option Addr} {sl26:Array (Option Value)} {oc26 kV26 dc26 pm26 cd26 ct26:Value}
  {f27:Addr} {od27 an27:Option Addr} {sl27:Array (Option Value)} {oc27 kV27 dc27 pm27 cd27 ct27:Value}
  {f28:Addr} {od28 an28:Option Addr} {sl28:Array (Option Value)} {oc28 kV28 dc28 pm28 cd28 ct28:Value}
  {f29:Addr} {od29 an29:Option Addr} {sl29:Array (Option Value)} {oc29 kV29 dc29 pm29 cd29 ct29:Value}
  {f30:Addr} {od30 an30:Option Addr} {sl30:Array (Option Value)} {oc30 kV30 dc30 pm30 cd30 ct30:Value}
  {f31:Addr} {od31 an31:Option Addr} {sl31:Array (Option Value)} {oc31 kV31 dc31 pm31 cd31 ct31:Value}
  {f32:Addr} {od32 an32:Option Addr} {sl32:Array (Option Value)} {oc32 kV32 dc32 pm32 cd32 ct32:Value}
  {aA:Addr} {dcA:Option Addr} {nA:Nat} {slA:Array (Option Value)}
  {tk_MOST_TO_LEAD:Tok}
  {aE:Addr} {epE:Nat} {s0:Addr} {hsE0:Int} {tkE0:Tok} {dcE0:Option Addr} {nnE0:Nat} {slE0:Array (Option Value)}  {s1:Addr} {hsE1:Int} {tkE1:Tok} {dcE1:Option Addr} {nnE1:Nat} {slE1:Array (Option Value)} {ttE1_0:Tok} {s2:Addr} {hsE2:Int} {tkE2:Tok} {dcE2:Option Addr} {nnE2:Nat} {slE2:Array (Option Value)} {ttE2_0:Tok} {ttE2_1:Tok} {ttE2_2:Tok} {ttE2_3:Tok} {s3:Addr} {hsE3:Int} {tkE3:Tok} {dcE3:Option Addr} {nnE3:Nat} {slE3:Array (Option Value)} {ttE3_0:Tok} {ttE3_1:Tok} {ttE3_2:Tok} {ttE3_3:Tok}
  {aD:Addr} {epD:Nat} {d0:Addr} {hsD0:Int} {tkD0:Tok} {dcD0:Option Addr} {nnD0:Nat} {slD0:Array (Option Value)} {ttD0_0:Tok} {ttD0_1:Tok} {d1:Addr} {hsD1:Int} {tkD1:Tok} {dcD1:Option Addr} {nnD1:Nat} {slD1:Array (Option Value)} {ttD1_0:Tok} {ttD1_1:Tok} {d2:Addr} {hsD2:Int} {tkD2:Tok} {dcD2:Option Addr} {nnD2:Nat} {slD2:Array (Option Value)} {ttD2_0:Tok} {ttD2_1:Tok} {d3:Addr} {hsD3:Int} {tkD3:Tok} {dcD3:Option Addr} {nnD3:Nat} {slD3:Array (Option Value)} {ttD3_0:Tok} {d4:Addr} {hsD4:Int} {tkD4:Tok} {dcD4:Option Addr} {nnD4:Nat} {slD4:Array (Option Value)} {ttD4_0:Tok}
  {C:Addr}
  (a0:PySem.W.nsIn K mainGlobals "parts_of_kind" = some (some (.ref f0))) (l0:K.lookup f0=some ⟨oc0,od0,.func (PySem.W.fnOf "parts_of_kind" "parts_of_kind" (aM cJ) (aH cJ) (ao cJ) .none kV0 dc0 pm0 an0 cd0 ct0),sl0⟩) (c0:PySem.W.codeIn K cd0 "parts_of_kind" = true) (k0:PySem.W.keepIn K (.ref f0)=true)
  (a1:PySem.W.nsIn K mainGlobals "ways_on" = some (some (.ref f1))) (l1:K.lookup f1=some ⟨oc1,od1,.func (PySem.W.fnOf "ways_on" "ways_on" (aM eU) (aH eU) (ao eU) .none kV1 dc1 pm1 an1 cd1 ct1),sl1⟩) (c1:PySem.W.codeIn K cd1 "ways_on" = true) (k1:PySem.W.keepIn K (.ref f1)=true)
  (a2:PySem.W.nsIn K mainGlobals "without_ways" = some (some (.ref f2))) (l2:K.lookup f2=some ⟨oc2,od2,.func (PySem.W.fnOf "without_ways" "without_ways" (aM cR) (aH cR) (ao cR) .none kV2 dc2 pm2 an2 cd2 ct2),sl2⟩) (c2:PySem.W.codeIn K cd2 "without_ways" = true) (k2:PySem.W.keepIn K (.ref f2)=true)
  (a3:PySem.W.nsIn K mainGlobals "names_of" = some (some (.ref f3))) (l3:K.lookup f3=some ⟨oc3,od3,.func (PySem.W.fnOf "names_of" "names_of" (aM ef) (aH ef) (ao ef) .none kV3 dc3 pm3 an3 cd3 ct3),sl3⟩) (c3:PySem.W.codeIn K cd3 "names_of" = true) (k3:PySem.W.keepIn K (.ref f3)=true)
  (a4:PySem.W.nsIn K mainGlobals "lies_in" = some (some (.ref f4))) (l4:K.lookup f4=some ⟨oc4,od4,.func (PySem.W.fnOf "lies_in" "lies_in" (aM eV) (aH eV) (ao eV) .none kV4 dc4 pm4 an4 cd4 ct4),sl4⟩) (c4:PySem.W.codeIn K cd4 "lies_in" = true) (k4:PySem.W.keepIn K (.ref f4)=true)
  (a5:PySem.W.nsIn K mainGlobals "part_below" = some (some (.ref f5))) (l5:K.lookup f5=some ⟨oc5,od5,.func (PySem.W.fnOf "part_below" "part_below" (aM dz) (aH dz) (ao dz) .none kV5 dc5 pm5 an5 cd5 ct5),sl5⟩) (c5:PySem.W.codeIn K cd5 "part_below" = true) (k5:PySem.W.keepIn K (.ref f5)=true)
  (a6:PySem.W.nsIn K mainGlobals "part_from" = some (some (.ref f6))) (l6:K.lookup f6=some ⟨oc6,od6,.func (PySem.W.fnOf "part_from" "part_from" (aM dN) (aH dN) (ao dN) .none kV6 dc6 pm6 an6 cd6 ct6),sl6⟩) (c6:PySem.W.codeIn K cd6 "part_from" = true) (k6:PySem.W.keepIn K (.ref f6)=true)
  (a7:PySem.W.nsIn K mainGlobals "part_at" = some (some (.ref f7))) (l7:K.lookup f7=some ⟨oc7,od7,.func (PySem.W.fnOf "part_at" "part_at" (aM eW) (aH eW) (ao eW) .none kV7 dc7 pm7 an7 cd7 ct7),sl7⟩) (c7:PySem.W.codeIn K cd7 "part_at" = true) (k7:PySem.W.keepIn K (.ref f7)=true)
  (a8:PySem.W.nsIn K mainGlobals "part_beside" = some (some (.ref f8))) (l8:K.lookup f8=some ⟨oc8,od8,.func (PySem.W.fnOf "part_beside" "part_beside" (aM di) (aH di) (ao di) .none kV8 dc8 pm8 an8 cd8 ct8),sl8⟩) (c8:PySem.W.codeIn K cd8 "part_beside" = true) (k8:PySem.W.keepIn K (.ref f8)=true)
  (a9:PySem.W.nsIn K mainGlobals "part_of" = some (some (.ref f9))) (l9:K.lookup f9=some ⟨oc9,od9,.func (PySem.W.fnOf "part_of" "part_of" (aM eX) (aH eX) (ao eX) .none kV9 dc9 pm9 an9 cd9 ct9),sl9⟩) (c9:PySem.W.codeIn K cd9 "part_of" = true) (k9:PySem.W.keepIn K (.ref f9)=true)
  (a10:PySem.W.nsIn K mainGlobals "facts_of" = some (some (.ref f10))) (l10:K.lookup f10=some ⟨oc10,od10,.func (PySem.W.fnOf "facts_of" "facts_of" (aM eh) (aH eh) (ao eh) .none kV10 dc10 pm10 an10 cd10 ct10),sl10⟩) (c10:PySem.W.codeIn K cd10 "facts_of" = true) (k10:PySem.W.keepIn K (.ref f10)=true)
  (a11:PySem.W.nsIn K mainGlobals "known" = some (some (.ref f11))) (l11:K.lookup f11=some ⟨oc11,od11,.func (PySem.W.fnOf "known" "known" (aM gg) (aH gg) (ao gg) .none kV11 dc11 pm11 an11 cd11 ct11),sl11⟩) (c11:PySem.W.codeIn K cd11 "known" = true) (k11:PySem.W.keepIn K (.ref f11)=true)
  (a12:PySem.W.nsIn K mainGlobals "with_known" = some (some (.ref f12))) (l12:K.lookup f12=some ⟨oc12,od12,.func (PySem.W.fnOf "with_known" "with_known" (aM dA) (aH dA) (ao dA) .none kV12 dc12 pm12 an12 cd12 ct12),sl12⟩) (c12:PySem.W.codeIn K cd12 "with_known" = true) (k12:PySem.W.keepIn K (.ref f12)=true)
  (a13:PySem.W.nsIn K mainGlobals "moved" = some (some (.ref f13))) (l13:K.lookup f13=some ⟨oc13,od13,.func (PySem.W.fnOf "moved" "moved" (aM gh) (aH gh) (ao gh) .none kV13 dc13 pm13 an13 cd13 ct13),sl13⟩) (c13:PySem.W.codeIn K cd13 "moved" = true) (k13:PySem.W.keepIn K (.ref f13)=true)
  (a14:PySem.W.nsIn K mainGlobals "stretch_behind" = some (some (.ref f14))) (l14:K.lookup f14=some ⟨oc14,od14,.func (PySem.W.fnOf "stretch_behind" "stretch_behind" (aM cA) (aH cA) (ao cA) .none kV14 dc14 pm14 an14 cd14 ct14),sl14⟩) (c14:PySem.W.codeIn K cd14 "stretch_behind" = true) (k14:PySem.W.keepIn K (.ref f14)=true)
  (a15:PySem.W.nsIn K mainGlobals "behind" = some (some (.ref f15))) (l15:K.lookup f15=some ⟨oc15,od15,.func (PySem.W.fnOf "behind" "behind" (aM fC) (aH fC) (ao fC) .none kV15 dc15 pm15 an15 cd15 ct15),sl15⟩) (c15:PySem.W.codeIn K cd15 "behind" = true) (k15:PySem.W.keepIn K (.ref f15)=true)
  (a16:PySem.W.nsIn K mainGlobals "known_beyond" = some (some (.ref f16))) (l16:K.lookup f16=some ⟨oc16,od16,.func (PySem.W.fnOf "known_beyond" "known_beyond" (aM cS) (aH cS) (ao cS) .none kV16 dc16 pm16 an16 cd16 ct16),sl16⟩) (c16:PySem.W.codeIn K cd16 "known_beyond" = true) (k16:PySem.W.keepIn K (.ref f16)=true)
  (a17:PySem.W.nsIn K mainGlobals "leads" = some (some (.ref f17))) (l17:K.lookup f17=some ⟨oc17,od17,.func (PySem.W.fnOf "leads" "leads" (aM gi) (aH gi) (ao gi) .none kV17 dc17 pm17 an17 cd17 ct17),sl17⟩) (c17:PySem.W.codeIn K cd17 "leads" = true) (k17:PySem.W.keepIn K (.ref f17)=true)
  (a18:PySem.W.nsIn K mainGlobals "start" = some (some (.ref f18))) (l18:K.lookup f18=some ⟨oc18,od18,.func (PySem.W.fnOf "start" "start" (aM gm) (aH gm) (ao gm) .none kV18 dc18 pm18 an18 cd18 ct18),sl18⟩) (c18:PySem.W.codeIn K cd18 "start" = true) (k18:PySem.W.keepIn K (.ref f18)=true)
  (a19:PySem.W.findIn K (.ref C) "__init__" = some (some (.ref f19))) (i19:PySem.W.isFn K (.ref f19)=true) (l19:K.lookup f19=some ⟨oc19,od19,.func (PySem.W.fnOf "__init__" "Row.__init__" (aM cT) (aH cT) (ao cT) .none kV19 dc19 pm19 an19 cd19 ct19),sl19⟩) (c19:PySem.W.codeIn K cd19 "Row.__init__" = true) (k19:PySem.W.keepIn K (.ref f19)=true)
  (a20:PySem.W.findIn K (.ref C) "place_of" = some (some (.ref f20))) (i20:PySem.W.isFn K (.ref f20)=true) (l20:K.lookup f20=some ⟨oc20,od20,.func (PySem.W.fnOf "place_of" "Row.place_of" (aM cU) (aH cU) (ao cU) .none kV20 dc20 pm20 an20 cd20 ct20),sl20⟩) (c20:PySem.W.codeIn K cd20 "Row.place_of" = true) (k20:PySem.W.keepIn K (.ref f20)=true)
  (a21:PySem.W.nsIn K mainGlobals "reached" = some (some (.ref f21))) (l21:K.lookup f21=some ⟨oc21,od21,.func (PySem.W.fnOf "reached" "reached" (aM eY) (aH eY) (ao eY) .none kV21 dc21 pm21 an21 cd21 ct21),sl21⟩) (c21:PySem.W.codeIn K cd21 "reached" = true) (k21:PySem.W.keepIn K (.ref f21)=true)
  (a22:PySem.W.nsIn K mainGlobals "heads" = some (some (.ref f22))) (l22:K.lookup f22=some ⟨oc22,od22,.func (PySem.W.fnOf "heads" "heads" (aM gn) (aH gn) (ao gn) .none kV22 dc22 pm22 an22 cd22 ct22),sl22⟩) (c22:PySem.W.codeIn K cd22 "heads" = true) (k22:PySem.W.keepIn K (.ref f22)=true)
  (a23:PySem.W.nsIn K mainGlobals "copy_for" = some (some (.ref f23))) (l23:K.lookup f23=some ⟨oc23,od23,.func (PySem.W.fnOf "copy_for" "copy_for" (aM en) (aH en) (ao en) .none kV23 dc23 pm23 an23 cd23 ct23),sl23⟩) (c23:PySem.W.codeIn K cd23 "copy_for" = true) (k23:PySem.W.keepIn K (.ref f23)=true)
  (a24:PySem.W.nsIn K mainGlobals "end_to" = some (some (.ref f24))) (l24:K.lookup f24=some ⟨oc24,od24,.func (PySem.W.fnOf "end_to" "end_to" (aM fD) (aH fD) (ao fD) .none kV24 dc24 pm24 an24 cd24 ct24),sl24⟩) (c24:PySem.W.codeIn K cd24 "end_to" = true) (k24:PySem.W.keepIn K (.ref f24)=true)
  (a25:PySem.W.nsIn K mainGlobals "led_past" = some (some (.ref f25))) (l25:K.lookup f25=some ⟨oc25,od25,.func (PySem.W.fnOf "led_past" "led_past" (aM er) (aH er) (ao er) .none kV25 dc25 pm25 an25 cd25 ct25),sl25⟩) (c25:PySem.W.codeIn K cd25 "led_past" = true) (k25:PySem.W.keepIn K (.ref f25)=true)
  (a26:PySem.W.nsIn K mainGlobals "_law_bag" = some (some (.ref f26))) (l26:K.lookup f26=some ⟨oc26,od26,.func (PySem.W.fnOf "_law_bag" "_law_bag" (aM eZ) (aH eZ) (ao eZ) .none kV26 dc26 pm26 an26 cd26 ct26),sl26⟩) (c26:PySem.W.codeIn K cd26 "_law_bag" = true) (k26:PySem.W.keepIn K (.ref f26)=true)
  (a27:PySem.W.nsIn K mainGlobals "_law_take" = some (some (.ref f27))) (l27:K.lookup f27=some ⟨oc27,od27,.func (PySem.W.fnOf "_law_take" "_law_take" (aM eu) (aH eu) (ao eu) .none kV27 dc27 pm27 an27 cd27 ct27),sl27⟩) (c27:PySem.W.codeIn K cd27 "_law_take" = true) (k27:PySem.W.keepIn K (.ref f27)=true)
  (a28:PySem.W.nsIn K mainGlobals "_law_yes" = some (some (.ref f28))) (l28:K.lookup f28=some ⟨oc28,od28,.func (PySem.W.fnOf "_law_yes" "_law_yes" (aM e6) (aH e6) (ao e6) .none kV28 dc28 pm28 an28 cd28 ct28),sl28⟩) (c28:PySem.W.codeIn K cd28 "_law_yes" = true) (k28:PySem.W.keepIn K (.ref f28)=true)
  (a29:PySem.W.nsIn K mainGlobals "_law_kept" = some (some (.ref f29))) (l29:K.lookup f29=some ⟨oc29,od29,.func (PySem.W.fnOf "_law_kept" "_law_kept" (aM eB) (aH eB) (ao eB) .none kV29 dc29 pm29 an29 cd29 ct29),sl29⟩) (c29:PySem.W.codeIn K cd29 "_law_kept" = true) (k29:PySem.W.keepIn K (.ref f29)=true)
  (a30:PySem.W.nsIn K mainGlobals "_law_row" = some (some (.ref f30))) (l30:K.lookup f30=some ⟨oc30,od30,.func (PySem.W.fnOf "_law_row" "_law_row" (aM e7) (aH e7) (ao e7) .none kV30 dc30 pm30 an30 cd30 ct30),sl30⟩) (c30:PySem.W.codeIn K cd30 "_law_row" = true) (k30:PySem.W.keepIn K (.ref f30)=true)
  (a31:PySem.W.nsIn K mainGlobals "_law_tests_open" = some (some (.ref f31))) (l31:K.lookup f31=some ⟨oc31,od31,.func (PySem.W.fnOf "_law_tests_open" "_law_tests_open" (aM cB) (aH cB) (ao cB) .none kV31 dc31 pm31 an31 cd31 ct31),sl31⟩) (c31:PySem.W.codeIn K cd31 "_law_tests_open" = true) (k31:PySem.W.keepIn K (.ref f31)=true)
  (a32:PySem.W.nsIn K mainGlobals "law" = some (some (.ref f32))) (l32:K.lookup f32=some ⟨oc32,od32,.func (PySem.W.fnOf "law" "law" (aM fY) (aH fY) (ao fY) .none kV32 dc32 pm32 an32 cd32 ct32),sl32⟩) (c32:PySem.W.codeIn K cd32 "law" = true) (k32:PySem.W.keepIn K (.ref f32)=true)
  (z_len:PySem.W.nsIn K mainGlobals "len" = some none)
  (z_zip:PySem.W.nsIn K mainGlobals "zip" = some none)
  (z_tuple:PySem.W.nsIn K mainGlobals "tuple" = some none)
  (z_sorted:PySem.W.nsIn K mainGlobals "sorted" = some none)
  (z_set:PySem.W.nsIn K mainGlobals "set" = some none)
  (z_dict:PySem.W.nsIn K mainGlobals "dict" = some none)
  (z_min:PySem.W.nsIn K mainGlobals "min" = some none)
  (z_max:PySem.W.nsIn K mainGlobals "max" = some none)
  (z_range:PySem.W.nsIn K mainGlobals "range" = some none)
  (z_list:PySem.W.nsIn K mainGlobals "list" = some none)
  (z_int:PySem.W.nsIn K mainGlobals "int" = some none)
  (gA:PySem.W.nsIn K mainGlobals "ALL" = some (some (.ref aA))) (lA:K.lookup aA=some ⟨.type "tuple",dcA,.seq #[.none,.none] nA,slA⟩)
  (g_MOST_TO_LEAD:PySem.W.nsIn K mainGlobals "MOST_TO_LEAD" = some (some (.int 60 tk_MOST_TO_LEAD)))
  (gE:PySem.W.nsIn K mainGlobals "END_PARTS" = some (some (.ref aE))) (lE:K.lookup aE=some ⟨.type "dict",none,.dict #[⟨hsE0,.str "stop" tkE0,.ref s0⟩,⟨hsE1,.str "go" tkE1,.ref s1⟩,⟨hsE2,.str "less" tkE2,.ref s2⟩,⟨hsE3,.str "is" tkE3,.ref s3⟩] epE,#[]⟩) (qE0:K.lookup s0=some ⟨.type "tuple",dcE0,.seq #[] nnE0,slE0⟩) (qE1:K.lookup s1=some ⟨.type "tuple",dcE1,.seq #[.str "piece" ttE1_0] nnE1,slE1⟩) (qE2:K.lookup s2=some ⟨.type "tuple",dcE2,.seq #[.str "name" ttE2_0,.str "number" ttE2_1,.str "piece" ttE2_2,.str "piece" ttE2_3] nnE2,slE2⟩) (qE3:K.lookup s3=some ⟨.type "tuple",dcE3,.seq #[.str "name" ttE3_0,.str "number" ttE3_1,.str "piece" ttE3_2,.str "piece" ttE3_3] nnE3,slE3⟩)
  (gD:PySem.W.nsIn K mainGlobals "DEED_PARTS" = some (some (.ref aD))) (lD:K.lookup aD=some ⟨.type "dict",none,.dict #[⟨hsD0,.str "put" tkD0,.ref d0⟩,⟨hsD1,.str "copy" tkD1,.ref d1⟩,⟨hsD2,.str "add" tkD2,.ref d2⟩,⟨hsD3,.str "read" tkD3,.ref d3⟩,⟨hsD4,.str "tell" tkD4,.ref d4⟩] epD,#[]⟩) (qD0:K.lookup d0=some ⟨.type "tuple",dcD0,.seq #[.str "name" ttD0_0,.str "number" ttD0_1] nnD0,slD0⟩) (qD1:K.lookup d1=some ⟨.type "tuple",dcD1,.seq #[.str "name" ttD1_0,.str "name" ttD1_1] nnD1,slD1⟩) (qD2:K.lookup d2=some ⟨.type "tuple",dcD2,.seq #[.str "name" ttD2_0,.str "number" ttD2_1] nnD2,slD2⟩) (qD3:K.lookup d3=some ⟨.type "tuple",dcD3,.seq #[.str "name" ttD3_0] nnD3,slD3⟩) (qD4:K.lookup d4=some ⟨.type "tuple",dcD4,.seq #[.str "name" ttD4_0] nnD4,slD4⟩)
  (aCC:PySem.W.nsIn K mainGlobals "Row" = some (some (.ref C))) (pgC:PySem.W.plainGet K C Str.empty=true) (hdC:PySem.W.hasDictIn K C=true) (poC:PySem.W.plainOver K C=true) (saC:PySem.W.findIn K (.ref C) "__setattr__" = some (some (.builtin "object.__setattr__"))) (mkC:PySem.W.makesIn K C=true) (kcC:PySem.W.keepIn K (.ref C)=true)
  (nC_members:PySem.W.findIn K (.ref C) "members" = some none)
  (nC_places:PySem.W.findIn K (.ref C) "places" = some none) :
  ∃ fd:FuncData,(∀ (s:Shared) (v:Value),BindsTo s fd ⟨[v],[]⟩ [("script",v)])/\∀ base:Heap,K.In base->base.Ns mainGlobals mg->br l.prog w K mg base bU 8 fa fd ["script"] (oo K):=by
 have e:=hfa.symm.trans (PySem.W.mg_of X G a32)
 cases e
 have Z:Bl mg:=⟨PySem.W.mg_none_of X G z_len,PySem.W.mg_none_of X G z_zip,PySem.W.mg_none_of X G z_tuple,PySem.W.mg_none_of X G z_sorted,PySem.W.mg_none_of X G z_set,PySem.W.mg_none_of X G z_dict,PySem.W.mg_none_of X G z_min,PySem.W.mg_none_of X G z_max,PySem.W.mg_none_of X G z_range,PySem.W.mg_none_of X G z_list,PySem.W.mg_none_of X G z_int⟩
 have GA:fO K mg aA:=⟨PySem.W.mg_of X G gA,_,_,_,lA⟩
 have G_MOST_TO_LEAD:mg "MOST_TO_LEAD" = some (.int 60 tk_MOST_TO_LEAD):=PySem.W.mg_of X G g_MOST_TO_LEAD
 have GE:o4 K mg aE s0 s1 s2 s3:=⟨⟨PySem.W.mg_of X G gE,_,_,lE,(.cons rfl rfl (.cons rfl rfl (.cons rfl rfl (.cons rfl rfl .nil))))⟩,⟨_,_,_,qE0,rfl,rfl,(by show 0<=sizeLine;decide),.nil⟩,⟨_,_,_,qE1,rfl,rfl,(by show 1<=sizeLine;decide),(.cons ⟨_,rfl⟩ .nil)⟩,⟨_,_,_,qE2,rfl,rfl,(by show 4<=sizeLine;decide),(.cons ⟨_,rfl⟩ (.cons ⟨_,rfl⟩ (.cons ⟨_,rfl⟩ (.cons ⟨_,rfl⟩ .nil))))⟩,⟨_,_,_,qE3,rfl,rfl,(by show 4<=sizeLine;decide),(.cons ⟨_,rfl⟩ (.cons ⟨_,rfl⟩ (.cons ⟨_,rfl⟩ (.cons ⟨_,rfl⟩ .nil))))⟩⟩
 have GD:ou K mg aD d0 d1 d2 d3 d4:=⟨⟨PySem.W.mg_of X G gD,_,_,lD,(.cons rfl rfl (.cons rfl rfl (.cons rfl rfl (.cons rfl rfl (.cons rfl rfl .nil)))))⟩,⟨_,_,_,qD0,rfl,rfl,(by show 2<=sizeLine;decide),(.cons ⟨_,rfl⟩ (.cons ⟨_,rfl⟩ .nil))⟩,⟨_,_,_,qD1,rfl,rfl,(by show 2<=sizeLine;decide),(.cons ⟨_,rfl⟩ (.cons ⟨_,rfl⟩ .nil))⟩,⟨_,_,_,qD2,rfl,rfl,(by show 2<=sizeLine;decide),(.cons ⟨_,rfl⟩ (.cons ⟨_,rfl⟩ .nil))⟩,⟨_,_,_,qD3,rfl,rfl,(by show 1<=sizeLine;decide),(.cons ⟨_,rfl⟩ .nil)⟩,⟨_,_,_,qD4,rfl,rfl,(by show 1<=sizeLine;decide),(.cons ⟨_,rfl⟩ .nil)⟩⟩
 have T:pG K C:=⟨⟨pgC,hdC,poC,saC⟩,nC_members,nC_places⟩
 have F0:=bc (st:=cJ) l0 c0 k0
 have b0:=F0.binds (ps:=["thing", "kinds", "wanted"]) fun _ _ _ _ _ _ us hl=>match us,hl with | [_,_,_],_=>rfl
 have F1:=bc (st:=eU) l1 c1 k1
 have b1:=F1.binds (ps:=["end"]) fun _ _ _ _ _ _ us hl=>match us,hl with | [_],_=>rfl
 have F2:=bc (st:=cR) l2 c2 k2
 have b2:=F2.binds (ps:=["end"]) fun _ _ _ _ _ _ us hl=>match us,hl with | [_],_=>rfl
 have F3:=bc (st:=ef) l3 c3 k3
 have b3:=F3.binds (ps:=["plan"]) fun _ _ _ _ _ _ us hl=>match us,hl with | [_],_=>rfl
 have F4:=bc (st:=eV) l4 c4 k4
 have b4:=F4.binds (ps:=["number", "stretch"]) fun _ _ _ _ _ _ us hl=>match us,hl with | [_,_],_=>rfl
 have F5:=bc (st:=dz) l5 c5 k5
 have b5:=F5.binds (ps:=["stretch", "number"]) fun _ _ _ _ _ _ us hl=>match us,hl with | [_,_],_=>rfl
 have F6:=bc (st:=dN) l6 c6 k6
 have b6:=F6.binds (ps:=["stretch", "number"]) fun _ _ _ _ _ _ us hl=>match us,hl with | [_,_],_=>rfl
 have F7:=bc (st:=eW) l7 c7 k7
 have b7:=F7.binds (ps:=["stretch", "number"]) fun _ _ _ _ _ _ us hl=>match us,hl with | [_,_],_=>rfl
 have F8:=bc (st:=di) l8 c8 k8
 have b8:=F8.binds (ps:=["stretch", "number"]) fun _ _ _ _ _ _ us hl=>match us,hl with | [_,_],_=>rfl
 have F9:=bc (st:=eX) l9 c9 k9
 have b9:=F9.binds (ps:=["stretch", "word", "number", "side"]) fun _ _ _ _ _ _ us hl=>match us,hl with | [_,_,_,_],_=>rfl
 have F10:=bc (st:=eh) l10 c10 k10
 have b10:=F10.binds (ps:=["stretches"]) fun _ _ _ _ _ _ us hl=>match us,hl with | [_],_=>rfl
 have F11:=bc (st:=gg) l11 c11 k11
 have b11:=F11.binds (ps:=["facts", "name"]) fun _ _ _ _ _ _ us hl=>match us,hl with | [_,_],_=>rfl
 have F12:=bc (st:=dA) l12 c12 k12
 have b12:=F12.binds (ps:=["facts", "name", "stretch"]) fun _ _ _ _ _ _ us hl=>match us,hl with | [_,_,_],_=>rfl
 have F13:=bc (st:=gh) l13 c13 k13
 have b13:=F13.binds (ps:=["stretch", "number"]) fun _ _ _ _ _ _ us hl=>match us,hl with | [_,_],_=>rfl
 have F14:=bc (st:=cA) l14 c14 k14
 have b14:=F14.binds (ps:=["stretches", "deed"]) fun _ _ _ _ _ _ us hl=>match us,hl with | [_,_],_=>rfl
 have F15:=bc (st:=fC) l15 c15 k15
 have b15:=F15.binds (ps:=["facts", "deeds"]) fun _ _ _ _ _ _ us hl=>match us,hl with | [_,_],_=>rfl
 have F16:=bc (st:=cS) l16 c16 k16
 have b16:=F16.binds (ps:=["facts", "end"]) fun _ _ _ _ _ _ us hl=>match us,hl with | [_,_],_=>rfl
 have F17:=bc (st:=gi) l17 c17 k17
 have b17:=F17.binds (ps:=["facts", "end"]) fun _ _ _ _ _ _ us hl=>match us,hl with | [_,_],_=>rfl
 have F18:=bc (st:=gm) l18 c18 k18
 have b18:=F18.binds (ps:=["plan"]) fun _ _ _ _ _ _ us hl=>match us,hl with | [_],_=>rfl
 have F19:=bc (st:=cT) l19 c19 k19
 have b19:=F19.binds (ps:=["self", "first"]) fun _ _ _ _ _ _ us hl=>match us,hl with | [_,_],_=>rfl
 have F20:=bc (st:=cU) l20 c20 k20
 have b20:=F20.binds (ps:=["self", "thing"]) fun _ _ _ _ _ _ us hl=>match us,hl with | [_,_],_=>rfl
 have F21:=bc (st:=eY) l21 c21 k21
 have b21:=F21.binds (ps:=["plan"]) fun _ _ _ _ _ _ us hl=>match us,hl with | [_],_=>rfl
 have F22:=bc (st:=gn) l22 c22 k22
 have b22:=F22.binds (ps:=["plan"]) fun _ _ _ _ _ _ us hl=>match us,hl with | [_],_=>rfl
 have F23:=bc (st:=en) l23 c23 k23
 have b23:=F23.binds (ps:=["lead", "tops", "places", "most"]) fun _ _ _ _ _ _ us hl=>match us,hl with | [_,_,_,_],_=>rfl
 have F24:=bc (st:=fD) l24 c24 k24
 have b24:=F24.binds (ps:=["end", "ways"]) fun _ _ _ _ _ _ us hl=>match us,hl with | [_,_],_=>rfl
 have F25:=bc (st:=er) l25 c25 k25
 have b25:=F25.binds (ps:=["plan", "most"]) fun _ _ _ _ _ _ us hl=>match us,hl with | [_,_],_=>rfl
 have F26:=bc (st:=eZ) l26 c26 k26
 have b26:=F26.binds (ps:=["script", "k"]) fun _ _ _ _ _ _ us hl=>match us,hl with | [_,_],_=>rfl
 have F27:=bc (st:=eu) l27 c27 k27
 have b27:=F27.binds (ps:=["bag", "many"]) fun _ _ _ _ _ _ us hl=>match us,hl with | [_,_],_=>rfl
 have F28:=bc (st:=e6) l28 c28 k28
 have b28:=F28.binds (ps:=["end", "worth"]) fun _ _ _ _ _ _ us hl=>match us,hl with | [_,_],_=>rfl
 have F29:=bc (st:=eB) l29 c29 k29
 have b29:=F29.binds (ps:=["end", "count"]) fun _ _ _ _ _ _ us hl=>match us,hl with | [_,_],_=>rfl
 have F30:=bc (st:=e7) l30 c30 k30
 have b30:=F30.binds (ps:=["bag"]) fun _ _ _ _ _ _ us hl=>match us,hl with | [_],_=>rfl
 have F31:=bc (st:=cB) l31 c31 k31
 have b31:=F31.binds (ps:=["other", "number"]) fun _ _ _ _ _ _ us hl=>match us,hl with | [_,_],_=>rfl
 have F32:=bc (st:=fY) l32 c32 k32
 refine⟨PySem.W.fnOf "law" "law" (aM fY) (aH fY) (ao fY) .none kV32 dc32 pm32 an32 cd32 ct32,fun s v=>.of_eq rfl,fun base _ _=>?_⟩
 have O_parts_of_kind:Own l.prog w K mg base "parts_of_kind" 1 ["thing", "kinds", "wanted"] (jF K):=⟨⟨_,_,kN F0 Z ,PySem.W.mg_of X G a0,k0,b0⟩⟩
 have O_ways_on:Own l.prog w K mg base "ways_on" 3 ["end"] gN:=⟨⟨_,_,sH F1 Z GE O_parts_of_kind,PySem.W.mg_of X G a1,k1,b1⟩⟩
 have O_without_ways:Own l.prog w K mg base "without_ways" 4 ["end"] jo:=⟨⟨_,_,ma F2 Z O_ways_on,PySem.W.mg_of X G a2,k2,b2⟩⟩
 have O_names_of:Own l.prog w K mg base "names_of" 3 ["plan"] jj:=⟨⟨_,_,qh F3 Z GD GE O_parts_of_kind,PySem.W.mg_of X G a3,k3,b3⟩⟩
 have O_lies_in:Own l.prog w K mg base "lies_in" 1 ["number", "stretch"] (mQ K):=⟨⟨_,_,sI F4 Z ,PySem.W.mg_of X G a4,k4,b4⟩⟩
 have O_part_below:Own l.prog w K mg base "part_below" 1 ["stretch", "number"] (fP K du):=⟨⟨_,_,oh F5 Z ,PySem.W.mg_of X G a5,k5,b5⟩⟩
 have O_part_from:Own l.prog w K mg base "part_from" 1 ["stretch", "number"] (fP K d7):=⟨⟨_,_,pW F6 Z ,PySem.W.mg_of X G a6,k6,b6⟩⟩
 have O_part_at:Own l.prog w K mg base "part_at" 2 ["stretch", "number"] (fP K lB):=⟨⟨_,_,sJ F7 Z O_lies_in,PySem.W.mg_of X G a7,k7,b7⟩⟩
 have O_part_beside:Own l.prog w K mg base "part_beside" 1 ["stretch", "number"] (fP K gM):=⟨⟨_,_,m6 F8 Z ,PySem.W.mg_of X G a8,k8,b8⟩⟩
 have O_part_of:Own l.prog w K mg base "part_of" 3 ["stretch", "word", "number", "side"] (mR K):=⟨⟨_,_,sL F9 Z O_part_below O_part_from O_part_at O_part_beside,PySem.W.mg_of X G a9,k9,b9⟩⟩
 have O_facts_of:Own l.prog w K mg base "facts_of" 1 ["stretches"] (hU aA):=⟨⟨_,_,qi F10 Z GA ,PySem.W.mg_of X G a10,k10,b10⟩⟩
 have O_known:Own l.prog w K mg base "known" 1 ["facts", "name"] (mP aA):=⟨⟨_,_,vV F11 Z GA ,PySem.W.mg_of X G a11,k11,b11⟩⟩
 have O_with_known:Own l.prog w K mg base "with_known" 2 ["facts", "name", "stretch"] (ic aA):=⟨⟨_,_,oi F12 Z GA O_facts_of,PySem.W.mg_of X G a12,k12,b12⟩⟩
 have O_moved:Own l.prog w K mg base "moved" 1 ["stretch", "number"] (mM K):=⟨⟨_,_,vW F13 Z ,PySem.W.mg_of X G a13,k13,b13⟩⟩
 have O_stretch_behind:Own l.prog w K mg base "stretch_behind" 2 ["stretches", "deed"] (iI aA):=⟨⟨_,_,jO F14 Z GA O_moved,PySem.W.mg_of X G a14,k14,b14⟩⟩
 have O_behind:Own l.prog w K mg base "behind" 3 ["facts", "deeds"] kq:=⟨⟨_,_,uF F15 Z GA O_stretch_behind O_facts_of,PySem.W.mg_of X G a15,k15,b15⟩⟩
 have O_known_beyond:Own l.prog w K mg base "known_beyond" 4 ["facts", "end"] (ky aA):=⟨⟨_,_,md F16 Z GA O_ways_on O_known O_part_of O_with_known,PySem.W.mg_of X G a16,k16,b16⟩⟩
 have O_leads:Own l.prog w K mg base "leads" 5 ["facts", "end"] (mS aA):=⟨⟨_,_,vX F17 Z O_known_beyond O_ways_on,PySem.W.mg_of X G a17,k17,b17⟩⟩
 have O_start:Own l.prog w K mg base "start" 4 ["plan"] mT:=⟨⟨_,_,vY F18 Z O_names_of,PySem.W.mg_of X G a18,k18,b18⟩⟩
 have O_Row___init__:vg l.prog w K mg base C "Row" 1 ["self", "first"] (iM l.prog w C):=⟨⟨_,_,me F19 Z T ,⟨mkC,a19,i19,kcC⟩,PySem.W.mg_of X G aCC,b19⟩⟩
 have O_Row_place_of:vf l.prog w K mg base C "place_of" 1 ["self", "thing"] (iN l.prog w C):=⟨T.cl,⟨_,_,mf F20 Z T ,⟨a20,i20,k20⟩,b20⟩⟩
 have O_reached:Own l.prog w K mg base "reached" 4 ["plan"] jv:=⟨⟨_,_,sM F21 Z O_ways_on,PySem.W.mg_of X G a21,k21,b21⟩⟩
 have O_heads:Own l.prog w K mg base "heads" 5 ["plan"] mU:=⟨⟨_,_,vZ F22 Z O_reached O_ways_on,PySem.W.mg_of X G a22,k22,b22⟩⟩
 have O_copy_for:Own l.prog w K mg base "copy_for" 1 ["lead", "tops", "places", "most"] (jx l.prog w):=⟨⟨_,_,ql F23 Z ,PySem.W.mg_of X G a23,k23,b23⟩⟩
 have O_end_to:Own l.prog w K mg base "end_to" 5 ["end", "ways"] mV:=⟨⟨_,_,uG F24 Z O_without_ways,PySem.W.mg_of X G a24,k24,b24⟩⟩
 have O_led_past:Own l.prog w K mg base "led_past" 7 ["plan", "most"] (jA l.prog w C):=⟨⟨_,_,qm F25 Z G_MOST_TO_LEAD T O_heads O_start O_Row___init__ O_Row_place_of O_behind O_leads O_copy_for O_end_to,PySem.W.mg_of X G a25,k25,b25⟩⟩
 have O_law_bag:Own l.prog w K mg base "_law_bag" 1 ["script", "k"] (rN K):=⟨⟨_,_,sN F26 Z ,PySem.W.mg_of X G a26,k26,b26⟩⟩
 have O_law_take:Own l.prog w K mg base "_law_take" 1 ["bag", "many"] oW:=⟨⟨_,_,qo F27 Z ,PySem.W.mg_of X G a27,k27,b27⟩⟩
 have O_law_yes:Own l.prog w K mg base "_law_yes" 1 ["end", "worth"] pU:=⟨⟨_,_,sO F28 Z ,PySem.W.mg_of X G a28,k28,b28⟩⟩
 have O_law_kept:Own l.prog w K mg base "_law_kept" 1 ["end", "count"] m5:=⟨⟨_,_,qp F29 Z ,PySem.W.mg_of X G a29,k29,b29⟩⟩
 have O_law_row:Own l.prog w K mg base "_law_row" 2 ["bag"] pT:=⟨⟨_,_,sP F30 Z O_law_take O_law_kept,PySem.W.mg_of X G a30,k30,b30⟩⟩
 have O_law_tests_open:Own l.prog w K mg base "_law_tests_open" 2 ["other", "number"] kK:=⟨⟨_,_,jP F31 Z O_law_yes,PySem.W.mg_of X G a31,k31,b31⟩⟩
 exact yQ F32 Z T O_law_bag O_law_row O_law_tests_open O_led_past
theorem walk {l:PySem.W.OpenLaw} {q:Program} {loose:List Str} {XP:(Str->Option Value)->Heap->Prop} {YP:World->Heap->Prop} {d:DefRec} {K:Params->PySem.W.Frag} (hn:l.most=some 63) (hdf:d.params.defaults = [])
  (hY:∀ (w:World) (h:Heap),YP w h->(K w.params).In h)
  (F:∀ (w:World) (mg:Str->Option Value) (fa:Addr) (h:Heap),(K w.params).In h->h.Ns mainGlobals mg->mg d.name=some (.ref fa) ->
   ∃ fd:FuncData,(∀ (s:Shared) (u:Value),BindsTo s fd ⟨[u],[]⟩ [("script",u)])/\∀ base:Heap,(K w.params).In base->base.Ns mainGlobals mg->br l.prog w (K w.params) mg base bU 8 fa fd ["script"] (oo (K w.params))) :
  PySem.W.WalkO q loose XP YP l.row.toRowW d [] (fun f vs=>PySem.call f vs) :=
 L2.xb (n:=63) (k:=8) (x := "script") (CX:=fun _=>bU) (sp:=fun w=>oo (K w.params)) hn (by decide) hdf ⟨rfl,by decide,by decide⟩ hY F (fun _ _ a ns hl _ hS=>⟨a,ns,rfl,hS,hl,fun _=>rfl⟩) fun _ _ _ _ _ z=>z
end My
theorem PySem.W.Fast.tw2939616993768490613:True:=trivial
theorem PySem.W.Fast.tw16202099145650388387:True:=trivial
theorem PySem.W.Fast.tw16954894040298032272:True:=trivial
theorem PySem.W.Fast.tw17054834888735649256:True:=trivial
theorem PySem.W.Fast.tw7602086762666620591:True:=trivial
theorem PySem.W.Fast.tw15452748419095091862:True:=trivial
theorem PySem.W.Fast.tw11416983413661354579:True:=trivial
theorem PySem.W.Fast.tw4616153988709473412:True:=trivial
theorem PySem.W.Fast.tw12160309364947160808:True:=trivial
theorem PySem.W.Fast.tw16757941111689690304:True:=trivial
theorem PySem.W.Fast.tw17267279214327297439:True:=trivial
theorem PySem.W.Fast.tw10686827844463260594:True:=trivial
theorem PySem.W.Fast.tw1262479748161239001:True:=trivial
theorem PySem.W.Fast.tw976377978306589050:True:=trivial
theorem PySem.W.Fast.tw1380873462152794499:True:=trivial
theorem PySem.W.Fast.tw7354204046667466451:True:=trivial
theorem PySem.W.Fast.tw14284821659483274740:True:=trivial
theorem PySem.W.Fast.tw4350801130446604343:True:=trivial
theorem PySem.W.Fast.tw5182213067478139950:True:=trivial
theorem PySem.W.Fast.tw711042128302191680:True:=trivial
theorem PySem.W.Fast.tw16762223817966873710:True:=trivial
theorem PySem.W.Fast.tw8707241835998409523:True:=trivial
theorem PySem.W.Fast.tw4163430722948426872:True:=trivial
theorem PySem.W.Fast.tw3232495767902370606:True:=trivial
theorem PySem.W.Fast.tw985808970731131442:True:=trivial
theorem PySem.W.Fast.tw154764730484184662:True:=trivial
theorem PySem.W.Fast.tw9139887249906561697:True:=trivial
theorem PySem.W.Fast.tw3303821219501766851:True:=trivial
theorem PySem.W.Fast.tw6678355384693003443:True:=trivial
theorem PySem.W.Fast.tw9982175762341700887:True:=trivial
theorem PySem.W.Fast.tw3147023286253795256:True:=trivial
theorem PySem.W.Fast.tw17493182016128833592:True:=trivial
theorem PySem.W.Fast.tw91246472612493044:True:=trivial
theorem PySem.W.Fast.tw4566688564798484192:True:=trivial
theorem PySem.W.Fast.tw2459085560872670799:True:=trivial
theorem PySem.W.Fast.tw4403807111896214169:True:=trivial
theorem PySem.W.Fast.tw12383825000378727299:True:=trivial
theorem PySem.W.Fast.tw6007709569254384491:True:=trivial
theorem PySem.W.Fast.tw11501198335051051286:True:=trivial
theorem PySem.W.Fast.tw14651733992251622099:True:=trivial
theorem PySem.W.Fast.tw9838191116084686313:True:=trivial
theorem PySem.W.Fast.tw8351432228858412913:True:=trivial
theorem PySem.W.Fast.tw16051806413423270978:True:=trivial
theorem PySem.W.Fast.tw6648608505496962964:True:=trivial
theorem PySem.W.Fast.tw8194443063159246033:True:=trivial
theorem PySem.W.Fast.tw8738809961302111836:True:=trivial
theorem PySem.W.Fast.tw5124718989891323671:True:=trivial
theorem PySem.W.Fast.tw18354627878960514004:True:=trivial
theorem PySem.W.Fast.tw3064336098311766050:True:=trivial
theorem PySem.W.Fast.tw2009800694528500448:True:=trivial
theorem PySem.W.Fast.tw10979792585088227310:True:=trivial
theorem PySem.W.Fast.tw17564391770143286859:True:=trivial
theorem PySem.W.Fast.tw6367850035388746514:True:=trivial
theorem PySem.W.Fast.tw9009973062401345957:True:=trivial
theorem PySem.W.Fast.tw4255589601771935583:True:=trivial
theorem PySem.W.Fast.tw1686776150084101263:True:=trivial
theorem PySem.W.Fast.tw14278461209526653548:True:=trivial
theorem PySem.W.Fast.tw16109690233238964703:True:=trivial
theorem PySem.W.Fast.tw16733651628420061541:True:=trivial
theorem PySem.W.Fast.tw16928047702010715717:True:=trivial
theorem PySem.W.Fast.tw17534379856849971229:True:=trivial
theorem PySem.W.Fast.tw7427841744577057760:True:=trivial
theorem PySem.W.Fast.tw2547796824086200453:True:=trivial
theorem PySem.W.Fast.tw12337233957476638242:True:=trivial
theorem PySem.W.Fast.tw15524069061219483545:True:=trivial
theorem PySem.W.Fast.tw2330111847695243476:True:=trivial
theorem PySem.W.Fast.tw317343353926423451:True:=trivial
theorem PySem.W.Fast.tw14099151942284587507:True:=trivial
theorem PySem.W.Fast.tw13764171222410258638:True:=trivial
theorem PySem.W.Fast.tw9654598591087977798:True:=trivial
theorem PySem.W.Fast.tw3679421142090361439:True:=trivial
theorem PySem.W.Fast.tw13311592959587458912:True:=trivial
theorem PySem.W.Fast.tw9957929497741310874:True:=trivial
theorem PySem.W.Fast.tw11730838975877706024:True:=trivial
theorem PySem.W.Fast.tw7924612852477535923:True:=trivial
theorem PySem.W.Fast.tw11803568320669394561:True:=trivial
theorem PySem.W.Fast.tw14394322998216053495:True:=trivial
theorem PySem.W.Fast.tw11417896481195965883:True:=trivial
theorem PySem.W.Fast.tw16838548728702319741:True:=trivial
theorem PySem.W.Fast.tw14824889100705447400:True:=trivial
theorem PySem.W.Fast.tw10197529296328567866:True:=trivial
theorem PySem.W.Fast.tw12695754066123073573:True:=trivial
theorem PySem.W.Fast.tw9693885067689553858:True:=trivial
theorem PySem.W.Fast.tw14681695897543497034:True:=trivial
theorem PySem.W.Fast.tw3170386662304872046:True:=trivial
open PySem PySem.W PyProof.Rows
set_option maxRecDepth 100000 in
set_option maxHeartbeats 0 in
theorem PySem.Challenge.cw_ledpast_k17_whole_known_tests_told_holds : PySem.Challenge.rw_ledpast_k17_whole_known_tests_told.Holds := by
 w_on; o_law; k_head; (case hw => w_witness2)
 k_fill
 refine My.walk (l := PySem.Challenge.rw_ledpast_k17_whole_known_tests_told) rfl rfl (fun w h Y => PySem.W.kIn_of Y) ?F
 case F =>
  intro w mg fa h KX G hmg
  refine' My.all_mk KX G hmg ?a0 ?l0 ?c0 ?k0 ?a1 ?l1 ?c1 ?k1 ?a2 ?l2 ?c2 ?k2 ?a3 ?l3 ?c3 ?k3 ?a4 ?l4 ?c4 ?k4 ?a5 ?l5 ?c5 ?k5 ?a6 ?l6 ?c6 ?k6 ?a7 ?l7 ?c7 ?k7 ?a8 ?l8 ?c8 ?k8 ?a9 ?l9 ?c9 ?k9 ?a10 ?l10 ?c10 ?k10 ?a11 ?l11 ?c11 ?k11 ?a12 ?l12 ?c12 ?k12 ?a13 ?l13 ?c13 ?k13 ?a14 ?l14 ?c14 ?k14 ?a15 ?l15 ?c15 ?k15 ?a16 ?l16 ?c16 ?k16 ?a17 ?l17 ?c17 ?k17 ?a18 ?l18 ?c18 ?k18 ?a19 ?i19 ?l19 ?c19 ?k19 ?a20 ?i20 ?l20 ?c20 ?k20 ?a21 ?l21 ?c21 ?k21 ?a22 ?l22 ?c22 ?k22 ?a23 ?l23 ?c23 ?k23 ?a24 ?l24 ?c24 ?k24 ?a25 ?l25 ?c25 ?k25 ?a26 ?l26 ?c26 ?k26 ?a27 ?l27 ?c27 ?k27 ?a28 ?l28 ?c28 ?k28 ?a29 ?l29 ?c29 ?k29 ?a30 ?l30 ?c30 ?k30 ?a31 ?l31 ?c31 ?k31 ?a32 ?l32 ?c32 ?k32 ?z_len ?z_zip ?z_tuple ?z_sorted ?z_set ?z_dict ?z_min ?z_max ?z_range ?z_list ?z_int ?gA ?lA ?g_MOST_TO_LEAD ?gE ?lE ?qE0 ?qE1 ?qE2 ?qE3 ?gD ?lD ?qD0 ?qD1 ?qD2 ?qD3 ?qD4 ?aCC ?pgC ?hdC ?poC ?saC ?mkC ?kcC ?nC_members ?nC_places
  (case gA => k_is)
  (case lA => k_is)
  (case g_MOST_TO_LEAD => k_is)
  (case gE => k_is)
  (case lE => k_is)
  (case qE0 => k_is)
  (case qE1 => k_is)
  (case qE2 => k_is)
  (case qE3 => k_is)
  (case gD => k_is)
  (case lD => k_is)
  (case qD0 => k_is)
  (case qD1 => k_is)
  (case qD2 => k_is)
  (case qD3 => k_is)
  (case qD4 => k_is)
  (case aCC => k_is)
  (case pgC => k_is)
  (case hdC => k_is)
  (case poC => k_is)
  (case saC => k_is)
  (case mkC => k_is)
  (case kcC => k_is)
  (case nC_members => k_is)
  (case nC_places => k_is)
  (case a0 => k_is)
  (case l0 => k_is)
  (case c0 => k_is)
  (case k0 => k_is)
  (case a1 => k_is)
  (case l1 => k_is)
  (case c1 => k_is)
  (case k1 => k_is)
  (case a2 => k_is)
  (case l2 => k_is)
  (case c2 => k_is)
  (case k2 => k_is)
  (case a3 => k_is)
  (case l3 => k_is)
  (case c3 => k_is)
  (case k3 => k_is)
  (case a4 => k_is)
  (case l4 => k_is)
  (case c4 => k_is)
  (case k4 => k_is)
  (case a5 => k_is)
  (case l5 => k_is)
  (case c5 => k_is)
  (case k5 => k_is)
  (case a6 => k_is)
  (case l6 => k_is)
  (case c6 => k_is)
  (case k6 => k_is)
  (case a7 => k_is)
  (case l7 => k_is)
  (case c7 => k_is)
  (case k7 => k_is)
  (case a8 => k_is)
  (case l8 => k_is)
  (case c8 => k_is)
  (case k8 => k_is)
  (case a9 => k_is)
  (case l9 => k_is)
  (case c9 => k_is)
  (case k9 => k_is)
  (case a10 => k_is)
  (case l10 => k_is)
  (case c10 => k_is)
  (case k10 => k_is)
  (case a11 => k_is)
  (case l11 => k_is)
  (case c11 => k_is)
  (case k11 => k_is)
  (case a12 => k_is)
  (case l12 => k_is)
  (case c12 => k_is)
  (case k12 => k_is)
  (case a13 => k_is)
  (case l13 => k_is)
  (case c13 => k_is)
  (case k13 => k_is)
  (case a14 => k_is)
  (case l14 => k_is)
  (case c14 => k_is)
  (case k14 => k_is)
  (case a15 => k_is)
  (case l15 => k_is)
  (case c15 => k_is)
  (case k15 => k_is)
  (case a16 => k_is)
  (case l16 => k_is)
  (case c16 => k_is)
  (case k16 => k_is)
  (case a17 => k_is)
  (case l17 => k_is)
  (case c17 => k_is)
  (case k17 => k_is)
  (case a18 => k_is)
  (case l18 => k_is)
  (case c18 => k_is)
  (case k18 => k_is)
  (case a19 => k_is)
  (case i19 => k_is)
  (case l19 => k_is)
  (case c19 => k_is)
  (case k19 => k_is)
  (case a20 => k_is)
  (case i20 => k_is)
  (case l20 => k_is)
  (case c20 => k_is)
  (case k20 => k_is)
  (case a21 => k_is)
  (case l21 => k_is)
  (case c21 => k_is)
  (case k21 => k_is)
  (case a22 => k_is)
  (case l22 => k_is)
  (case c22 => k_is)
  (case k22 => k_is)
  (case a23 => k_is)
  (case l23 => k_is)
  (case c23 => k_is)
  (case k23 => k_is)
  (case a24 => k_is)
  (case l24 => k_is)
  (case c24 => k_is)
  (case k24 => k_is)
  (case a25 => k_is)
  (case l25 => k_is)
  (case c25 => k_is)
  (case k25 => k_is)
  (case a26 => k_is)
  (case l26 => k_is)
  (case c26 => k_is)
  (case k26 => k_is)
  (case a27 => k_is)
  (case l27 => k_is)
  (case c27 => k_is)
  (case k27 => k_is)
  (case a28 => k_is)
  (case l28 => k_is)
  (case c28 => k_is)
  (case k28 => k_is)
  (case a29 => k_is)
  (case l29 => k_is)
  (case c29 => k_is)
  (case k29 => k_is)
  (case a30 => k_is)
  (case l30 => k_is)
  (case c30 => k_is)
  (case k30 => k_is)
  (case a31 => k_is)
  (case l31 => k_is)
  (case c31 => k_is)
  (case k31 => k_is)
  (case a32 => k_is)
  (case l32 => k_is)
  (case c32 => k_is)
  (case k32 => k_is)
  (case z_len => k_is)
  (case z_zip => k_is)
  (case z_tuple => k_is)
  (case z_sorted => k_is)
  (case z_set => k_is)
  (case z_dict => k_is)
  (case z_min => k_is)
  (case z_max => k_is)
  (case z_range => k_is)
  (case z_list => k_is)
  (case z_int => k_is)
