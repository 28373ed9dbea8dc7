import PyProof.Rows.All
import Wide.All
import OpenK.AllK
import Wide.FinOn
import Lean
import PyProof.EqAt
import PyProof.EqKinds
import PyProof.TupleCall
import PyProof.NeData
import PyProof.DictCompW
import PyProof.EnumMake
import PyProof.Draws
import PySem.Challenge.RW_ledpast_k35_live_names_by_hand
set_option maxHeartbeats 8000000
set_option Elab.async false
set_option linter.all false
set_option maxRecDepth 100000
namespace L2
open PySem PySem.Spec PyProof.Rows
abbrev Key:=Sum Int Str
def fz:Key->Value->Bool
 | .inl k,v=>Value.isInt k v
 | .inr x,v=>Value.isStrOf x v
def sE (w:World):Key->Int
 | .inl k=>hashInt k
 | .inr x=>hashStr w x
theorem bE:∀ {k:Key} {v:Value},fz k v=true->(∃ i t,k=Sum.inl i/\v=Value.int i t)\/(∃ x t,k=Sum.inr x/\v=Value.str x t)
 | .inl i,v,h=>by
  obtain⟨t,e⟩:=Value.isInt_shape (k:=i) (v:=v) h
  exact .inl ⟨i,t,rfl,e⟩
 | .inr x,v,h=>by
  obtain⟨t,e⟩:=Value.isStrOf_shape (x:=x) (v:=v) h
  exact .inr ⟨x,t,rfl,e⟩
theorem mI (i:Int) (t:Tok):fz (.inl i) (.int i t)=true:=by simp [fz,Value.isInt]
theorem mJ (x:Str) (t:Tok):fz (.inr x) (.str x t)=true:=by simp [fz,Value.isStrOf]
theorem p6 (a b:Int):decide ((Sum.inl a:Key)=Sum.inl b)=(a == b):=by
 by_cases e:a=b
 ·subst e;simp
 ·have h:¬ (Sum.inl a:Key)=Sum.inl b:=fun q=>e (Sum.inl.inj q)
  rw [decide_eq_false h]
  exact (beq_eq_false_iff_ne.mpr e).symm
theorem p7 (a b:Str):decide ((Sum.inr a:Key)=Sum.inr b)=decide (a=b):=by
 by_cases e:a=b
 ·subst e;simp
 ·have h:¬ (Sum.inr a:Key)=Sum.inr b:=fun q=>e (Sum.inr.inj q)
  rw [decide_eq_false h,decide_eq_false e]
theorem p8 (a:Int) (b:Str):decide ((Sum.inl a:Key)=Sum.inr b)=false:=decide_eq_false (fun q=>nomatch q)
theorem p9 (a:Str) (b:Int):decide ((Sum.inr a:Key)=Sum.inl b)=false:=decide_eq_false (fun q=>nomatch q)
def aJ (prog:Program) (w:World):PySem.KeyKind prog w Key where
 is:=fz
 hash:=sE w
 inj:=fun v a b ha hb=>by
  rcases bE ha with ⟨i,t,rfl,rfl⟩ | ⟨x,t,rfl,rfl⟩
  ·rcases bE hb with ⟨j,u,rfl,e⟩ | ⟨y,u,rfl,e⟩
   ·injection e with e1 _;rw [e1]
   ·exact nomatch e
  ·rcases bE hb with ⟨j,u,rfl,e⟩ | ⟨y,u,rfl,e⟩
   ·exact nomatch e
   ·injection e with e1 _;rw [e1]
 byValue:=fun k v h=>by
  rcases bE h with ⟨i,t,rfl,rfl⟩ | ⟨x,t,rfl,rfl⟩ <;> rfl
 pyHash:=fun hv h=>by
  rcases bE hv with ⟨i,t,rfl,rfl⟩ | ⟨x,t,rfl,rfl⟩
  ·exact wpAny_pyHash_int h
  ·exact wpAny_pyHash_str h
 eqBool:=fun hu hv h=>by
  rcases bE hu with ⟨i,t,rfl,rfl⟩ | ⟨x,t,rfl,rfl⟩
  ·rcases bE hv with ⟨j,u,rfl,rfl⟩ | ⟨y,u,rfl,rfl⟩
   ·rw [p6] at h;exact wpAny_eqBool_int h
   ·rw [p8] at h;exact SeqAt.EqAt.int_str i t y u _ _ _ _ h
  ·rcases bE hv with ⟨j,u,rfl,rfl⟩ | ⟨y,u,rfl,rfl⟩
   ·rw [p9] at h;exact SeqAt.EqAt.str_int x t j u _ _ _ _ h
   ·rw [p7] at h;exact wpAny_eqBool_str h
 «strs»:=fun k x t v h=>by
  rcases bE h with ⟨i,u,rfl,e⟩ | ⟨y,u,rfl,e⟩
  ·exact nomatch e
  ·injection e with e1 _
   subst e1
   cases v <;> rfl
theorem kQ (prog:Program) (w:World) (i:Int) (t:Tok):(aJ prog w).is (.inl i) (.int i t)=true:=mI i t
theorem kR (prog:Program) (w:World) (x:Str) (t:Tok):(aJ prog w).is (.inr x) (.str x t)=true:=mJ x t
inductive V where
 | aY | bl (b:Bool) | int (i:Int) | str (x:Str) | fA (b:Array UInt8) | oE (b:UInt64) | ref (a:Addr) | ty (n:String)
 deriving DecidableEq
def RelV:V->Value->Prop
 | .aY,u=>u=Value.none
 | .bl b,u=>u=Value.bool b
 | .int i,u=>∃ t,u=Value.int i t
 | .str x,u=>∃ t,u=Value.str x t
 | .fA b,u=>∃ t,u=Value.bytes b t
 | .oE b,u=>∃ t,u=Value.float b t
 | .ref a,u=>u=Value.ref a
 | .ty n,u=>u=Value.type n
abbrev Vals:List V->List Value->Prop:=Paired RelV
theorem Vals.length {xs:List V} {us:List Value} (r:Vals xs us):xs.length=us.length:=Paired.length r
theorem Vals.get:∀ {xs:List V} {us:List Value} {i:Nat} {x:V},Vals xs us->xs[i]? = some x->∃ u,us[i]? = some u/\RelV x u
 | _,_,_,_,.nil,e=>by simp at e
 | _,_,0,_,.cons r _,e=>by simp at e;subst e;exact⟨_,rfl,r⟩
 | _,_,i+1,x,.cons _ t,e=>by
  obtain⟨u,h1,h2⟩:=Vals.get (i:=i) (x:=x) t (by simpa using e)
  exact⟨u,by simpa using h1,h2⟩
theorem Vals.set {x:V} {u:Value} (r:RelV x u):∀ {xs:List V} {us:List Value} (i:Nat),Vals xs us->Vals (xs.set i x) (us.set i u)
 | _,_,_,.nil=>.nil
 | _,_,0,.cons _ t=>.cons r t
 | _,_,i+1,.cons q t=>.cons q (Vals.set r i t)
theorem Vals.append:∀ {xs ys:List V} {us ws:List Value},Vals xs us->Vals ys ws->Vals (xs++ys) (us++ws)
 | _,_,_,_,.nil,s=>s
 | _,_,_,_,.cons r t,s=>.cons r (Vals.append t s)
theorem Vals.take:∀ {xs:List V} {us:List Value} (n:Nat),Vals xs us->Vals (xs.take n) (us.take n)
 | _,_,0,_=>.nil
 | _,_,_+1,.nil=>.nil
 | _,_,n+1,.cons r t=>.cons r (Vals.take n t)
theorem Vals.drop:∀ {xs:List V} {us:List Value} (n:Nat),Vals xs us->Vals (xs.drop n) (us.drop n)
 | _,_,0,r=>r
 | _,_,_+1,.nil=>.nil
 | _,_,n+1,.cons _ t=>Vals.drop n t
def gI:Option V->Option Value->Prop
 | some v,some u=>RelV v u
 | none,none=>True
 | _,_=>False
def KV {κ : Type}:List (κ × V)->List (κ × Value)->Prop:=Paired fun (p:κ × V) (q:κ × Value)=>p.1=q.1/\RelV p.2 q.2
def kV:Key->V
 | .inl i=>.int i
 | .inr x=>.str x
inductive HO where
 | lst (xs:List V)
 | tup (xs:List V)
 | dK (kvs:List (Key × V)) | dT (kvs:List (List Key × V))
 | set (S:Int->Bool) (n:Nat)
 | ins (C dx:Addr) (fs:List (Str × V))
 | own (x:Addr)
 | xd (fs:List (Str × V))
 | met (f x:Addr)
 | qc (lo hi:Int)
 | cO (o:Obj) (u:HO)
 | gJ (ps:Array Value)
 | ext (φ : Heap->Prop)
abbrev Hp:=Addr->Option HO
def upd (H:Hp) (a:Addr) (o:HO):Hp:=fun b=>if b=a then some o else H b
theorem aa {H:Hp} {a:Addr} {o:HO}:upd H a o a=some o:=by unfold upd;rw [if_pos rfl]
theorem ae {H:Hp} {a b:Addr} {o:HO} (h:b ≠ a):upd H a o b=H b:=by unfold upd;rw [if_neg h]
theorem bF {H:Hp} {a b:Addr} {o u:HO} (h:H a=some o) (h':H b=some u) (d:o ≠ u):a ≠ b:=by
 intro e;subst e;rw [h] at h';exact d (Option.some.inj h')
theorem aG {H:Hp} {a b:Addr} {o:HO} (h:H a=some o) (h':H b=none):a ≠ b:=by
 intro e;subst e;rw [h] at h';cases h'
section
variable (P:Program) (w:World)
def bh (H:Hp) (h:Heap) (a:Addr):HO->Prop
 | .lst xs=>xs.length<=sizeLine/\∃ (its:List Value) (n:Nat),Vals xs its/\h.get? a=some { cls:=.type "list",data:=.seq its.toArray n }
 | .tup xs=>xs.length<=sizeLine/\∃ its:List Value,Vals xs its/\∃ o,h.get? a=some o/\o.cls=.type "tuple" /\ ∃ n,o.data=.seq its.toArray n/\o.dict=none
 | .dK kvs=>kvs.length<=sizeLine/\(a == sysModules)=false/\∃ vs,KV kvs vs/\h.DictOf (aJ P w) a vs
 | .dT kvs=>kvs.length<=sizeLine/\(a == sysModules)=false/\∃ xs:List (List Key × Addr × Value),
   Paired (fun (p:List Key × V) (q:List Key × Addr × Value)=>p.1=q.1/\H q.2.1=some (.tup (p.1.map kV))/\RelV p.2 q.2.2) kvs xs /\
   ∃ o es ep,h.get? a=some o/\o.ExactDict/\o.data=.dict es ep/\es.toList=xs.map (entryOfKey (tupleKind (aJ P w)))/\(xs.map (·.1)).Nodup
 | .set S n=>h.SetOf (intKind P w) a S n
 | .ins C dx fs=>H dx=some (.own a)/\fs.length<=1000/\dx ≠ a/\h.get? a=some (PySem.W.instObj C dx) /\
   ∃ mA,h.Ns1 dx mA/\(∀ f,gI (fs.lookup f) (mA f))/\PySem.Within mA (fs.map (·.1))
 | .own _=>∃ o,h.get? a=some o
 | .xd fs=>∃ mA,h.Ns1 a mA/\∀ f,gI (fs.lookup f) (mA f)
 | .qc lo hi=>∃ t u v,h.get? a=some { cls:=.type "range",data:=.fields #[.int lo t,.int hi u,.int 1 v] }
 | .cO o u=>h.get? a=some o/\bh H h a u
 | .gJ ps=>h.get? a=some { cls:=.none,data:=.fields ps }
 | .met f x=>h.get? a=some (PySem.W.methodObj (.ref f) (.ref x))
 | .ext φ=>φ h/\(∃ o,h.get? a=some o)/\∀ h1 h2:Heap,φ h1->(∀ o,h1.get? a=some o->h2.get? a=some o)->φ h2
def cc (H:Hp) (h:Heap):Prop:=∀ a o,H a=some o->bh P w H h a o
end
section
variable {P:Program} {w:World} {H H':Hp} {h h':Heap} {a:Addr} {o:HO}
theorem bh.lt (x:bh P w H h a o):a < h.objs.size:=by
 cases o with
 | lst xs=>obtain⟨_,_,_,_,e⟩:=x;exact Heap.lt_size e
 | tup xs=>obtain⟨_,_,_,p⟩:=x;exact (let ⟨o,e,_⟩:=p;Heap.lt_size e)
 | dK kvs=>obtain⟨_,_,_,_,o,_,_,e,_⟩:=x;exact Heap.lt_size e
 | dT kvs=>obtain⟨_,_,_,_,o,_,_,e,_⟩:=x;exact Heap.lt_size e
 | set S n=>obtain⟨o,_,_,_,e,_⟩:=x;exact Heap.lt_size e
 | ins C dx fs=>obtain⟨_,_,_,e,_⟩:=x;exact Heap.lt_size e
 | own y=>obtain⟨_,e⟩:=x;exact Heap.lt_size e
 | xd fs=>obtain⟨_,⟨_,_,_,e,_⟩,_⟩:=x;exact Heap.lt_size e
 | qc lo hi=>obtain⟨_,_,_,e⟩:=x;exact Heap.lt_size e
 | cO ob u=>obtain⟨e,_⟩:=x;exact Heap.lt_size e
 | gJ ps=>exact Heap.lt_size (show h.get? a=some _ from x)
 | met f y=>exact Heap.lt_size (show h.get? a=some _ from x)
 | ext φ=>obtain⟨_,⟨_,e⟩,_⟩:=x;exact Heap.lt_size e
theorem Paired.nA {α β : Type} {F G:α->β->Prop}:∀ {l₁ : List α} {l₂ : List β},Paired F l₁ l₂->(∀ a b,F a b->G a b)->Paired G l₁ l₂
 | _,_,.nil,_=>.nil
 | _,_,.cons r t,f=>.cons (f _ _ r) (Paired.nA t f)
theorem bh.iw (x:bh P w H h a o) (k:∀ b u,(b=a\/H b=some (.own a))->h.get? b=some u->h'.get? b=some u)
  (ho:∀ b,H b=some (.own a)->H' b=some (.own a)) (ht:∀ b xs,H b=some (.tup xs)->H' b=some (.tup xs)):bh P w H' h' a o:=by
 induction o with
 | lst xs=>obtain⟨z,its,n,r,e⟩:=x;exact⟨z,its,n,r,k _ _ (.inl rfl) e⟩
 | tup xs=>obtain⟨z,its,r,ob,e,c⟩:=x;exact⟨z,its,r,ob,k _ _ (.inl rfl) e,c⟩
 | dK kvs=>obtain⟨z,y,vs,r,ob,es,ep,e,c⟩:=x;exact⟨z,y,vs,r,ob,es,ep,k _ _ (.inl rfl) e,c⟩
 | dT kvs =>
  obtain⟨z,y,xs,r,ob,es,ep,e,c⟩:=x
  exact⟨z,y,xs,Paired.nA r fun p q z=>⟨z.1,ht _ _ z.2.1,z.2.2⟩,ob,es,ep,k _ _ (.inl rfl) e,c⟩
 | set S n=>obtain⟨ob,es,ep,t,e,c⟩:=x;exact⟨ob,es,ep,t,k _ _ (.inl rfl) e,c⟩
 | ins C dx fs =>
  obtain⟨d,z,ne,e,mA,⟨od,es,ep,e2,c⟩,r⟩:=x
  exact⟨ho _ d,z,ne,k _ _ (.inl rfl) e,mA,⟨od,es,ep,k _ _ (.inr d) e2,c⟩,r⟩
 | own y=>obtain⟨ob,e⟩:=x;exact⟨ob,k _ _ (.inl rfl) e⟩
 | xd fs=>obtain⟨mA,⟨od,es,ep,e,c⟩,r⟩:=x;exact⟨mA,⟨od,es,ep,k _ _ (.inl rfl) e,c⟩,r⟩
 | qc lo hi=>obtain⟨t,u,v,e⟩:=x;exact⟨t,u,v,k _ _ (.inl rfl) e⟩
 | cO ob u ih=>obtain⟨e,q⟩:=x;exact⟨k _ _ (.inl rfl) e,ih q⟩
 | gJ ps =>
  have e:h.get? a=some { cls:=.none,data:=.fields ps }:=x
  show h'.get? a=some { cls:=.none,data:=.fields ps }
  exact k a _ (.inl rfl) e
 | met f y =>
  have e:h.get? a=some (PySem.W.methodObj (.ref f) (.ref y)):=x
  show h'.get? a=some (PySem.W.methodObj (.ref f) (.ref y))
  exact k a _ (.inl rfl) e
 | ext φ=>obtain⟨p,⟨o,e⟩,st⟩:=x;exact⟨st _ _ p fun o q=>k _ _ (.inl rfl) q,⟨o,k _ _ (.inl rfl) e⟩,st⟩
theorem cc.lt (x:cc P w H h) (e:H a=some o):a < h.objs.size:=(x a o e).lt
theorem cc.fresh (x:cc P w H h) (e:h.objs.size<=a):H a=none:=by
 cases q:H a with
 | none=>rfl
 | some u=>exact absurd (Nat.lt_of_lt_of_le (x.lt q) e) (Nat.lt_irrefl _)
theorem cc.kept (x:cc P w H h) (k:∀ b u,h.get? b=some u->h'.get? b=some u):cc P w H h':=fun a o e =>
 (x a o e).iw (fun b u _ q=>k b u q) (fun _ q=>q) fun _ _ q=>q
theorem cc.laid (x:cc P w H h) (k:∀ b u,h.get? b=some u->h'.get? b=some u) (hp:h.objs.size<=a) (new:bh P w (upd H a o) h' a o):cc P w (upd H a o) h':=fun b u e=>by
 have hn:=x.fresh hp
 by_cases hb:b=a
 ·subst hb;rw [aa] at e;cases e;exact new
 ·rw [ae hb] at e
  exact (x b u e).iw (fun c v _ q=>k c v q) (fun c q=>by rw [ae (aG q hn)];exact q) fun c xs q=>by rw [ae (aG q hn)];exact q
end
def Rd (H:Hp) (a:Addr) (u:HO):Prop:=H a=some u\/∃ o,H a=some (.cO o u)
theorem Rd.ok {P:Program} {w:World} {H:Hp} {h:Heap} {a:Addr} {u:HO} (r:Rd H a u) (x:cc P w H h):bh P w H h a u:=by
 rcases r with r | ⟨o,r⟩
 ·exact x a u r
 ·obtain⟨_,q⟩:=x a _ r
  exact q
def mK:Option HO->Prop
 | some (.lst _)=>True
 | some (.dK _)=>True
 | some (.dT _)=>True
 | some (.set _ _)=>True
 | some (.ins _ _ _)=>True
 | some (.ext _)=>True
 | _=>False
section
variable {P:Program} {w:World} {H:Hp} {h h':Heap} {x e:Addr} {o':HO}
theorem cc.write (ok:cc P w H h) (mu:mK (H x)) (he:e=x\/H e=some (.own x)) (k:∀ b u,b ≠ e->h.get? b=some u->h'.get? b=some u) (heo:∃ u,h'.get? e=some u)
  (new:bh P w (upd H x o') h' x o'):cc P w (upd H x o') h':=fun b u q=>by
 have nown:∀ c y,H c=some (.own y)->c ≠ x:=fun c y r z=>by subst z;rw [r] at mu;exact mu
 have ntup:∀ c xs,H c=some (.tup xs)->c ≠ x:=fun c xs r z=>by subst z;rw [r] at mu;exact mu
 by_cases hb:b=x
 ·subst hb;rw [aa] at q;cases q;exact new
 ·rw [ae hb] at q
  by_cases hbe:b=e
  ·have q':H b=some (.own x):=by
    rcases he with z | z
    ·exact absurd (hbe.trans z) hb
    ·rw [hbe];exact z
   rw [q] at q';cases q'
   obtain⟨v,hv⟩:=heo
   exact⟨v,by rw [hbe];exact hv⟩
  ·refine (ok b u q).iw (fun c v hc r=>k c v ?_ r) (fun c r=>by rw [ae (nown c b r)];exact r) fun c xs r=>by rw [ae (ntup c xs r)];exact r
   rcases hc with rfl | hc
   ·exact hbe
   ·rintro rfl
    rcases he with z | z
    ·exact nown c b hc z
    ·rw [hc] at z;cases z;exact hb rfl
end
structure Un (fs ex:List Addr) (H H':Hp) (h h':Heap):Prop where
 keep:∀ b o,h.get? b=some o->H b=none->b ∉ fs->b ∉ ex->h'.get? b=some o
 slot:∀ b o,h.get? b=some o->H b=none->b ∈ fs->b ∉ ex->∃ sl,h'.get? b=some { o with slots:=sl }
 free:∀ b o,h.get? b=some o->H b=none->b ∉ ex->H' b=none
 there:∀ b o,h.get? b=some o->b ∉ ex->∃ o',h'.get? b=some o'
 bO:∀ b xs,H b=some (.tup xs)->H' b=some (.tup xs)
 eR:∀ b o u,H b=some (.cO o u)->H' b=some (.cO o u)
 e7:∀ b ps,H b=some (.gJ ps)->∃ more,H' b=some (.gJ (ps++more))
section
variable {fs fs' ex ex':List Addr} {H H1 H2:Hp} {h h1 h2 h':Heap} {a x e:Addr} {o:HO}
theorem Un.any (u:Un fs ex H H1 h h1) {b:Addr} {ob:Obj} (q:h.get? b=some ob) (n:H b=none) (hx:b ∉ ex):∃ sl,h1.get? b=some { ob with slots:=sl }:=by
 by_cases hb:b ∈ fs
 ·exact u.slot b ob q n hb hx
 ·exact⟨ob.slots,u.keep b ob q n hb hx⟩
theorem Un.kept (k:∀ b u,h.get? b=some u->h'.get? b=some u):Un fs ex H H h h' :=
 ⟨fun b ob q _ _ _=>k b ob q,fun b ob q _ _ _=>⟨ob.slots,k b ob q⟩,fun _ _ _ n _=>n,fun b ob q _=>⟨ob,k b ob q⟩,fun _ _ q=>q,fun _ _ _ q=>q,fun _ ps q=>⟨#[],by rw [q];simp⟩⟩
theorem Un.refl:Un fs ex H H h h:=Un.kept fun _ _ q=>q
theorem Un.laid (k:∀ b u,h.get? b=some u->h'.get? b=some u) (hp:h.objs.size<=a) (hn:H a=none):Un fs ex H (upd H a o) h h' where
 keep:=fun b u q _ _ _=>k b u q
 slot:=fun b u q _ _ _=>⟨u.slots,k b u q⟩
 free:=fun b u q n _=>by rw [ae (Nat.ne_of_lt (Nat.lt_of_lt_of_le (Heap.lt_size q) hp))];exact n
 there:=fun b u q _=>⟨u,k b u q⟩
 bO:=fun b xs q=>by rw [ae (aG q hn)];exact q
 eR:=fun b u xs q=>by rw [ae (aG q hn)];exact q
 e7:=fun b ps q=>⟨#[],by rw [ae (aG q hn),q];simp⟩
theorem Un.write (mu:mK (H x)) (he:e=x\/H e=some (.own x)) (k:∀ b u,b ≠ e->h.get? b=some u->h'.get? b=some u) (heo:∃ u,h'.get? e=some u):Un fs ex H (upd H x o) h h':=by
  have hx:∀ b,H b=none->b ≠ x:=fun b n z=>by subst z;rw [n] at mu;exact mu
  have hb:∀ b,H b=none->b ≠ e:=fun b n z=>by
    subst z
    rcases he with r | r
    · exact hx b n r
    · rw [n] at r;cases r
  have hm:∀ b u,H b=some u->¬ mK (some u)->b ≠ x:=fun b u q nm z=>by subst z;rw [q] at mu;exact nm mu
  refine⟨fun b u q n _ _=>k b u (hb b n) q,fun b u q n _ _=>⟨u.slots,k b u (hb b n) q⟩,fun b u q n _=>by rw [ae (hx b n)];exact n,fun b u q _=>?_,
    fun b xs q=>by rw [ae (hm b _ q fun z=>z)];exact q,fun b u xs q=>by rw [ae (hm b _ q fun z=>z)];exact q,fun b ps q=>⟨#[],by rw [ae (hm b _ q fun z=>z),q];simp⟩⟩
  by_cases hbe:b=e
  · subst hbe;exact heo
  · exact⟨u,k b u hbe q⟩
end
def oF (h:Heap) (H:Hp):List Addr:=(List.range h.objs.size).filter fun a=>(H a).isSome
def gc (h:Heap) (H:Hp):Heap:=PySem.W.hideAll h (oF h H)
theorem mL (h:Heap) (H:Hp):(gc h H).objs.size=h.objs.size:=PySem.W.hideAll_size _ _
theorem nB {h:Heap} {H:Hp} {b:Addr} {o:Obj} (e:h.get? b=some o) (n:H b=none):(gc h H).get? b=some o :=
 PySem.W.hideAll_get _ e fun hm=>by
  have q:(H b).isSome=true:=(List.mem_filter.mp hm).2
  rw [n] at q;simp at q
theorem o3 {h:Heap} {H:Hp} {b:Addr} {o:Obj} (e:(gc h H).get? b=some o):h.get? b=some o/\H b=none:=by
 have e':h.get? b=some o:=PySem.W.of_hideAll (oF h H) e
 refine⟨e',?_⟩
 cases q:H b with
 | none=>rfl
 | some x =>
  have hm:b ∈ oF h H:=List.mem_filter.mpr ⟨List.mem_range.mpr (Heap.lt_size e'),by simp [q]⟩
  have z:(gc h H).get? b=none:=PySem.W.hideAll_none (oF h H) hm
  rw [z] at e;cases e
def o4 (g h:Heap) (L:Addr):List (Addr × Obj):=(List.range h.objs.size).filterMap fun a=>if a=L\/(g.get? a).isSome=true then none else (h.get? a).map fun o=>(a,o)
def rest (g h:Heap) (L d:Addr):List (Addr × Obj):=(o4 g h L).filter fun p=>decide (p.1 ≠ d)
structure Mod (K:PySem.W.Frag) (mg:Str->Option Value) (base:Heap):Prop where
 qd:K.In base
 glob:base.Ns mainGlobals mg
 blt:∃ mb,base.Ns builtinsNs mb/\∀ x:Str,x ≠ "__name__" -> mb x=bootBuiltins x
 nolimit:base.NoLimit
structure Cx where
 prog:Program
 w:World
 K:PySem.W.Frag
 mg:Str->Option Value
 base:Heap
 A:Around
 N:List Str
 bU:Shared
 gd:Hp
 env:Env
 outer:List Env
 stack:List Env
 ex:List Addr
 fn:Str->Bool
 calm:Bool
 pn:List (Addr × Obj)
 xe:Value->Shared->Prop
def gK (l:List Env):List Addr:=l.filterMap (·.frame)
abbrev Cx.fs (X:Cx):List Addr:=gK X.outer
def qe (sc:Scope) (x:Str):Prop:=sc.names.lookup x=some .local\/sc.names.lookup x=some .cell\/sc.names.lookup x=some .free
def Loc (sc:Scope) (x:Str):Prop:=sc.names.lookup x=some .local\/sc.names.lookup x=some .cell
def Look (env:Env) (h:Heap) (m:Str->Option Value) (x:Str) (u:Value):Prop :=
 (env.kindOf x=some .local/\m x=some u)\/((env.kindOf x=some .cell\/env.kindOf x=some .free)/\∃ c,env.cells.lookup x=some c/\h.IsCell c (some u))
structure Cx.Ok (X:Cx):Prop where
 mod:Mod X.K X.mg X.base
 kind:X.env.scope.kind=.function
 glob:X.env.globals=mainGlobals
 blt:X.env.builtins=builtinsNs
 above:X.bU.heap.objs.size<=X.env.locals
 inj:∀ x y c,X.env.cells.lookup x=some c->X.env.cells.lookup y=some c->x=y
 has:∀ x,(X.env.kindOf x=some .cell\/X.env.kindOf x=some .free)->∃ c,X.env.cells.lookup x=some c
 mM:∀ x c,X.fn x=true->X.env.cells.lookup x=some c->X.bU.heap.objs.size<=c
 hd:X.calm=true->X.A.handled=none
 frames:X.A.frames=some X.stack
 oG:X.stack=X.outer\/(X.stack=X.env :: X.outer/\X.env.frame=some X.env.locals)
 sk:∀ b ∈ X.ex,b ≠ X.env.locals/\∀ x c,X.env.cells.lookup x=some c->c ≠ b
 bs:∀ b o,X.base.get? b=some o->X.bU.heap.get? b=some o/\X.gd b=none
 jt:X.base.objs.size<=X.bU.heap.objs.size
 jV:∀ b o,X.base.get? b=some o->b ∉ X.ex
 lU:∀ b ∈ X.ex,b ∉ X.fs
 fb:X.bU.heap.FunFrames X.base X.outer
 lj:∀ b ∈ X.fs,X.gd b=none
structure Inv (X:Cx) (pins:List (Addr × Obj)) (σ : List (Option V)) (H:Hp) (s:Shared):Prop where
 ok:X.Ok
 os:s.os=X.bU.os
 bare:AllBare s.gens
 base:Un X.fs X.ex X.gd H X.bU.heap s.heap
 loc:∃ m,s.heap.Ns X.env.locals m/\∀ (i:Nat) (x:Str) (v:V),X.N[i]? = some x->σ[i]? = some (some v)->qe X.env.scope x->∃ u,RelV v u/\Look X.env s.heap m x u
 cell:∀ x c,X.env.cells.lookup x=some c->∃ v,s.heap.IsCell c v
 free:H X.env.locals=none
 cK:∀ x c,X.env.cells.lookup x=some c->H c=none
 pin:∀ p ∈ X.pn++pins,s.heap.get? p.1=some p.2/\H p.1=none/\p.1 ≠ X.env.locals/\p.1 ∉ X.fs/\∀ v,p.2.data ≠ .cell v
 av:cc X.prog X.w H s.heap
 len:σ.length=X.N.length
section
variable {X:Cx} {pins:List (Addr × Obj)} {σ : List (Option V)} {H H':Hp} {s:Shared} {h':Heap}
theorem Cx.Ok.sF (ok:X.Ok) {b:Addr} {o:Obj} (e:X.base.get? b=some o):b ∉ X.fs:=fun hb=>by
 have:=(ok.fb.mem hb).1
 rw [e] at this;cases this
theorem Inv.bs (I:Inv X pins σ H s):∀ b o,X.base.get? b=some o->s.heap.get? b=some o/\H b=none:=fun b o e =>
 ⟨I.base.keep b o (I.ok.bs b o e).1 (I.ok.bs b o e).2 (I.ok.sF e) (I.ok.jV b o e),I.base.free b o (I.ok.bs b o e).1 (I.ok.bs b o e).2 (I.ok.jV b o e)⟩
theorem Inv.bk (I:Inv X pins σ H s):∀ b o,X.base.get? b=some o->s.heap.get? b=some o:=fun b o e=>(I.bs b o e).1
theorem Inv.mod (I:Inv X pins σ H s):Mod X.K X.mg X.base:=I.ok.mod
theorem Inv.jW (I:Inv X pins σ H s):X.K.In s.heap:=I.ok.mod.qd.keeps I.bk
theorem Inv.lt (I:Inv X pins σ H s):X.env.locals < s.heap.objs.size:=let ⟨_,hn,_⟩:=I.loc;hn.lt
theorem Inv.sz (I:Inv X pins σ H s):X.bU.heap.objs.size<=s.heap.objs.size:=Nat.le_trans I.ok.above (Nat.le_of_lt I.lt)
theorem Inv.sG (I:Inv X pins σ H s) {a:Addr} (h:s.heap.objs.size<=a):a ∉ X.fs:=fun hb=>by
 obtain⟨_,o,ho,_⟩:=I.ok.fb.mem hb
 exact absurd (Nat.lt_of_lt_of_le (Heap.lt_size ho) (Nat.le_trans I.sz h)) (Nat.lt_irrefl _)
theorem Inv.jX (I:Inv X pins σ H s):∀ x c,X.env.cells.lookup x=some c->c ≠ X.env.locals:=fun x c e z=>by
 obtain⟨v,o,ho,hd⟩:=I.cell x c e
 obtain⟨m,⟨o',es,ep,ho',hd',_⟩,_⟩:=I.loc
 rw [z,ho'] at ho;cases ho;rw [hd'] at hd;cases hd
theorem Inv.fb (I:Inv X pins σ H s):s.heap.FunFrames X.base X.outer:=by
 have all:∀ (l:List Env),(∀ b ∈ gK l,b ∈ X.fs)->X.bU.heap.FunFrames X.base l->s.heap.FunFrames X.base l:=by
  intro l
  induction l with
  | nil=>intro _ _;trivial
  | cons env r ih =>
   intro hs hl
   obtain⟨hk,⟨L,o,hf,hn,ho,hd⟩,hr⟩:=hl
   have hL:L ∈ X.fs:=hs L (by unfold gK;rw [List.filterMap_cons,hf];exact List.mem_cons_self)
   obtain⟨sl,e⟩:=I.base.slot L o ho (I.ok.lj L hL) hL fun z=>I.ok.lU L z hL
   exact⟨hk,⟨L,_,hf,hn,e,hd⟩,ih (fun b hb=>hs b (by unfold gK;rw [List.filterMap_cons,hf];exact List.mem_cons_of_mem _ hb)) hr⟩
 exact all X.outer (fun _ hb=>hb) I.ok.fb
theorem Inv.stack (I:Inv X pins σ H s):s.heap.FunFrames X.base X.stack:=by
 rcases I.ok.oG with e | ⟨e,hf⟩
 ·rw [e];exact I.fb
 ·rw [e]
  obtain⟨m,hn,_⟩:=I.loc
  refine .cons (by rw [I.ok.kind];decide) hf hn ?_ I.fb
  exact Heap.get?_none_of_le (Nat.le_trans I.ok.jt I.ok.above)
theorem Inv.fP (I:Inv X pins σ H s):∀ b ∈ gK X.stack,b ∈ X.env.locals :: X.fs:=fun b hb=>by
 rcases I.ok.oG with e | ⟨e,hf⟩
 ·rw [e] at hb;exact List.mem_cons_of_mem _ hb
 ·rw [e] at hb
  unfold gK at hb
  rw [List.filterMap_cons,hf] at hb
  exact hb
theorem Inv.ll (I:Inv X pins σ H s):∀ b ∈ gK X.stack,H b=none:=fun b hb=>by
 rcases List.mem_cons.mp (I.fP b hb) with e | hb
 ·rw [e];exact I.free
 ·obtain⟨_,o,ho,_⟩:=I.ok.fb.mem hb
  exact I.base.free b o ho (I.ok.lj b hb) fun z=>I.ok.lU b z hb
theorem Inv.step {g':Array GenState} {t':Nat} {d':Drawn} {ch:List Addr} (I:Inv X pins σ H s)
  (hch:∀ b ∈ ch,(b ∈ X.ex\/X.bU.heap.objs.size<=b)/\b ≠ X.env.locals/\(∀ x c,X.env.cells.lookup x=some c->c ≠ b)/\∀ p ∈ X.pn++pins,p.1 ≠ b)
  (keep:∀ b o,b ≠ X.env.locals->b ∉ X.fs->b ∉ ch->s.heap.get? b=some o->H b=none->h'.get? b=some o)
  (slot:∀ b o,b ≠ X.env.locals->b ∈ X.fs->b ∉ ch->s.heap.get? b=some o->H b=none->∃ sl,h'.get? b=some { o with slots:=sl }) (free:∀ b o,b ∉ ch->s.heap.get? b=some o->H b=none->H' b=none)
  (there:∀ b o,b ∉ ch->s.heap.get? b=some o->∃ o',h'.get? b=some o')
  (bO:∀ b xs,H b=some (.tup xs)->H' b=some (.tup xs)) (eR:∀ b o u,H b=some (.cO o u)->H' b=some (.cO o u)) (e7:∀ b ps,H b=some (.gJ ps)->∃ more,H' b=some (.gJ (ps++more)))
  (ns:∀ m,s.heap.Ns X.env.locals m->h'.Ns X.env.locals m) (av:cc X.prog X.w H' h') (hg:AllBare g') :
  Inv X pins σ H' { s with heap:=h',gens:=g',drawn:=d',toks:=t' }:=by
 have neL:∀ b o,X.bU.heap.get? b=some o->b ≠ X.env.locals:=fun b o e=>Nat.ne_of_lt (Nat.lt_of_lt_of_le (Heap.lt_size e) I.ok.above)
 have neC:∀ b o,X.bU.heap.get? b=some o->b ∉ X.ex->b ∉ ch:=fun b o e hx hb=>by
  rcases (hch b hb).1 with z | z
  ·exact hx z
  ·exact absurd (Nat.lt_of_lt_of_le (Heap.lt_size e) z) (Nat.lt_irrefl _)
 have cellK:∀ x c,X.env.cells.lookup x=some c->∀ v,s.heap.IsCell c v->h'.IsCell c v:=fun x c e v ⟨o,ho,hd⟩=>by
  have nch:c ∉ ch:=fun z=>(hch c z).2.2.1 x c e rfl
  by_cases hc:c ∈ X.fs
  ·obtain⟨sl,q⟩:=slot c o (I.jX x c e) hc nch ho (I.cK x c e)
   exact⟨_,q,hd⟩
  ·exact⟨o,keep c o (I.jX x c e) hc nch ho (I.cK x c e),hd⟩
 refine⟨I.ok,I.os,hg,⟨fun b o e n hb hx=>?_,fun b o e n hb hx=>?_,fun b o e n hx=>?_,fun b o e hx=>?_,fun b xs e=>bO b xs (I.base.bO b xs e),fun b o xs e=>eR b o xs (I.base.eR b o xs e),fun b ps e=>?_⟩,?_,fun x c e=>?_,?_,fun x c e=>?_,fun p hp=>?_,av,I.len⟩
 ·exact keep b o (neL b o e) hb (neC b o e hx) (I.base.keep b o e n hb hx) (I.base.free b o e n hx)
 ·obtain⟨sl,e1⟩:=I.base.slot b o e n hb hx
  obtain⟨sl',e2⟩:=slot b _ (neL b o e) hb (neC b o e hx) e1 (I.base.free b o e n hx)
  exact⟨sl',e2⟩
 ·obtain⟨o',e1⟩:=I.base.there b o e hx
  exact free b o' (neC b o e hx) e1 (I.base.free b o e n hx)
 ·obtain⟨o',e1⟩:=I.base.there b o e hx
  exact there b o' (neC b o e hx) e1
 ·obtain⟨m1,e1⟩:=I.base.e7 b ps e
  obtain⟨m2,e2⟩:=e7 b _ e1
  exact⟨m1++m2,by rw [e2,Array.append_assoc]⟩
 ·obtain⟨m,hn,hl⟩:=I.loc
  refine⟨m,ns m hn,fun i x v e1 e2 e3=>?_⟩
  obtain⟨u,r,l⟩:=hl i x v e1 e2 e3
  refine⟨u,r,?_⟩
  rcases l with l | ⟨k,c,e,z⟩
  ·exact .inl l
  ·exact .inr ⟨k,c,e,cellK x c e _ z⟩
 ·obtain⟨v,z⟩:=I.cell x c e
  exact⟨v,cellK x c e v z⟩
 ·obtain⟨m,⟨o,_,_,ho,_⟩,_⟩:=I.loc
  exact free _ o (fun z=>(hch _ z).2.1 rfl) ho I.free
 ·obtain⟨v,o,ho,hd⟩:=I.cell x c e
  exact free c o (fun z=>(hch c z).2.2.1 x c e rfl) ho (I.cK x c e)
 ·obtain⟨e,n,ne,nf,d⟩:=I.pin p hp
  have nch:p.1 ∉ ch:=fun z=>(hch p.1 z).2.2.2 p hp rfl
  exact⟨keep p.1 p.2 ne nf nch e n,free p.1 p.2 nch e n,ne,nf,d⟩
theorem Inv.un {t':Nat} (I:Inv X pins σ H s) (u:Un X.fs [] H H' s.heap h') (av:cc X.prog X.w H' h'):Inv X pins σ H' { s with heap:=h',toks:=t' }:=by
  obtain⟨m,⟨o,es,ep,ho,r⟩,_⟩:=id I.loc
  obtain⟨sl,hL⟩:=u.any ho I.free (by simp)
  exact I.step (g':=s.gens) (d':=s.drawn) (ch:=[]) (fun _ z=>nomatch z) (fun b o _ hb _ e n=>u.keep b o e n hb (by simp)) (fun b o _ hb _ e n=>u.slot b o e n hb (by simp)) (fun b o _ e n=>u.free b o e n (by simp)) (fun b o _ e=>u.there b o e (by simp)) u.bO u.eR u.e7 (fun m' hm=>by
    obtain⟨o',es',ep',ho',r'⟩:=hm
    rw [ho] at ho';cases ho'
    exact⟨_,es',ep',hL,r'⟩) av I.bare
theorem Inv.call {g':Array GenState} {t':Nat} {d':Drawn} {ch:List Addr} (I:Inv X pins σ H s) (u:Un (gK X.stack) ch H H' s.heap h') (av:cc X.prog X.w H' h') (hg:AllBare g')
  (hch:∀ b ∈ ch,(b ∈ X.ex\/X.bU.heap.objs.size<=b)/\b ≠ X.env.locals/\(∀ x c,X.env.cells.lookup x=some c->c ≠ b)/\∀ p ∈ X.pn++pins,p.1 ≠ b) :
  Inv X pins σ H' { s with heap:=h',gens:=g',drawn:=d',toks:=t' }:=by
 obtain⟨m,⟨o,es,ep,ho,r⟩,_⟩:=id I.loc
 obtain⟨sl,hL⟩:=u.any ho I.free fun z=>(hch _ z).2.1 rfl
 exact I.step (ch:=ch) hch (fun b o hL hb hc e n=>u.keep b o e n (fun z=>(List.mem_cons.mp (I.fP b z)).elim hL hb) hc) (fun b o _ _ hc e n=>u.any e n hc) (fun b o hc e n=>u.free b o e n hc) (fun b o hc e=>u.there b o e hc) u.bO u.eR u.e7 (fun m' hm=>by
  obtain⟨o',es',ep',ho',r'⟩:=hm
  rw [ho] at ho';cases ho'
  exact⟨_,es',ep',hL,r'⟩) av hg
theorem Inv.turned {t':Nat} {it:Addr} (I:Inv X pins σ H s) (k:∀ b o,b ≠ it->s.heap.get? b=some o->h'.get? b=some o) (hn:H it=none) (hL:it ≠ X.env.locals)
  (h1:it ∈ X.ex\/X.bU.heap.objs.size<=it) (h2:∀ x c,X.env.cells.lookup x=some c->c ≠ it) (h3:∀ p ∈ X.pn++pins,p.1 ≠ it):Inv X pins σ H { s with heap:=h',toks:=t' }:=by
 have nit:∀ b u,H b=some u->b ≠ it:=fun b u e z=>by rw [z,hn] at e;cases e
 refine I.step (g':=s.gens) (d':=s.drawn) (ch:=[it]) (fun b hb=>?_) (fun b o _ _ hc e _=>k b o (fun z=>hc (by simp [z])) e) (fun b o _ _ hc e _=>⟨o.slots,k b o (fun z=>hc (by simp [z])) e⟩) (fun _ _ _ _ n=>n)
  (fun b o hc e=>⟨o,k b o (fun z=>hc (by simp [z])) e⟩) (fun _ _ e=>e) (fun _ _ _ e=>e) (fun b ps e=>⟨#[],by rw [e];simp⟩) (fun m hm=>?_) (fun b u e=>?_) I.bare
 ·have e:b=it:=by simpa using hb
  subst e
  exact⟨h1,hL,h2,h3⟩
 ·obtain⟨o,es,ep,ho,r⟩:=hm
  exact⟨o,es,ep,k _ o (Ne.symm hL) ho,r⟩
 ·refine (I.av b u e).iw (fun c v hc q=>k c v ?_ q) (fun _ q=>q) fun _ _ q=>q
  rcases hc with z | z
  ·rw [z];exact nit b u e
  ·exact nit c _ z
theorem Inv.tok (I:Inv X pins σ H s) (t:Nat):Inv X pins σ H { s with toks:=t }:=I.un (h':=s.heap) (t':=t) Un.refl I.av
theorem Inv.kept {t':Nat} (I:Inv X pins σ H s) (k:∀ b u,s.heap.get? b=some u->h'.get? b=some u):Inv X pins σ H { s with heap:=h',toks:=t' }:=I.un (Un.kept k) (I.av.kept k)
theorem Inv.laid {a:Addr} {o:HO} {t':Nat} (I:Inv X pins σ H s) (k:∀ b u,s.heap.get? b=some u->h'.get? b=some u) (hp:s.heap.objs.size<=a) (new:bh X.prog X.w (upd H a o) h' a o) :
  Inv X pins σ (upd H a o) { s with heap:=h',toks:=t' }:=I.un (Un.laid k hp (I.av.fresh hp)) (I.av.laid k hp new)
theorem Inv.write {x e:Addr} {o:HO} {t':Nat} (I:Inv X pins σ H s) (mu:mK (H x)) (he:e=x\/H e=some (.own x)) (k:∀ b u,b ≠ e->s.heap.get? b=some u->h'.get? b=some u) (heo:∃ u,h'.get? e=some u)
  (new:bh X.prog X.w (upd H x o) h' x o):Inv X pins σ (upd H x o) { s with heap:=h',toks:=t' }:=I.un (Un.write mu he k heo) (I.av.write mu he k heo new)
theorem Inv.lp {pins':List (Addr × Obj)} (I:Inv X pins σ H s) (h:∀ p ∈ pins',s.heap.get? p.1=some p.2/\H p.1=none/\p.1 ≠ X.env.locals/\p.1 ∉ X.fs/\∀ v,p.2.data ≠ .cell v):Inv X pins' σ H s :=
 ⟨I.ok,I.os,I.bare,I.base,I.loc,I.cell,I.free,I.cK,fun p hp=>(List.mem_append.mp hp).elim (fun z=>I.pin p (List.mem_append_left _ z)) (h p),I.av,I.len⟩
theorem jY {N:List Str} (hN:N.Nodup) {i j:Nat} {x:Str} (a:N[i]? = some x) (b:N[j]? = some x):i=j:=by
 obtain⟨h1,e1⟩:=List.getElem?_eq_some_iff.mp a
 obtain⟨h2,e2⟩:=List.getElem?_eq_some_iff.mp b
 exact (List.getElem_inj hN).mp (e1.trans e2.symm)
theorem gL {M:Model} {A:Around} {E:Value->Shared->Prop} {i:Nat} {x:Str} {v:V} {u:Value} {Q:Unit->Shared->Prop} (I:Inv X pins σ H s) (hN:X.N.Nodup) (hi:X.N[i]? = some x) (hx:Loc X.env.scope x) (r:RelV v u)
  (h:∀ s',Inv X pins (σ.set i (some v)) H s'->(∃ a,Heap.SameBut a s.heap s'.heap/\(a=X.env.locals\/X.env.cells.lookup x=some a))->Q () s') (hf:X.fn x=true\/X.env.scope.names.lookup x=some .local:=by first | exact .inl rfl | exact .inr rfl | assumption):wpAny M A (storeName X.env x u) Q E s:=by
 obtain⟨m,hn,hl⟩:=id I.loc
 have hcls:(X.env.scope.kind == .class || (X.env.scope.kind == .module && X.env.locals != X.env.globals))=false:=by rw [I.ok.kind];rfl
 have hiσ : i < σ.length:=by rw [I.len];exact (List.getElem?_eq_some_iff.mp hi).1
 have jX:=I.jX
 have tracked:∀ {a:Addr} {h':Heap},(∃ o,s.heap.get? a=some o/\H a=none)->Heap.SameBut a s.heap h'->cc X.prog X.w H h':=fun {a h'} ha hs b ob e=>by
  obtain⟨_,_,hfree⟩:=ha
  refine (I.av b ob e).iw (fun c w' hc q=>(hs.2 c ?_).trans q) (fun _ q=>q) fun _ _ q=>q
  rintro rfl
  rcases hc with rfl | hc
  ·rw [hfree] at e;cases e
  ·rw [hfree] at hc;cases hc
 rcases hx with hk | hk
 ·refine wpAny_storeName_local hk hn (fun h' hn' hs=>?_) hcls
  obtain⟨oL,_,_,hoL,_⟩:=id hn
  refine h _ ⟨I.ok,I.os,I.bare,⟨fun b o e n hb hx=>?_,fun b o e n hb hx=>?_,I.base.free,fun b o e hx=>?_,I.base.bO,I.base.eR,I.base.e7⟩,⟨_,hn',fun j y v' e1 e2 e3=>?_⟩,fun y c e=>?_,I.free,I.cK,fun p hp=>?_,tracked ⟨oL,hoL,I.free⟩ hs,by simpa using I.len⟩ ⟨_,hs,.inl rfl⟩
  ·exact (hs.2 b (Nat.ne_of_lt (Nat.lt_of_lt_of_le (Heap.lt_size e) I.ok.above))).trans (I.base.keep b o e n hb hx)
  ·obtain⟨sl,e1⟩:=I.base.slot b o e n hb hx
   exact⟨sl,(hs.2 b (Nat.ne_of_lt (Nat.lt_of_lt_of_le (Heap.lt_size e) I.ok.above))).trans e1⟩
  ·obtain⟨o',e1⟩:=I.base.there b o e hx
   exact⟨o',(hs.2 b (Nat.ne_of_lt (Nat.lt_of_lt_of_le (Heap.lt_size e) I.ok.above))).trans e1⟩
  ·by_cases hj:j=i
   ·subst hj
    rw [hi] at e1;cases e1
    rw [List.getElem?_set_self hiσ] at e2
    cases e2
    exact⟨u,r,.inl ⟨hk,by simp⟩⟩
   ·rw [List.getElem?_set_ne (Ne.symm hj)] at e2
    obtain⟨u',r',q⟩:=hl j y v' e1 e2 e3
    refine⟨u',r',?_⟩
    rcases q with ⟨k,e⟩ | ⟨k,c,e,z⟩
    ·refine .inl ⟨k,?_⟩
     have:y ≠ x:=fun e=>hj (jY hN e1 (e ▸ hi))
     simp [this,e]
    ·exact .inr ⟨k,c,e,z.sameBut hs (jX y c e)⟩
  ·obtain⟨w',z⟩:=I.cell y c e
   exact⟨w',z.sameBut hs (jX y c e)⟩
  ·obtain⟨e,n,ne,nf,d⟩:=I.pin p hp
   exact⟨(hs.2 p.1 ne).trans e,n,ne,nf,d⟩
 ·have hfn:X.fn x=true:=by
   rcases hf with z | z
   ·exact z
   ·rw [z] at hk;cases hk
  obtain⟨c,hc⟩:=I.ok.has x (.inl hk)
  obtain⟨w',z⟩:=I.cell x c hc
  refine wpAny_storeName_cell I.ok.kind hk hc z (fun h' hc' hs=>?_)
  obtain⟨oc,hoc,hocd⟩:=id z
  refine h { s with heap:=h' } ⟨I.ok,I.os,I.bare,⟨fun b o e n hb hx=>?_,fun b o e n hb hx=>?_,I.base.free,fun b o e hx=>?_,I.base.bO,I.base.eR,I.base.e7⟩,⟨m,hn.sameBut hs (Ne.symm (jX x c hc)),fun j y v' e1 e2 e3=>?_⟩,fun y c' e=>?_,I.free,I.cK,fun p hp=>?_,tracked ⟨oc,hoc,I.cK x c hc⟩ hs,by simpa using I.len⟩ ⟨c,hs,.inr hc⟩
  ·exact (hs.2 b (Nat.ne_of_lt (Nat.lt_of_lt_of_le (Heap.lt_size e) (I.ok.mM x c hfn hc)))).trans (I.base.keep b o e n hb hx)
  ·obtain⟨sl,e1⟩:=I.base.slot b o e n hb hx
   exact⟨sl,(hs.2 b (Nat.ne_of_lt (Nat.lt_of_lt_of_le (Heap.lt_size e) (I.ok.mM x c hfn hc)))).trans e1⟩
  ·obtain⟨o',e1⟩:=I.base.there b o e hx
   exact⟨o',(hs.2 b (Nat.ne_of_lt (Nat.lt_of_lt_of_le (Heap.lt_size e) (I.ok.mM x c hfn hc)))).trans e1⟩
  ·by_cases hj:j=i
   ·subst hj
    rw [hi] at e1;cases e1
    rw [List.getElem?_set_self hiσ] at e2
    cases e2
    exact⟨u,r,.inr ⟨.inl hk,c,hc,hc'⟩⟩
   ·rw [List.getElem?_set_ne (Ne.symm hj)] at e2
    obtain⟨u',r',q⟩:=hl j y v' e1 e2 e3
    refine⟨u',r',?_⟩
    rcases q with q | ⟨k,c',e,z'⟩
    ·exact .inl q
    ·refine .inr ⟨k,c',e,z'.sameBut hs ?_⟩
     rintro rfl
     exact hj (jY hN e1 (I.ok.inj _ _ _ e hc ▸ hi))
  ·by_cases hcc:c' = c
   ·subst hcc;exact⟨_,hc'⟩
   ·obtain⟨w2,z2⟩:=I.cell y c' e
    exact⟨w2,z2.sameBut hs hcc⟩
  ·obtain⟨e,n,ne,nf,d⟩:=I.pin p hp
   refine⟨(hs.2 p.1 ?_).trans e,n,ne,nf,d⟩
   intro q
   rw [q,hoc] at e
   have q':oc=p.2:=Option.some.inj e
   exact d w' (by rw [<-q'];exact hocd)
theorem gf {M:Model} {A:Around} {E:Value->Shared->Prop} {i:Nat} {x:Str} {v:V} {u:Value} {Q:Unit->Shared->Prop} (I:Inv X pins σ H s) (hN:X.N.Nodup) (hi:X.N[i]? = some x) (hx:Loc X.env.scope x) (r:RelV v u)
  (h:∀ s',Inv X pins (σ.set i (some v)) H s'->Q () s') (hf:X.fn x=true\/X.env.scope.names.lookup x=some .local:=by first | exact .inl rfl | exact .inr rfl | assumption):wpAny M A (storeName X.env x u) Q E s :=
 gL I hN hi hx r (fun s' I' _=>h s' I') hf
theorem Inv.lV {s':Shared} {ch:List Addr} (I:Inv X pins σ H s) (ho:s'.os=s.os) (u:Un (gK X.stack) ch H H' s.heap s'.heap) (av:cc X.prog X.w H' s'.heap) (hg:AllBare s'.gens)
  (hch:∀ b ∈ ch,(b ∈ X.ex\/X.bU.heap.objs.size<=b)/\b ≠ X.env.locals/\(∀ x c,X.env.cells.lookup x=some c->c ≠ b)/\∀ p ∈ X.pn++pins,p.1 ≠ b):Inv X pins σ H' s':=by
 obtain⟨h',g',d',t',o'⟩:=s'
 have e:o' = s.os:=ho
 subst e
 exact I.call (g':=g') (t':=t') (d':=d') u av hg hch
end
abbrev XK:=Value->Option Addr->Hp->Prop
abbrev St:=List (Option V)
abbrev VK:=V->Hp->Prop
abbrev TE:=St->Hp->VK->Prop
abbrev TT:=St->Hp->(Bool->Hp->Prop)->Prop
abbrev TA:=St->Hp->(List V->Hp->Prop)->Prop
structure Ends where
 nx:St->Hp->Prop
 rt:VK
 bk:St->Hp->Prop:=fun _ _=>False
 ct:St->Hp->Prop:=fun _ _=>False
abbrev TS:=Ends->St->Hp->Prop
def EP (X:Cx) (pins:List (Addr × Obj)) (σ : St) (Q:VK) (u:Value) (s':Shared):Prop:=∃ v H',Inv X pins σ H' s'/\RelV v u/\Q v H'
def TP (X:Cx) (pins:List (Addr × Obj)) (σ : St) (Q:Bool->Hp->Prop) (b:Bool) (s':Shared):Prop:=∃ H',Inv X pins σ H' s'/\Q b H'
def AP (X:Cx) (pins:List (Addr × Obj)) (σ : St) (Q:List V->Hp->Prop) (us:List Value) (s':Shared):Prop:=∃ vs H',Inv X pins σ H' s'/\Vals vs us/\Q vs H'
def SP (X:Cx) (pins:List (Addr × Obj)) (D:Ends) (f:Flow) (s':Shared):Prop :=
 match f with
 | .next=>∃ σ' H',Inv X pins σ' H' s'/\D.nx σ' H'
 | .brk=>∃ σ' H',Inv X pins σ' H' s'/\D.bk σ' H'
 | .cont=>∃ σ' H',Inv X pins σ' H' s'/\D.ct σ' H'
 | .ret u=>∃ v σ' H',Inv X pins σ' H' s'/\RelV v u/\D.rt v H'
def PE (X:Cx) (e:Expr) (t:TE):Prop :=
 ∀ (pins:List (Addr × Obj)) (s:Shared) (σ : St) (H:Hp) (Q:VK),Inv X pins σ H s->t σ H Q->wpAny (model X.prog X.w) X.A (eval e X.env) (EP X pins σ Q) X.xe s
def PT (X:Cx) (e:Expr) (t:TT):Prop :=
 ∀ (pins:List (Addr × Obj)) (s:Shared) (σ : St) (H:Hp) (Q:Bool->Hp->Prop),Inv X pins σ H s->t σ H Q->wpAny (model X.prog X.w) X.A (isTrue e X.env (eval e X.env)) (TP X pins σ Q) X.xe s
def PW (X:Cx) (e:Expr) (t:TT):Prop :=
 ∀ (whole:Sem Value) (pins:List (Addr × Obj)) (s:Shared) (σ : St) (H:Hp) (Q:Bool->Hp->Prop),Inv X pins σ H s->t σ H Q->wpAny (model X.prog X.w) X.A (isTrue e X.env whole) (TP X pins σ Q) X.xe s
theorem PW.pt {X:Cx} {e:Expr} {t:TT} (h:PW X e t):PT X e t:=h _
def PA (X:Cx) (es:List Expr) (t:TA):Prop :=
 ∀ (pos:Pos) (pins:List (Addr × Obj)) (s:Shared) (σ : St) (H:Hp) (Q:List V->Hp->Prop),Inv X pins σ H s->t σ H Q->wpAny (model X.prog X.w) X.A (spliced (backTo pos (starEach es X.env))) (AP X pins σ Q) X.xe s
def PS (X:Cx) (st:Stmt) (t:TS):Prop :=
 ∀ (pins:List (Addr × Obj)) (s:Shared) (σ : St) (H:Hp) (D:Ends),Inv X pins σ H s->t D σ H->wpAny (model X.prog X.w) X.A (exec st X.env) (SP X pins D) X.xe s
def fQ (X:Cx) (st:List Stmt) (t:TS):Prop :=
 ∀ (pins:List (Addr × Obj)) (s:Shared) (σ : St) (H:Hp) (D:Ends),Inv X pins σ H s->t D σ H->wpAny (model X.prog X.w) X.A (execs st X.env) (SP X pins D) X.xe s
theorem aA {α : Type} {t:Sem α} {Q Q':α->Shared->Prop} {M:Model} {A:Around} {E:Value->Shared->Prop} {s:Shared} (h:wpAny M A t Q E s) (hQ:∀ a s,Q a s->Q' a s):wpAny M A t Q' E s:=wpAny_mono h hQ fun _ _ x=>x
section
variable {X:Cx}
def lW (i:Nat):TE:=fun σ H Q=>∃ v,σ[i]? = some (some v)/\Q v H
def tC (v:V):TE:=fun _ H Q=>Q v H
theorem qf {i:Nat} {x:Str} {pos:Pos} (hN:X.N[i]? = some x) (hv:qe X.env.scope x) (hd:(x == ("__debug__" : Str))=false:=by decide) (hcd:(x == ("__classdict__" : Str))=false:=by decide):PE X (.Name x pos) (lW i):=by
 intro pins s σ H Q I h
 obtain⟨v,e,h⟩:=h
 obtain⟨m,hn,hl⟩:=I.loc
 obtain⟨u,r,l⟩:=hl i x v hN e hv
 have fin:EP X pins σ Q u s:=⟨v,H,I,r,h⟩
 rcases l with ⟨hk,hm⟩ | ⟨hk,c,hc,hcell⟩
 ·exact wpAny_Name (wpAny_loadName_local I.ok.kind hk hn hm fin) hd
 ·rcases hk with hk | hk
  ·exact wpAny_Name (wpAny_loadName_cell I.ok.kind hk hc hcell fin) hd
  ·exact wpAny_Name (wpAny_loadName_free I.ok.kind hk hc hcell fin hcd) hd
theorem ai {i j pos}:PE X (.Constant (.int i) j pos) (tC (.int i)):=fun _ _ _ H _ I h=>wpAny_Constant_int ⟨.int i,H,I.tok _,⟨_,rfl⟩,h⟩
theorem iI {b j pos}:PE X (.Constant (.bool b) j pos) (tC (.bl b)):=fun _ _ _ H _ I h=>Constant_bool ⟨.bl b,H,I,rfl,h⟩
theorem qg {j pos}:PE X (.Constant .none j pos) (tC .aY):=fun _ _ _ H _ I h=>Constant_none ⟨.aY,H,I,rfl,h⟩
theorem aK {x j pos}:PE X (.Constant (.str x) j pos) (tC (.str x)):=fun _ _ _ H _ I h=>Calls.Constant_str ⟨.str x,H,I.tok _,⟨_,rfl⟩,h⟩
def Gl (X:Cx) (x:Str):Prop:=X.env.kindOf x=some .globalImplicit
theorem lq {E:Value->Shared->Prop} {pins:List (Addr × Obj)} {s:Shared} {σ : St} {H:Hp} {x:Str} {u:Value} {pos:Pos} {Q:Value->Shared->Prop} (I:Inv X pins σ H s) (hg:Gl X x) (hm:X.mg x=some u) (h:Q u s)
  (hd:(x == ("__debug__" : Str))=false:=by decide):wpAny (model X.prog X.w) X.A (eval (.Name x pos) X.env) Q E s :=
 Calls.Name_function_global I.ok.kind hg (Calls.loadGlobal_global (by rw [I.ok.glob];exact I.mod.glob.keeps I.bk) hm h) hd
theorem gM {E:Value->Shared->Prop} {pins:List (Addr × Obj)} {s:Shared} {σ : St} {H:Hp} {x:Str} {u:Value} {pos:Pos} {Q:Value->Shared->Prop} (I:Inv X pins σ H s) (hg:Gl X x) (hm:X.mg x=none) (hv:bootBuiltins x=some u) (h:Q u s)
  (hn:x ≠ "__name__" := by decide) (hd:(x == ("__debug__" : Str))=false:=by decide):wpAny (model X.prog X.w) X.A (eval (.Name x pos) X.env) Q E s:=by
 obtain⟨mb,h1,h2⟩:=I.mod.blt
 exact Calls.Name_function_global I.ok.kind hg (Calls.loadGlobal_builtin (by rw [I.ok.glob];exact I.mod.glob.keeps I.bk) hm (by rw [I.ok.blt];exact h1.keeps I.bk) ((h2 x hn).trans hv) h) hd
theorem o5 {x:Str} {v:V} {u:Value} {pos:Pos} (hg:Gl X x) (hm:X.mg x=some u) (r:RelV v u) (hd:(x == ("__debug__" : Str))=false:=by decide):PE X (.Name x pos) (tC v) :=
 fun _ _ _ H _ I h=>lq I hg hm ⟨v,H,I,r,h⟩ hd
variable {a b:Expr} {ta tb:TE} {pos:Pos}
def PC (X:Cx) (op:CmpOp) (a b:Expr) (t:TE):Prop :=
 ∀ (pins:List (Addr × Obj)) (s:Shared) (σ : St) (H:Hp) (Q:VK),Inv X pins σ H s->t σ H Q ->
  wpAny (model X.prog X.w) X.A (eval a X.env) (fun v s₁=>wpAny (model X.prog X.w) X.A (eval b X.env) (fun u s₂=>wpAny (model X.prog X.w) X.A (compareOp op v u) (EP X pins σ Q) X.xe s₂) X.xe s₁) X.xe s
theorem nE (b:Expr) {op:CmpOp} (h:op ≠ .In) (h2:op ≠ .NotIn):behindInMarks op b=false:=by
 have e1:(op == CmpOp.In)=false:=by cases op <;> first | rfl | exact absurd rfl h
 have e2:(op == CmpOp.NotIn)=false:=by cases op <;> first | rfl | exact absurd rfl h2
 cases b <;> simp [behindInMarks,e1,e2]
def rH (ta:TE):TE:=fun σ H Q=>ta σ H fun x H1=>Q (.bl (!decide (x=.aY))) H1
theorem RelV.nF {x:V} {v:Value} (r:RelV x v):(v == Value.none)=decide (x=.aY):=by
 cases x with
 | aY=>cases r;rfl
 | bl _=>cases r;rfl
 | int _=>obtain⟨t,rfl⟩:=r;rfl
 | str _=>obtain⟨t,rfl⟩:=r;rfl
 | fA _=>obtain⟨t,rfl⟩:=r;rfl
 | oE _=>obtain⟨t,rfl⟩:=r;rfl
 | ref _=>cases r;rfl
 | ty _=>cases r;rfl
theorem lr {j pos'} (ha:PE X a ta):PC X .IsNot a (.Constant .none j pos') (rH ta):=by
 intro pins s σ H Q I h
 refine aA (ha pins s σ H _ I h) fun v s1 ⟨x,H1,I1,r1,q1⟩=>?_
 exact Constant_none (isnot_none_gen ⟨.bl _,H1,I1,by rw [r1.nF];rfl,q1⟩)
def tB (t:TE):TT:=fun σ H Q=>t σ H fun x H1=>∃ c,x=.bl c/\Q c H1
theorem jZ {op:CmpOp} {t:TE} (h:PC X op a b t) (h1:behindInMarks op b=false:=by first | exact nE _ (by decide) (by decide) | rfl):PT X (.Compare a [op] [b] pos) (tB t):=by
 intro pins s σ H Q I hw
 refine wpAny_isTrue_Compare1 (aA (h pins s σ H _ I hw) fun v s1 h1=>aA h1 fun u s2 h2=>aA h2 fun c s3 ⟨x,H1,I1,r1,q1⟩=>?_) h1
 obtain⟨d,rfl,q⟩:=q1
 cases r1
 exact wpAny_truthy_bool ⟨H1,I1,q⟩
theorem qh {e:Expr} {t:TE} (h:PE X e t) (he:∀ whole,isTrue e X.env whole=(do let v <-whole;standAt e.pos;holding [v] (truthy v)):=by intro _;rfl):PT X e (tB t):=by
 intro pins s σ H Q I hw
 refine isTrue_plain (aA (h pins s σ H _ I hw) fun v s1 ⟨x,H1,I1,r1,q1⟩=>?_) (he _)
 obtain⟨d,rfl,q⟩:=q1
 cases r1
 exact wpAny_truthy_bool ⟨H1,I1,q⟩
variable {tA tB':TT} {rest:List Expr}
def sH (t u:TT):TT:=fun σ H Q=>t σ H fun c H1=>if c=true then u σ H1 Q else Q false H1
def tK (t u:TT):TT:=fun σ H Q=>t σ H fun c H1=>if c=true then Q true H1 else u σ H1 Q
theorem i8 (ha:PT X a tA):PW X (.BoolOp .And [a] pos) tA:=by
 intro wh pins s σ H Q I h
 refine isTrue_and (aA (ha pins s σ H Q I h) fun c s1 e=>?_)
 cases c with
 | true=>exact isTrue_and_nil e
 | false=>exact e
theorem mN (ha:PT X a tA):PW X (.BoolOp .Or [a] pos) tA:=by
 intro wh pins s σ H Q I h
 refine isTrue_or (aA (ha pins s σ H Q I h) fun c s1 e=>?_)
 cases c with
 | false=>exact isTrue_or_nil e
 | true=>exact e
theorem j0 (ha:PT X a tA) (hb:PW X (.BoolOp .And (b :: rest) pos) tB'):PW X (.BoolOp .And (a :: b :: rest) pos) (sH tA tB'):=by
 intro wh pins s σ H Q I h
 refine isTrue_and (aA (ha pins s σ H _ I h) fun c s1 ⟨H1,I1,q1⟩=>?_)
 cases c with
 | true=>exact hb wh pins s1 σ H1 Q I1 q1
 | false=>exact⟨H1,I1,q1⟩
theorem oH (ha:PT X a tA) (hb:PW X (.BoolOp .Or (b :: rest) pos) tB'):PW X (.BoolOp .Or (a :: b :: rest) pos) (tK tA tB'):=by
 intro wh pins s σ H Q I h
 refine isTrue_or (aA (ha pins s σ H _ I h) fun c s1 ⟨H1,I1,q1⟩=>?_)
 cases c with
 | true=>exact⟨H1,I1,q1⟩
 | false=>exact hb wh pins s1 σ H1 Q I1 q1
def tL (t:TT) (ta tb:TE):TE:=fun σ H Q=>t σ H fun c H1=>if c=true then ta σ H1 Q else tb σ H1 Q
theorem nG {c:Expr} (hc:PT X c tA) (ha:PE X a ta) (hb:PE X b tb):PE X (.IfExp c a b pos) (tL tA ta tb):=by
 intro pins s σ H Q I h
 refine wpAny_IfExp (aA (hc pins s σ H _ I h) fun d s1 ⟨H1,I1,q1⟩=>?_)
 cases d with
 | true=>exact ha pins s1 σ H1 Q I1 q1
 | false=>exact hb pins s1 σ H1 Q I1 q1
end
def au (K:PySem.W.Frag) (H:Hp) (a:Addr) (xs:List V):Prop :=
 Rd H a (.lst xs) \/
  ∃ (o:Obj) (its:Array Value) (n:Nat),K.lookup a=some o/\o.cls=.type "list" /\ o.dict=none/\o.data=.seq its n/\its.size<=sizeLine/\Vals xs its.toList
def aw (K:PySem.W.Frag) (H:Hp) (a:Addr) (xs:List V):Prop :=
 Rd H a (.tup xs) \/
  ∃ (o:Obj) (its:Array Value) (n:Nat),K.lookup a=some o/\o.cls=.type "tuple" /\ o.data=.seq its n/\its.size<=sizeLine/\Vals xs its.toList
def sI:Value->Option V
 | .none=>some .aY
 | .bool b=>some (.bl b)
 | .int i _=>some (.int i)
 | .str x _=>some (.str x)
 | .bytes b _=>some (.fA b)
 | .float b _=>some (.oE b)
 | .ref a=>some (.ref a)
 | .type n=>some (.ty n)
 | _=>none
theorem RelV.abs {x:V} {u:Value} (r:RelV x u):sI u=some x:=by
 cases x with
 | aY=>cases r;rfl
 | bl _=>cases r;rfl
 | int _=>obtain⟨t,rfl⟩:=r;rfl
 | str _=>obtain⟨t,rfl⟩:=r;rfl
 | fA _=>obtain⟨t,rfl⟩:=r;rfl
 | oE _=>obtain⟨t,rfl⟩:=r;rfl
 | ref _=>cases r;rfl
 | ty _=>cases r;rfl
theorem RelV.inj {x y:V} {u:Value} (r:RelV x u) (q:RelV y u):x=y:=Option.some.inj (r.abs.symm.trans q.abs)
theorem Vals.inj:∀ {xs ys:List V} {us:List Value},Vals xs us->Vals ys us->xs=ys
 | _,_,_,.nil,.nil=>rfl
 | _,_,_,.cons r t,.cons r' t'=>by rw [r.inj r',Vals.inj t t']
section
variable {X:Cx} {pins:List (Addr × Obj)} {σ : St} {H:Hp} {s:Shared} {a:Addr} {xs ys:List V}
theorem au.of {K:PySem.W.Frag} (h:H a=some (.lst xs)):au K H a xs:=.inl (.inl h)
theorem aw.of {K:PySem.W.Frag} (h:H a=some (.tup xs)):aw K H a xs:=.inl (.inl h)
theorem Inv.list (I:Inv X pins σ H s) (h:au X.K H a xs):∃ its:List Value,Vals xs its/\PlainL s.heap a its.toArray/\xs.length<=sizeLine:=by
 rcases h with h | ⟨o,its,n,hk,hc,hd,hs,hz,r⟩
 ·obtain⟨z,its,n,r,e⟩:=h.ok I.av
  exact⟨its,r,⟨_,n,e,rfl,rfl,rfl⟩,z⟩
 ·refine⟨its.toList,r,⟨o,n,I.jW a o hk,hc,hd,by simpa using hs⟩,?_⟩
  have e:=r.length
  simp only [Array.length_toList] at e
  omega
theorem Inv.tuple (I:Inv X pins σ H s) (h:aw X.K H a xs):∃ its:List Value,Vals xs its/\IsTup s.heap a its.toArray/\xs.length<=sizeLine:=by
 rcases h with h | ⟨o,its,n,hk,hc,hs,hz,r⟩
 ·obtain⟨z,its,r,o,e,c,n,d,_⟩:=h.ok I.av
  exact⟨its,r,⟨o,e,c,n,d⟩,z⟩
 ·refine⟨its.toList,r,⟨o,I.jW a o hk,hc,n,by simpa using hs⟩,?_⟩
  have e:=r.length
  simp only [Array.length_toList] at e
  omega
theorem Inv.j1 (I:Inv X pins σ H s) (h:au X.K H a xs) (h':au X.K H a ys):xs=ys:=by
 obtain⟨its,r,⟨o,n,e,_,_,d⟩,_⟩:=I.list h
 obtain⟨its',r',⟨o',n',e',_,_,d'⟩,_⟩:=I.list h'
 rw [e] at e';cases e'
 rw [d] at d'
 injection d' with d1 _
 have:its=its':=by simpa using congrArg Array.toList d1
 subst this
 exact r.inj r'
theorem Inv.fB (I:Inv X pins σ H s) (h:aw X.K H a xs) (h':aw X.K H a ys):xs=ys:=by
 obtain⟨its,r,⟨o,e,_,n,d⟩,_⟩:=I.tuple h
 obtain⟨its',r',⟨o',e',_,n',d'⟩,_⟩:=I.tuple h'
 rw [e] at e';cases e'
 rw [d] at d'
 injection d' with d1 _
 have:its=its':=by simpa using congrArg Array.toList d1
 subst this
 exact r.inj r'
end
abbrev Cx.fF (X:Cx) (E:Value->Shared->Prop):Cx:={ X with xe:=E }
abbrev Cx.oI (X:Cx):Cx:=X.fF fun _ _=>False
theorem Cx.Ok.fF {X:Cx} (ok:X.Ok) (E:Value->Shared->Prop):(X.fF E).Ok :=
 ⟨ok.mod,ok.kind,ok.glob,ok.blt,ok.above,ok.inj,ok.has,ok.mM,ok.hd,ok.frames,ok.oG,ok.sk,ok.bs,ok.jt,ok.jV,ok.lU,ok.fb,ok.lj⟩
theorem Cx.Ok.eE {X:Cx} {E:Value->Shared->Prop} (ok:(X.fF E).Ok):X.Ok :=
 ⟨ok.mod,ok.kind,ok.glob,ok.blt,ok.above,ok.inj,ok.has,ok.mM,ok.hd,ok.frames,ok.oG,ok.sk,ok.bs,ok.jt,ok.jV,ok.lU,ok.fb,ok.lj⟩
section
variable {X:Cx} {pins:List (Addr × Obj)} {σ : St} {H:Hp} {s:Shared} {E:Value->Shared->Prop}
theorem Inv.fF (I:Inv X pins σ H s) (E:Value->Shared->Prop):Inv (X.fF E) pins σ H s:=⟨I.ok.fF E,I.os,I.bare,I.base,I.loc,I.cell,I.free,I.cK,I.pin,I.av,I.len⟩
theorem Inv.eE (I:Inv (X.fF E) pins σ H s):Inv X pins σ H s:=⟨I.ok.eE,I.os,I.bare,I.base,I.loc,I.cell,I.free,I.cK,I.pin,I.av,I.len⟩
theorem SP.eE {D:Ends} {f:Flow} {s':Shared} (h:SP (X.fF E) pins D f s'):SP X pins D f s':=by
 cases f with
 | next=>obtain⟨σ',H',I,q⟩:=h;exact⟨σ',H',I.eE,q⟩
 | brk=>obtain⟨σ',H',I,q⟩:=h;exact⟨σ',H',I.eE,q⟩
 | cont=>obtain⟨σ',H',I,q⟩:=h;exact⟨σ',H',I.eE,q⟩
 | ret u=>obtain⟨v,σ',H',I,r,q⟩:=h;exact⟨v,σ',H',I.eE,r,q⟩
theorem fQ.oI {st:List Stmt} {t:TS} (h:fQ X.oI st t):fQ X st t:=fun pins s σ H D I hw =>
 wpAny_mono (h pins s σ H D (I.fF _) hw) (fun _ _ q=>q.eE) fun _ _ z=>False.elim z
end
section
variable {X:Cx} {st:Stmt} {rest:List Stmt} {t u:TS} {e:Expr} {te:TE} {pos:Pos}
def rJ:TS:=fun D σ H=>D.nx σ H
def sJ (t u:TS):TS:=fun D σ H=>t { D with nx:=u D } σ H
theorem bp:fQ X [] rJ:=fun _ _ σ H _ I h=>wpAny_execs_nil ⟨σ,H,I,h⟩
theorem af (h1:PS X st t) (h2:fQ X rest u):fQ X (st :: rest) (sJ t u):=by
 intro pins s σ H D I h
 refine wpAny_execs_cons (aA (h1 pins s σ H { D with nx:=u D } I h) fun f s1 q=>?_)
 cases f with
 | next =>
  obtain⟨σ',H',I',q⟩:=q
  exact h2 pins s1 σ' H' D I' q
 | ret v=>exact q
 | brk=>exact q
 | cont=>exact q
theorem ao (h1:PS X st t):fQ X [st] t:=by
 intro pins s σ H D I h
 refine wpAny_execs_cons (aA (h1 pins s σ H D I h) fun f s1 q=>?_)
 cases f with
 | next=>exact wpAny_execs_nil q
 | ret v=>exact q
 | brk=>exact q
 | cont=>exact q
theorem Inv.quiet {pins:List (Addr × Obj)} {σ : St} {H:Hp} {s:Shared} (I:Inv X pins σ H s):interactive X.env=false:=by simp [interactive,I.ok.kind]
def rK (te:TE):TS:=fun D σ H=>te σ H fun _ H1=>D.nx σ H1
theorem cS (he:PE X e te) (hs:swapsWith e none pos.line X.env=pure false:=by rfl):PS X (.Expr e pos) (rK te):=by
 intro pins s σ H D I h
 exact wpAny_Expr_any (aA (he pins s σ H _ I h) fun v s1 ⟨x,H1,I1,r1,q1⟩=>⟨σ,H1,I1,q1⟩) I.quiet hs
def sL (te:TE):TS:=fun D σ H=>te σ H D.rt
theorem aP (he:PE X e te):PS X (.Return (some e) pos) (sL te):=by
 intro pins s σ H D I h
 exact wpAny_Return_some (aA (he pins s σ H _ I h) fun v s1 ⟨x,H1,I1,r1,q1⟩=>⟨x,σ,H1,I1,r1,q1⟩)
def sM (c:TT) (t u:TS):TS:=fun D σ H=>c σ H fun b H1=>if b=true then t D σ H1 else u D σ H1
theorem bV {c:Expr} {a b:List Stmt} {tc:TT} (hc:PT X c tc) (ha:fQ X a t) (hb:fQ X b u):PS X (.If c a b pos) (sM tc t u):=by
 intro pins s σ H D I h
 refine wpAny_If (aA (hc pins s σ H _ I h) fun d s1 ⟨H1,I1,q1⟩=>?_)
 cases d with
 | true=>exact ha pins s1 σ H1 D I1 q1
 | false=>exact hb pins s1 σ H1 D I1 q1
end
abbrev TG:=V->St->Hp->(St->Hp->Prop)->Prop
abbrev ju:=List V->St->Hp->(St->Hp->Prop)->Prop
def PG (X:Cx) (target:Expr) (t:TG):Prop :=
 ∀ (pins:List (Addr × Obj)) (s:Shared) (σ : St) (H:Hp) (v:V) (u:Value) (Q:St->Hp->Prop),Inv X pins σ H s->RelV v u->t v σ H Q ->
  wpAny (model X.prog X.w) X.A (assign target X.env u) (fun _ s'=>∃ σ' H',Inv X pins σ' H' s'/\Q σ' H') X.xe s
def oJ (X:Cx) (ts:List Expr) (t:ju):Prop :=
 ∀ (pins:List (Addr × Obj)) (s:Shared) (σ : St) (H:Hp) (vs:List V) (us:List Value) (Q:St->Hp->Prop),Inv X pins σ H s->Vals vs us->t vs σ H Q ->
  wpAny (model X.prog X.w) X.A (assignInOrder ((assignEach ts X.env).map (·.2)) us) (fun _ s'=>∃ σ' H',Inv X pins σ' H' s'/\Q σ' H') X.xe s
abbrev nH:=V->V->V->Hp->(Hp->Prop)->Prop
def qi (X:Cx) (t:nH):Prop :=
 ∀ (pins:List (Addr × Obj)) (s:Shared) (σ : St) (H:Hp) (o i v:V) (ov iv u:Value) (Q:Hp->Prop),Inv X pins σ H s->RelV o ov->RelV i iv->RelV v u->t o i v H Q ->
  wpAny (model X.prog X.w) X.A (setItem ov iv u) (fun _ s'=>∃ H',Inv X pins σ H' s'/\Q H') X.xe s
section
variable {X:Cx} {pos:Pos}
def iJ (i:Nat):TG:=fun v σ H Q=>Q (σ.set i (some v)) H
theorem ax {i:Nat} {x:Str} (hN:X.N.Nodup) (hi:X.N[i]? = some x) (hx:Loc X.env.scope x) (hf:X.fn x=true\/X.env.scope.names.lookup x=some .local:=by first | exact .inl rfl | exact .inr rfl | assumption):PG X (.Name x pos) (iJ i):=by
 intro pins s σ H v u Q I r h
 exact wpAny_assign_Name (gf I hN hi hx r (fun s' I'=>⟨_,H,I',h⟩) hf)
def sN:ju:=fun vs σ H Q=>vs = []/\Q σ H
def rL (t:TG) (u:ju):ju:=fun vs σ H Q=>∃ v r,vs=v :: r/\t v σ H fun σ' H'=>u r σ' H' Q
theorem dN:oJ X [] sN:=by
 intro pins s σ H vs us Q I r h
 obtain⟨e,h⟩:=h
 subst e
 cases r
 exact assignInOrder_nil ⟨σ,H,I,h⟩
theorem bo {e:Expr} {es:List Expr} {t:TG} {u:ju} (h1:PG X e t) (h2:oJ X es u)
  (hs:(assignEach (e :: es) X.env).map (·.2)=assign e X.env :: (assignEach es X.env).map (·.2):=by rfl):oJ X (e :: es) (rL t u):=by
 intro pins s σ H vs us Q I r h
 obtain⟨v,vr,e1,h⟩:=h
 subst e1
 cases r with
 | cons r rr =>
  rw [hs]
  refine assignInOrder_cons (aA (h1 pins s σ H _ _ _ I r h) fun _ s1 ⟨σ1,H1,I1,q1⟩=>?_)
  exact h2 pins s1 σ1 H1 _ _ Q I1 rr q1
def nI (K:PySem.W.Frag) (n:Nat) (t:ju):TG:=fun v σ H Q=>∃ a xs,v=.ref a/\aw K H a xs/\xs.length=n/\t xs σ H Q
theorem eF {es:List Expr} {k:Nat} {t:ju} {n:Nat} (hc:X.calm=true) (h:oJ X es t)
  (hn:(assignEach es X.env).length=n:=by rfl) (hst:(assignEach es X.env).findIdx? (·.1)=none:=by rfl):PG X (.Tuple es k pos) (nI X.K n t):=by
 intro pins s σ H v u Q I r hw
 obtain⟨a,xs,e1,hq,hl,hw⟩:=hw
 subst e1
 cases r
 obtain⟨its,rv,ht,hz⟩:=I.tuple hq
 refine assign_Tuple_tuple (I.ok.hd hc) ht (by simp [hn,<-hl,rv.length]) hst fun h' hx=>?_
 have I1:Inv X pins σ H { s with heap:=h' }:=I.kept (t':=s.toks) fun b o e=>hx b o (Nat.ne_of_lt (Heap.lt_size e)) e
 exact h pins _ σ H xs _ Q I1 (by simpa using rv) hw
def sO (to ti:TE) (t:nH):TG:=fun v σ H Q=>to σ H fun o H1=>ti σ H1 fun i H2=>t o i v H2 fun H3=>Q σ H3
theorem iK {o i:Expr} {to ti:TE} {t:nH} (ho:PE X o to) (hi:PE X i ti) (hs:qi X t)
  (ha:∀ v,assign (.Subscript o i pos) X.env v=(do
   let ov <-holding [v] (eval o X.env)
   let iv <-holding [v,ov] (eval i X.env)
   standAt pos
   holding [v,ov,iv] (setItem ov iv v)
   release [v,ov,iv] []):=by intro _;rfl):PG X (.Subscript o i pos) (sO to ti t):=by
 intro pins s σ H v u Q I r h
 rw [ha]
 refine wpAny_bind (wpAny_holding (aA (ho pins s σ H _ I h) fun ov s1 ⟨x,H1,I1,r1,q1⟩=>?_))
 refine wpAny_bind (wpAny_holding (aA (hi pins s1 σ H1 _ I1 q1) fun iv s2 ⟨y,H2,I2,r2,q2⟩=>?_))
 refine wpAny_bind (wpAny_standAt (wpAny_bind (wpAny_holding (aA (hs pins s2 σ H2 x y v ov iv u _ I2 r1 r2 r q2) fun _ s3 ⟨H3,I3,q3⟩=>?_))))
 exact wpAny_release ⟨σ,H3,I3,q3⟩
def lX (te:TE) (g:TG):TS:=fun D σ H=>te σ H fun x H1=>g x σ H1 D.nx
theorem fc {tg e:Expr} {te:TE} {g:TG} (he:PE X e te) (hg:PG X tg g) (hs:swapsWithSole [tg] e pos.line X.env=pure false:=by rfl) (hw:swappedStores [tg] e X.env=pure none:=by rfl)
  (h1:(assignEach [tg] X.env).map (·.2) = [assign tg X.env]:=by rfl):PS X (.Assign [tg] e pos) (lX te g):=by
 intro pins s σ H D I h
 refine wpAny_Assign_stores (aA (he pins s σ H _ I h) fun v s1 ⟨x,H1,I1,r1,q1⟩=>?_) hs hw
 rw [h1]
 exact aA (hg pins s1 σ H1 x v _ I1 r1 q1) fun _ s2 q=>q
theorem aD {i:Nat} {x:Str} {e:Expr} {te:TE} {pos':Pos} (hN:X.N.Nodup) (hi:X.N[i]? = some x) (hx:Loc X.env.scope x) (he:PE X e te) (hs:swapsWith e (some (.Name x pos')) pos.line X.env=pure false:=by rfl) (hf:X.fn x=true\/X.env.scope.names.lookup x=some .local:=by first | exact .inl rfl | exact .inr rfl | assumption) :
  PS X (.Assign [.Name x pos'] e pos) (lX te (iJ i)):=by
 intro pins s σ H D I h
 refine wpAny_Assign_Name (aA (he pins s σ H _ I h) fun v s1 ⟨y,H1,I1,r1,q1⟩=>?_) hs
 exact gf I1 hN hi hx r1 (fun s2 I2=>⟨_,H1,I2,q1⟩) hf
def sP (i j:Nat) (ta:TA):TS:=fun D σ H=>ta σ H fun vs H1=>∃ v w,vs = [v,w]/\D.nx ((σ.set i (some v)).set j (some w)) H1
theorem ql {i j:Nat} {x y:Str} {a b:Expr} {ta:TA} {px py pt:Pos} {kt k2 pt2} (hc:X.calm=true) (hN:X.N.Nodup) (hi:X.N[i]? = some x) (hj:X.N[j]? = some y) (hij:i ≠ j)
  (hx:X.env.scope.names.lookup x=some .local) (hy:X.env.scope.names.lookup y=some .local) (ha:PA X [a,b] ta)
  (hw:swappedStores [.Tuple [.Name x px,.Name y py] kt pt] (.Tuple [a,b] k2 pt2) X.env=pure (some [x,y]))
  (hs:swapsWithSole [.Tuple [.Name x px,.Name y py] kt pt] (.Tuple [a,b] k2 pt2) pos.line X.env=pure false:=by rfl) :
  PS X (.Assign [.Tuple [.Name x px,.Name y py] kt pt] (.Tuple [a,b] k2 pt2) pos) (sP i j ta):=by
 intro pins s σ H D I h
 rw [exec_Assign_arm]
 refine wpAny_bind (wpAny_standAt ?_)
 rw [hs]
 refine wpAny_bind (wpAny_pure ?_)
 rw [if_neg (by decide)]
 refine wpAny_bind (Tuple_ (aA (ha _ pins s σ H _ I h) fun us s1 ⟨vs,H1,I1,r1,q1⟩=>?_))
 obtain⟨v,w,e1,q1⟩:=q1
 subst e1
 obtain⟨u1,u2,rfl,rv,rw'⟩:∃ u1 u2,us = [u1,u2]/\RelV v u1/\RelV w u2:=by
  cases r1 with
  | cons p q =>
   cases q with
   | cons p' q' =>
    cases q'
    exact⟨_,_,rfl,p,p'⟩
 refine wpAny_newObj_type ?_ (by show 2<=sizeLine;decide)
 have I2:Inv X pins σ H1 { s1 with heap:=s1.heap.push { cls:=.type "tuple",data:=.seq [u1,u2].toArray } }:=I1.kept (t':=s1.toks) fun b o e=>Heap.get?_push_of_some _ e
 rw [hw]
 refine wpAny_bind (wpAny_pure ?_)
 show wpAny (model X.prog X.w) X.A (do rule "assign.swapped-stores";let items <-unpackItems (.ref s1.heap.objs.size) 2 none;assignInOrder [fun v=>bindName X.env y v,fun v=>bindName X.env x v] items.reverse;pure Flow.next) _ _ _
 refine wpAny_bind (wpAny_rule (wpAny_bind (unpackItems_tuple (items:=#[u1,u2]) (I.ok.hd hc) (IsTup.new s1.heap _) fun h' hx'=>?_)))
 have I3:=I2.kept (h':=h') (t':=s1.toks) fun b o e=>hx' b o (Nat.ne_of_lt (Heap.lt_size e)) e
 show wpAny _ _ (assignInOrder [fun v=>bindName X.env y v,fun v=>bindName X.env x v] [u2,u1] >>= fun _=>pure Flow.next) _ _ _
 refine wpAny_bind (assignInOrder_cons (wpAny_bindName (gf I3 hN hj (.inl hy) rw' (fun s2 I4=>?_) (.inr hy))))
 refine assignInOrder_cons (wpAny_bindName (gf I4 hN hi (.inl hx) rv (fun s3 I5=>assignInOrder_nil (wpAny_pure ?_)) (.inr hx)))
 rw [List.set_comm _ _ (Ne.symm hij)] at I5
 exact⟨_,H1,I5,q1⟩
end
section
variable {X:Cx} {pos:Pos}
def qm (c:TT) (tb:TS):TS:=fun D σ H=>∃ W:Nat->St->Hp->Prop,(∃ m,W m σ H)/\∀ m σ H,W m σ H ->
 c σ H fun b H1=>if b=true then ∃ N:St->Hp->Prop,(∀ σ' H',N σ' H'->∃ m',m' < m/\W m' σ' H')/\tb { D with nx:=N,ct:=N,bk:=D.nx } σ H1 else D.nx σ H1
theorem j2 {c:Expr} {body:List Stmt} {tc:TT} {tb:TS} (hp:PassesOwn (model X.prog X.w) X.A X.env X.xe) (hc:PT X c tc) (hb:fQ X body tb):PS X (.While c body [] pos) (qm tc tb):=by
 intro pins s σ H D I h
 obtain⟨W,⟨m0,w0⟩,turn⟩:=h
 refine wpAny_While (codeAny_whileLoop (fun n s'=>∃ σ' H',Inv X pins σ' H' s'/\W n σ' H') ?_ m0 ⟨σ,H,I,w0⟩)
 rintro n s1 ⟨σ1,H1,I1,w1⟩
 refine wpAny_passesOwn hp (aA (hc pins s1 σ1 H1 _ I1 (turn n σ1 H1 w1)) fun b s2 ⟨H2,I2,q2⟩=>?_)
 cases b with
 | true =>
  obtain⟨N,hN,q2⟩:=q2
  rw [if_pos rfl]
  refine wpAny_passesOwn hp (aA (hb pins s2 σ1 H2 _ I2 q2) fun f s3 q3=>?_)
  cases f with
  | next =>
   obtain⟨σ3,H3,I3,n3⟩:=q3
   obtain⟨m',hm,w3⟩:=hN σ3 H3 n3
   exact⟨m',hm,σ3,H3,I3,w3⟩
  | cont =>
   obtain⟨σ3,H3,I3,n3⟩:=q3
   obtain⟨m',hm,w3⟩:=hN σ3 H3 n3
   exact⟨m',hm,σ3,H3,I3,w3⟩
  | brk=>exact q3
  | ret v=>exact q3
 | false =>
  rw [if_neg Bool.false_ne_true]
  exact wpAny_execs_nil ⟨σ1,H2,I2,q2⟩
end
structure It where
 go:Nat->Hp->Prop
 ie:Nat->Hp->V->Hp->Prop
 stop:Nat->Hp->Prop
def dc (X:Cx) (pins:List (Addr × Obj)) (H:Hp) (b:Addr):Prop :=
 H b=none/\b ≠ X.env.locals/\b ∉ X.fs/\(b ∈ X.ex\/X.bU.heap.objs.size<=b)/\(∀ x c,X.env.cells.lookup x=some c->c ≠ b)/\∀ p ∈ X.pn++pins,p.1 ≠ b
theorem Inv.fG {X:Cx} {pins:List (Addr × Obj)} {σ : St} {H H':Hp} {s:Shared} {b:Addr} (I:Inv X pins σ H s) (hb:s.heap.objs.size<=b) (hn:H' b=none):dc X pins H' b:=by
 refine⟨hn,Nat.ne_of_gt (Nat.lt_of_lt_of_le I.lt hb),I.sG hb,.inr (Nat.le_trans I.sz hb),fun x c e z=>?_,fun p hp z=>?_⟩
 ·obtain⟨v,q⟩:=I.cell x c e
  exact absurd (Nat.lt_of_lt_of_le q.lt (by rw [z];exact hb)) (Nat.lt_irrefl _)
 ·exact absurd (Nat.lt_of_lt_of_le (Heap.lt_size (I.pin p hp).1) (by rw [z];exact hb)) (Nat.lt_irrefl _)
structure Turn (P:Program) (w:World) (K:PySem.W.Frag) (tg:Expr) (J:It) (fp:List Addr) (it:Addr) (tn:Nat->Heap->Prop):Prop where
 mem:it ∈ fp
 obj:∀ i h,tn i h->∀ b ∈ fp,∃ o,h.get? b=some o/\∀ v,o.data ≠ .cell v
 keep:∀ i h h',tn i h->(∀ b ∈ fp,∀ o,h.get? b=some o->h'.get? b=some o)->tn i h'
 item:∀ (X:Cx),X.prog=P->X.w=w->X.K=K->X.calm=true->∀ (i:Nat) (pins:List (Addr × Obj)) (s:Shared) (σ : St) (H:Hp) (E:Value->Shared->Prop),Inv X pins σ H s->(∀ b ∈ fp,dc X pins H b)->tn i s.heap->J.go i H ->
  wpAny (model P w) X.A (pyNext (.ref it)) (fun r s1=>∃ u,r=some u /\
   wpAny (model P w) X.A (letOwnedTupleGo tg (.ref it) u) (fun _ s2=>∃ x H',Inv X pins σ H' s2/\RelV x u/\J.ie i H x H'/\tn (i+1) s2.heap/\∀ b ∈ fp,H' b=none) E s1) E s
 done:∀ (X:Cx),X.prog=P->X.w=w->X.K=K->X.calm=true->∀ (i:Nat) (pins:List (Addr × Obj)) (s:Shared) (σ : St) (H:Hp) (E:Value->Shared->Prop),Inv X pins σ H s->(∀ b ∈ fp,dc X pins H b)->tn i s.heap->J.stop i H ->
  wpAny (model P w) X.A (pyNext (.ref it)) (fun r s1=>r=none/\Inv X pins σ H s1) E s
 self:∀ (A:Around) (i:Nat) (s:Shared) (Q:Value->Shared->Prop) (E:Value->Shared->Prop),tn i s.heap->Q (.ref it) s->wpAny (model P w) A (pyIter (.ref it)) Q E s
abbrev TI:=St->Hp->(It->Hp->Prop)->Prop
def sm (X:Cx) (pins:List (Addr × Obj)) (σ : St) (tg:Expr) (R:It->Hp->Prop) (itv:Value) (s2:Shared):Prop :=
 ∃ (it:Addr) (fp:List Addr) (tn:Nat->Heap->Prop) (J:It) (H':Hp),itv=.ref it/\Inv X pins σ H' s2/\Turn X.prog X.w X.K tg J fp it tn/\tn 0 s2.heap/\(∀ b ∈ fp,dc X pins H' b)/\R J H'
def PI (X:Cx) (tg iter:Expr) (wi:TI):Prop :=
 ∀ (pins:List (Addr × Obj)) (s:Shared) (σ : St) (H:Hp) (R:It->Hp->Prop),Inv X pins σ H s->wi σ H R ->
  wpAny (model X.prog X.w) X.A (eval iter X.env) (fun v s1=>wpAny (model X.prog X.w) X.A (pyIter v) (sm X pins σ tg R) X.xe s1) X.xe s
theorem jP {M:Model} {A:Around} {E:Value->Shared->Prop} {s:Shared} {tg:Expr} {it:Addr} {u:Value} {o:Obj} {n:String} {vs:Array Value} {Q:Unit->Shared->Prop} (ho:s.heap.get? it=some o) (hc:o.cls=.type n) (hd:o.data=.fields vs)
    (hn:["enumerate", "zip", "dict_itemiterator", "dict_reverseitemiterator", "odict_iterator", "itertools.zip_longest", "itertools.pairwise"].contains n=false) (hQ:Q () s):wpAny M A (letOwnedTupleGo tg (.ref it) u) Q E s:=by
  unfold letOwnedTupleGo
  cases tg <;> first
    | exact wpAny_pure hQ
    | (cases u <;> first
        | exact wpAny_pure hQ
        | (refine wpAny_bind (wpAny_load ho ?_)
           rw [hc,hd]
           show wpAny M A (if (["enumerate", "zip", "dict_itemiterator", "dict_reverseitemiterator", "odict_iterator", "itertools.zip_longest", "itertools.pairwise"].contains n && vs[0]? == some (rawInt _))=true then _ else _) Q E s
           rw [if_neg (by intro h;rw [hn,Bool.false_and] at h;cases h)]
           exact wpAny_pure hQ))
def j3 (K:PySem.W.Frag) (a:Addr):It :=
 ⟨fun i H=>∃ xs x,au K H a xs/\xs[i]? = some x,fun i H x H'=>H' = H/\∀ xs,au K H a xs->xs[i]? = some x,fun i H=>∃ xs,au K H a xs/\xs.length<=i⟩
def lu (K:PySem.W.Frag) (a:Addr):It :=
 ⟨fun i H=>∃ xs x,aw K H a xs/\xs[i]? = some x,fun i H x H'=>H' = H/\∀ xs,aw K H a xs->xs[i]? = some x,fun i H=>∃ xs,aw K H a xs/\xs.length<=i⟩
def j4 (lo:Int) (n:Nat):It:=⟨fun i _=>i < n,fun i H x H'=>H' = H/\x=.int (lo+i),fun i _=>n<=i⟩
theorem mO {P:Program} {w:World} {K:PySem.W.Frag} {tg:Expr} (a it:Addr):Turn P w K tg (j3 K a) [it] it (fun i h=>h.IsListIter it a i) where
 mem:=by simp
 obj:=fun i h st b hb=>by
  have e:b=it:=by simpa using hb
  subst e
  obtain⟨o,e,c,d⟩:=st
  exact⟨o,e,fun v z=>by rw [d] at z;cases z⟩
 keep:=fun i h h' st k=>st.at fun o e=>k it (by simp) o e
 item:=by
  intro X hP hw hK hc i pins s σ H E I hf st hg
  subst hP hw hK
  obtain⟨xs,x,hq,hx⟩:=hg
  obtain⟨its,rv,p,hz⟩:=I.list hq
  obtain⟨u,hu,ru⟩:=rv.get hx
  obtain⟨f0,f1,f2,f3,f4,f5⟩:=hf it (by simp)
  refine wpAny_pyNext_list_item st p.isList (x:=u) (by simpa using hu) fun h' st' sb=>?_
  have I1:Inv X pins σ H { s with heap:=h' }:=I.turned (t':=s.toks) (fun b o hb e=>(sb.2 b hb).trans e) f0 f1 f3 f4 f5
  obtain⟨o,e,c,d⟩:=id st'
  exact⟨u,rfl,jP (s:={ s with heap:=h' }) e c d (by decide) ⟨x,H,I1,ru,⟨rfl,fun ys hy=>by rw [I.j1 hy hq];exact hx⟩,st',fun b hb=>(hf b hb).1⟩⟩
 done:=by
  intro X hP hw hK hc i pins s σ H E I hf st hg
  subst hP hw hK
  obtain⟨xs,hq,hx⟩:=hg
  obtain⟨its,rv,p,hz⟩:=I.list hq
  obtain⟨f0,f1,f2,f3,f4,f5⟩:=hf it (by simp)
  have hl:=rv.length
  exact wpAny_pyNext_list_end (I.ok.hd hc) st p.isList (by simp;omega) fun h' eb=>⟨rfl,I.turned (t':=s.toks) (fun b o hb e=>eb b o hb e) f0 f1 f3 f4 f5⟩
 self:=fun _ _ _ _ _ st h=>wpAny_pyIter_listiter st h
theorem lY {P:Program} {w:World} {K:PySem.W.Frag} {tg:Expr} (a it:Addr):Turn P w K tg (lu K a) [it] it (fun i h=>h.IsTupleIter it a i) where
 mem:=by simp
 obj:=fun i h st b hb=>by
  have e:b=it:=by simpa using hb
  subst e
  obtain⟨o,e,c,d⟩:=st
  exact⟨o,e,fun v z=>by rw [d] at z;cases z⟩
 keep:=fun i h h' st k=>st.at fun o e=>k it (by simp) o e
 item:=by
  intro X hP hw hK hc i pins s σ H E I hf st hg
  subst hP hw hK
  obtain⟨xs,x,hq,hx⟩:=hg
  obtain⟨its,rv,p,hz⟩:=I.tuple hq
  obtain⟨u,hu,ru⟩:=rv.get hx
  obtain⟨f0,f1,f2,f3,f4,f5⟩:=hf it (by simp)
  refine wpAny_pyNext_tuple_item st (show s.heap.IsTuple a its.toArray from p) (x:=u) (by simpa using hu) fun h' st' sb=>?_
  have I1:Inv X pins σ H { s with heap:=h' }:=I.turned (t':=s.toks) (fun b o hb e=>(sb.2 b hb).trans e) f0 f1 f3 f4 f5
  obtain⟨o,e,c,d⟩:=id st'
  exact⟨u,rfl,jP (s:={ s with heap:=h' }) e c d (by decide) ⟨x,H,I1,ru,⟨rfl,fun ys hy=>by rw [I.fB hy hq];exact hx⟩,st',fun b hb=>(hf b hb).1⟩⟩
 done:=by
  intro X hP hw hK hc i pins s σ H E I hf st hg
  subst hP hw hK
  obtain⟨xs,hq,hx⟩:=hg
  obtain⟨its,rv,p,hz⟩:=I.tuple hq
  obtain⟨f0,f1,f2,f3,f4,f5⟩:=hf it (by simp)
  have hl:=rv.length
  exact wpAny_pyNext_tuple_end (I.ok.hd hc) st (show s.heap.IsTuple a its.toArray from p) (by simp;omega) fun h' eb=>⟨rfl,I.turned (t':=s.toks) (fun b o hb e=>eb b o hb e) f0 f1 f3 f4 f5⟩
 self:=fun _ _ _ _ _ st h=>wpAny_pyIter_tupleiter st h
theorem lZ {P:Program} {w:World} {K:PySem.W.Frag} {tg:Expr} (it:Addr) (lo:Int) (n:Nat):Turn P w K tg (j4 lo n) [it] it (fun i h=>IsRangeIter h it (lo+(i:Nat) * 1) ((n:Int) - (i:Nat)) 1) where
 mem:=by simp
 obj:=fun i h st b hb=>by
  have e:b=it:=by simpa using hb
  subst e
  exact⟨_,st,fun v z=>by
   have z':Data.fields _=Data.cell v:=z
   cases z'⟩
 keep:=fun i h h' st k=>k it (by simp) _ st
 item:=by
  intro X hP hw hK hc i pins s σ H E I hf st hg
  subst hP hw hK
  obtain⟨f0,f1,f2,f3,f4,f5⟩:=hf it (by simp)
  have W:=Walks.range (prog:=X.prog) (w:=X.w) (I.ok.hd hc) it lo 1 n
  refine W.item i s _ _ hg st fun v h' tk hv st' kk=>?_
  obtain⟨t,rfl⟩:=hv
  have I1:Inv X pins σ H { s with heap:=h',toks:=tk }:=I.turned (fun b o hb e=>kk b o (by simpa using hb) e) f0 f1 f3 f4 f5
  refine⟨_,rfl,jP (s:={ s with heap:=h',toks:=tk }) (n := "range_iterator") st' rfl rfl (by decide) ⟨.int (lo+i),H,I1,⟨t,?_⟩,⟨rfl,rfl⟩,st',fun b hb=>(hf b hb).1⟩⟩
  rw [Int.mul_one]
 done:=by
  intro X hP hw hK hc i pins s σ H E I hf st hg
  subst hP hw hK
  obtain⟨f0,f1,f2,f3,f4,f5⟩:=hf it (by simp)
  exact wpAny_pyNext_range_end (I.ok.hd hc) st (by have:n<=i:=hg;omega) fun h' eb=>⟨rfl,I.turned (t':=s.toks) (fun b o hb e=>eb b o hb e) f0 f1 f3 f4 f5⟩
 self:=fun _ _ _ _ _ st h=>wpAny_pyIter_rangeiter st h
section
variable {X:Cx} {tg:Expr}
def oM (K:PySem.W.Frag) (tl:TE):TI:=fun σ H R=>tl σ H fun x H1=>∃ a,x=.ref a/\(∃ xs,au K H1 a xs)/\R (j3 K a) H1
def sQ (K:PySem.W.Frag) (tl:TE):TI:=fun σ H R=>tl σ H fun x H1=>∃ a,x=.ref a/\(∃ xs,aw K H1 a xs)/\R (lu K a) H1
theorem cB {l:Expr} {tl:TE} (hl:PE X l tl):PI X tg l (oM X.K tl):=by
 intro pins s σ H R I h
 refine aA (hl pins s σ H _ I h) fun v s1 ⟨x,H1,I1,r1,q1⟩=>?_
 obtain⟨a,e,⟨xs,hq⟩,q⟩:=q1
 subst e
 cases r1
 obtain⟨its,rv,p,hz⟩:=I1.list hq
 refine wpAny_pyIter_list p.isList ?_
 refine⟨s1.heap.objs.size,[s1.heap.objs.size],_,_,H1,rfl,I1.kept (t':=s1.toks) fun b o e=>Heap.get?_push_of_some _ e,mO a _,⟨_,Heap.get?_push_size _ rfl,rfl,rfl⟩,fun b hb=>?_,q⟩
 have e:b=s1.heap.objs.size:=by simpa using hb
 subst e
 exact I1.fG (Nat.le_refl _) (I1.av.fresh (Nat.le_refl _))
theorem fe {l:Expr} {tl:TE} (hl:PE X l tl):PI X tg l (sQ X.K tl):=by
 intro pins s σ H R I h
 refine aA (hl pins s σ H _ I h) fun v s1 ⟨x,H1,I1,r1,q1⟩=>?_
 obtain⟨a,e,⟨xs,hq⟩,q⟩:=q1
 subst e
 cases r1
 obtain⟨its,rv,p,hz⟩:=I1.tuple hq
 refine wpAny_pyIter_tuple (show s1.heap.IsTuple a its.toArray from p) ?_
 refine⟨s1.heap.objs.size,[s1.heap.objs.size],_,_,H1,rfl,I1.kept (t':=s1.toks) fun b o e=>Heap.get?_push_of_some _ e,lY a _,⟨_,Heap.get?_push_size _ rfl,rfl,rfl⟩,fun b hb=>?_,q⟩
 have e:b=s1.heap.objs.size:=by simpa using hb
 subst e
 exact I1.fG (Nat.le_refl _) (I1.av.fresh (Nat.le_refl _))
theorem nJ {pins:List (Addr × Obj)} {σ : St} {H:Hp} {s:Shared} {R:It->Hp->Prop} {E:Value->Shared->Prop} {lo hi:Int} {t u v:Tok} {tk:Nat} (I:Inv X pins σ H s) (h1:-(2 ^ 62)<=lo) (h2:lo < 2 ^ 62) (h3:-(2 ^ 62)<=hi) (h4:hi < 2 ^ 62)
  (q:R (j4 lo (hi - lo).toNat) H):wpAny (model X.prog X.w) X.A (pyIter (.ref s.heap.objs.size)) (sm X pins σ tg R) E { s with heap:=s.heap.push { cls:=.type "range",data:=.fields #[.int lo t,.int hi u,.int 1 v] },toks:=tk }:=by
 refine wpAny_pyIter_range (IsRange.new ..) (small_one h1 h2 h3 h4) ?_
 have I1:Inv X pins σ H { s with heap:=s.heap.push { cls:=.type "range",data:=.fields #[.int lo t,.int hi u,.int 1 v] },toks:=tk }:=I.kept fun b o e=>Heap.get?_push_of_some _ e
 refine⟨(s.heap.push { cls:=.type "range",data:=.fields #[.int lo t,.int hi u,.int 1 v] }).objs.size,[(s.heap.push { cls:=.type "range",data:=.fields #[.int lo t,.int hi u,.int 1 v] }).objs.size],_,_,H,rfl,
  I1.kept (t':=tk) fun b o e=>Heap.get?_push_of_some _ e,lZ _ lo (hi - lo).toNat,?_,fun b hb=>?_,q⟩
 ·have e1:lo+((0:Nat):Int) * 1=lo:=by simp
  have e2:(((hi - lo).toNat:Nat):Int) - ((0:Nat):Int)=Builtin.Range.rangeSize lo hi 1:=by rw [rangeSize_one];split <;> omega
  show IsRangeIter _ _ (lo+((0:Nat):Int) * 1) ((((hi - lo).toNat:Nat):Int) - ((0:Nat):Int)) 1
  rw [e1,e2]
  exact Heap.get?_push_size _ rfl
 ·have e:b=(s.heap.push { cls:=.type "range",data:=.fields #[.int lo t,.int hi u,.int 1 v] }).objs.size:=by simpa using hb
  subst e
  exact I1.fG (Nat.le_refl _) (I1.av.fresh (Nat.le_refl _))
def rM (ta:TA):TI:=fun σ H R=>ta σ H fun vs H1=>∃ j:Int,vs = [.int j]/\-(2 ^ 62)<=j/\j < 2 ^ 62/\R (j4 0 j.toNat) H1
theorem cH {a:Expr} {ta:TA} {p pos:Pos} (hg:Gl X "range") (hm:X.mg "range" = none) (ha:PA X [a] ta) (hs:starEach [a] X.env = [(false,eval a X.env)]:=by rfl):PI X tg (.Call (.Name "range" p) [a] [] pos) (rM ta):=by
 intro pins s σ H R I h
 refine Call_ (gM I hg hm boot_range (PyProof.Rows.callWith_type1 (aA (ha pos pins s σ H _ I h) fun us s1 ⟨vs,H1,I1,r1,q1⟩=>?_) hs rfl))
 obtain⟨j,e,q1,q2,q⟩:=q1
 subst e
 cases r1 with
 | cons r rr =>
  cases rr
  obtain⟨t,rfl⟩:=r
  exact call_range_1 (nJ I1 (by omega) (by omega) q1 q2 (by simpa using q))
def sR (wi:TI) (g:TG) (tb:TS):TS:=fun D σ H=>wi σ H fun J H1=>∃ W:Nat->Nat->St->Hp->Prop,(∃ m,W 0 m σ H1)/\∀ i m σ H,W i m σ H ->
 (J.stop i H/\D.nx σ H)\/(J.go i H/\∃ N:St->Hp->Prop,(∀ σ' H',N σ' H'->∃ m',m' < m/\W (i+1) m' σ' H')/\∀ x H',J.ie i H x H'->g x σ H' fun σ2 H2=>tb { D with nx:=N,ct:=N,bk:=D.nx } σ2 H2)
def eG (fp:List Addr) (h:Heap):List (Addr × Obj):=fp.filterMap fun b=>(h.get? b).map fun o=>(b,o)
theorem bG {fp:List Addr} {h:Heap} {b:Addr} {o:Obj} (hb:b ∈ fp) (e:h.get? b=some o):(b,o) ∈ eG fp h:=List.mem_filterMap.mpr ⟨b,hb,by rw [e];rfl⟩
theorem mP {fp:List Addr} {h:Heap} {p:Addr × Obj} (hp:p ∈ eG fp h):p.1 ∈ fp/\h.get? p.1=some p.2:=by
 obtain⟨b,hb,e⟩:=List.mem_filterMap.mp hp
 cases q:h.get? b with
 | none=>rw [q] at e;cases e
 | some o =>
  rw [q] at e
  have e':(b,o)=p:=Option.some.inj e
  subst e'
  exact⟨hb,q⟩
theorem Inv.pinned {pins:List (Addr × Obj)} {σ : St} {H:Hp} {s:Shared} {fp:List Addr} (I:Inv X pins σ H s) (hf:∀ b ∈ fp,dc X pins H b) (ho:∀ b ∈ fp,∃ o,s.heap.get? b=some o/\∀ v,o.data ≠ .cell v):Inv X (pins++eG fp s.heap) σ H s :=
 I.lp fun p hp=>(List.mem_append.mp hp).elim (fun z=>I.pin p (List.mem_append_right _ z)) fun z=>by
  obtain⟨hb,e⟩:=mP z
  obtain⟨f0,f1,f2,_⟩:=hf p.1 hb
  obtain⟨o,e',d⟩:=ho p.1 hb
  rw [e] at e';cases e'
  exact⟨e,f0,f1,f2,d⟩
theorem Inv.cf {pins pl:List (Addr × Obj)} {σ : St} {H:Hp} {s:Shared} (I:Inv X (pins++pl) σ H s):Inv X pins σ H s:=I.lp fun p hp=>I.pin p (List.mem_append_right _ (List.mem_append_left _ hp))
theorem dm {iter:Expr} {body:List Stmt} {wi:TI} {g:TG} {tb:TS} {pos:Pos} (hp:PassesOwn (model X.prog X.w) X.A X.env X.xe) (hc:X.calm=true) (hi:PI X tg iter wi) (hg:PG X tg g) (hb:fQ X body tb)
  (hs:∀ x,foldedSetIterable iter X.env x=pure x:=by intro _;rfl):PS X (.For tg iter body [] pos) (sR wi g tb):=by
 intro pins s σ H D I h
 refine wpAny_For (aA (hi pins s σ H _ I h) fun v s1 h1=>aA h1 fun itv s2 h2=>?_) hs
 obtain⟨it,fp,tn,J,H2,e,I2,T,st2,f2,W,⟨m0,w0⟩,turn⟩:=h2
 subst e
 have stat:∀ {H':Hp},(∀ b ∈ fp,H' b=none)->∀ b ∈ fp,dc X pins H' b:=fun hn b hb=>⟨hn b hb,(f2 b hb).2⟩
 refine codeAny_forLoop_any (fun n s'=>∃ i σ' H',Inv X pins σ' H' s'/\tn i s'.heap/\(∀ b ∈ fp,H' b=none)/\W i n σ' H') ?_ m0 ⟨0,σ,H2,I2,st2,fun b hb=>(f2 b hb).1,w0⟩
 rintro n s3 ⟨i,σ3,H3,I3,st3,fr3,w3⟩
 rcases turn i n σ3 H3 w3 with ⟨stop,qn⟩ | ⟨go,N,hN,step⟩
 ·refine wpAny_passesOwn hp (aA (T.done X rfl rfl rfl hc i pins s3 σ3 H3 X.xe I3 (stat fr3) st3 stop) fun r s4 ⟨hr,I4⟩=>?_)
  subst hr
  exact wpAny_execs_nil ⟨σ3,H3,I4,qn⟩
 ·refine wpAny_passesOwn hp (aA (T.item X rfl rfl rfl hc i pins s3 σ3 H3 X.xe I3 (stat fr3) st3 go) fun r s4 ⟨u,hr,h4⟩=>?_)
  subst hr
  refine wpAny_passesOwn hp (aA h4 fun _ s5 ⟨x,H5,I5,r5,y5,st5,fr5⟩=>?_)
  have I5':=I5.pinned (stat fr5) (T.obj _ _ st5)
  refine wpAny_passesOwn hp (aA (hg _ s5 σ3 H5 x u _ I5' r5 (step x H5 y5)) fun _ s6 ⟨σ6,H6,I6,q6⟩=>?_)
  refine wpAny_passesOwn hp (aA (hb _ s6 σ6 H6 _ I6 q6) fun f s7 q7=>?_)
  have again:∀ {σ7:St} {H7:Hp},Inv X (pins++eG fp s5.heap) σ7 H7 s7->N σ7 H7->∃ m,m < n/\∃ i σ' H',Inv X pins σ' H' s7/\tn i s7.heap/\(∀ b ∈ fp,H' b=none)/\W i m σ' H':=fun {σ7 H7} I7 n7=>by
   obtain⟨m',hm,w7⟩:=hN σ7 H7 n7
   refine⟨m',hm,i+1,σ7,H7,I7.cf,T.keep _ _ _ st5 fun b hb o e=>(I7.pin (b,o) (List.mem_append_right _ (List.mem_append_right _ (bG hb e)))).1,fun b hb=>?_,w7⟩
   obtain⟨o,e,d⟩:=T.obj _ _ st5 b hb
   exact (I7.pin (b,o) (List.mem_append_right _ (List.mem_append_right _ (bG hb e)))).2.1
  cases f with
  | next=>obtain⟨σ7,H7,I7,n7⟩:=q7;exact again I7 n7
  | cont=>obtain⟨σ7,H7,I7,n7⟩:=q7;exact again I7 n7
  | brk=>obtain⟨σ7,H7,I7,q7⟩:=q7;exact⟨σ7,H7,I7.cf,q7⟩
  | ret v=>obtain⟨x7,σ7,H7,I7,r7,q7⟩:=q7;exact⟨x7,σ7,H7,I7.cf,r7,q7⟩
end
theorem nK {K:PySem.W.Frag} {a:Addr} {xs:List V} {g:TG} {tb:TS} {D:Ends} {σ : St} {H:Hp} (Pv:Nat->St->Hp->Prop) (h0:Pv 0 σ H) (hl:∀ i σ H,i<=xs.length->Pv i σ H->au K H a xs)
  (hs:∀ i x σ H,xs[i]? = some x->Pv i σ H->g x σ H fun σ2 H2=>tb { D with nx:=Pv (i+1),ct:=Pv (i+1),bk:=D.nx } σ2 H2) (hd:∀ σ H,Pv xs.length σ H->D.nx σ H) :
  ∃ W:Nat->Nat->St->Hp->Prop,(∃ m,W 0 m σ H)/\∀ i m σ H,W i m σ H ->
   ((j3 K a).stop i H/\D.nx σ H)\/((j3 K a).go i H/\∃ N:St->Hp->Prop,(∀ σ' H',N σ' H'->∃ m',m' < m/\W (i+1) m' σ' H')/\∀ x H',(j3 K a).ie i H x H'->g x σ H' fun σ2 H2=>tb { D with nx:=N,ct:=N,bk:=D.nx } σ2 H2):=by
 refine⟨fun i m σ H=>m=xs.length - i/\i<=xs.length/\Pv i σ H,⟨xs.length,by simp,Nat.zero_le _,h0⟩,?_⟩
 rintro i m σ H ⟨rfl,hi,p⟩
 have q:=hl i σ H hi p
 by_cases hlt:i < xs.length
 ·refine .inr ⟨⟨xs,xs[i],q,by simp [hlt]⟩,Pv (i+1),fun σ' H' p'=>⟨xs.length - (i+1),by omega,rfl,hlt,p'⟩,fun x H' y=>?_⟩
  obtain⟨e,y⟩:=y
  subst e
  exact hs i x σ _ (y xs q) p
 ·have e:i=xs.length:=by omega
  subst e
  exact .inl ⟨⟨xs,q,Nat.le_refl _⟩,hd σ H p⟩
theorem hG {K:PySem.W.Frag} {a:Addr} {xs:List V} {g:TG} {tb:TS} {D:Ends} {σ : St} {H:Hp} (Pv:Nat->St->Hp->Prop) (h0:Pv 0 σ H) (hl:∀ i σ H,i<=xs.length->Pv i σ H->aw K H a xs)
  (hs:∀ i x σ H,xs[i]? = some x->Pv i σ H->g x σ H fun σ2 H2=>tb { D with nx:=Pv (i+1),ct:=Pv (i+1),bk:=D.nx } σ2 H2) (hd:∀ σ H,Pv xs.length σ H->D.nx σ H) :
  ∃ W:Nat->Nat->St->Hp->Prop,(∃ m,W 0 m σ H)/\∀ i m σ H,W i m σ H ->
   ((lu K a).stop i H/\D.nx σ H)\/((lu K a).go i H/\∃ N:St->Hp->Prop,(∀ σ' H',N σ' H'->∃ m',m' < m/\W (i+1) m' σ' H')/\∀ x H',(lu K a).ie i H x H'->g x σ H' fun σ2 H2=>tb { D with nx:=N,ct:=N,bk:=D.nx } σ2 H2):=by
 refine⟨fun i m σ H=>m=xs.length - i/\i<=xs.length/\Pv i σ H,⟨xs.length,by simp,Nat.zero_le _,h0⟩,?_⟩
 rintro i m σ H ⟨rfl,hi,p⟩
 have q:=hl i σ H hi p
 by_cases hlt:i < xs.length
 ·refine .inr ⟨⟨xs,xs[i],q,by simp [hlt]⟩,Pv (i+1),fun σ' H' p'=>⟨xs.length - (i+1),by omega,rfl,hlt,p'⟩,fun x H' y=>?_⟩
  obtain⟨e,y⟩:=y
  subst e
  exact hs i x σ _ (y xs q) p
 ·have e:i=xs.length:=by omega
  subst e
  exact .inl ⟨⟨xs,q,Nat.le_refl _⟩,hd σ H p⟩
theorem eI {lo:Int} {n:Nat} {g:TG} {tb:TS} {D:Ends} {σ : St} {H:Hp} (Pv:Nat->St->Hp->Prop) (h0:Pv 0 σ H)
  (hs:∀ i σ H,i < n->Pv i σ H->g (.int (lo+i)) σ H fun σ2 H2=>tb { D with nx:=Pv (i+1),ct:=Pv (i+1),bk:=D.nx } σ2 H2) (hd:∀ σ H,Pv n σ H->D.nx σ H) :
  ∃ W:Nat->Nat->St->Hp->Prop,(∃ m,W 0 m σ H)/\∀ i m σ H,W i m σ H ->
   ((j4 lo n).stop i H/\D.nx σ H)\/((j4 lo n).go i H/\∃ N:St->Hp->Prop,(∀ σ' H',N σ' H'->∃ m',m' < m/\W (i+1) m' σ' H')/\∀ x H',(j4 lo n).ie i H x H'->g x σ H' fun σ2 H2=>tb { D with nx:=N,ct:=N,bk:=D.nx } σ2 H2):=by
 refine⟨fun i m σ H=>m=n - i/\i<=n/\Pv i σ H,⟨n,by simp,Nat.zero_le _,h0⟩,?_⟩
 rintro i m σ H ⟨rfl,hi,p⟩
 by_cases hlt:i < n
 ·refine .inr ⟨hlt,Pv (i+1),fun σ' H' p'=>⟨n - (i+1),by omega,rfl,hlt,p'⟩,fun x H' y=>?_⟩
  obtain⟨e,y⟩:=y
  subst e y
  exact hs i σ _ hlt p
 ·have e:i=n:=by omega
  subst e
  exact .inl ⟨Nat.le_refl _,hd σ H p⟩
abbrev R2:=V->V->Hp->VK->Prop
def cI (X:Cx) (f:Value->Value->Sem Value) (r:R2):Prop :=
 ∀ (pins:List (Addr × Obj)) (s:Shared) (σ : St) (H:Hp) (x y:V) (v u:Value) (Q:VK),Inv X pins σ H s->RelV x v->RelV y u->r x y H Q ->
  wpAny (model X.prog X.w) X.A (f v u) (EP X pins σ Q) X.xe s
def qo (X:Cx) (f:Value->Sem Value) (r:V->Hp->VK->Prop):Prop :=
 ∀ (pins:List (Addr × Obj)) (s:Shared) (σ : St) (H:Hp) (x:V) (v:Value) (Q:VK),Inv X pins σ H s->RelV x v->r x H Q ->
  wpAny (model X.prog X.w) X.A (f v) (EP X pins σ Q) X.xe s
def eB (X:Cx) (f:Value) (r:List V->Hp->VK->Prop):Prop :=
 ∀ (pins:List (Addr × Obj)) (s:Shared) (σ : St) (H:Hp) (xs:List V) (us:List Value) (Q:VK),Inv X pins σ H s->Vals xs us->r xs H Q ->
  wpAny (model X.prog X.w) X.A (call f us) (EP X pins σ Q) X.xe s
def sS (X:Cx) (r:V->Hp->(Bool->Hp->Prop)->Prop):Prop :=
 ∀ (pins:List (Addr × Obj)) (s:Shared) (σ : St) (H:Hp) (x:V) (v:Value) (Q:Bool->Hp->Prop),Inv X pins σ H s->RelV x v->r x H Q ->
  wpAny (model X.prog X.w) X.A (truthy v) (TP X pins σ Q) X.xe s
def oO (r:R2) (ta tb:TE):TE:=fun σ H Q=>ta σ H fun x H1=>tb σ H1 fun y H2=>r x y H2 Q
def tM (r:V->Hp->VK->Prop) (ta:TE):TE:=fun σ H Q=>ta σ H fun x H1=>r x H1 Q
def rI (C:Int->Int->Prop) (g:Int->Int->V):R2:=fun x y H Q=>∃ i j,x=.int i/\y=.int j/\C i j/\Q (g i j) H
def lA (g:Int->Int->V):R2:=fun x y H Q=>∃ i j,x=.int i/\y=.int j/\Q (g i j) H
def rU (g:Int->V):V->Hp->VK->Prop:=fun x H Q=>∃ i,x=.int i/\Q (g i) H
section
variable {X:Cx} {a b c:Expr} {ta tb tc:TE} {pos:Pos}
theorem nL (ha:PE X a ta) (hb:PE X b tb) {pins:List (Addr × Obj)} {s:Shared} {σ : St} {H:Hp} {R:V->V->Hp->Prop} (I:Inv X pins σ H s)
  (h:ta σ H fun x H1=>tb σ H1 fun y H2=>R x y H2) {Q:Value->Shared->Prop} {f:Value->Value->Sem Value}
  (hf:∀ v u s2 x y H2,Inv X pins σ H2 s2->RelV x v->RelV y u->R x y H2->wpAny (model X.prog X.w) X.A (f v u) Q X.xe s2) :
  wpAny (model X.prog X.w) X.A (eval a X.env) (fun v s₁=>wpAny (model X.prog X.w) X.A (eval b X.env) (fun u s₂=>wpAny (model X.prog X.w) X.A (f v u) Q X.xe s₂) X.xe s₁) X.xe s:=by
 refine aA (ha pins s σ H _ I h) fun v s1 ⟨x,H1,I1,r1,q1⟩=>?_
 refine aA (hb pins s1 σ H1 _ I1 q1) fun u s2 ⟨y,H2,I2,r2,q2⟩=>?_
 exact hf v u s2 x y H2 I2 r1 r2 q2
theorem aF {op:Operator} {r:R2} (ho:cI X (binaryOp op) r) (ha:PE X a ta) (hb:PE X b tb):PE X (.BinOp a op b pos) (oO r ta tb):=by
 intro pins s σ H Q I h
 exact wpAny_BinOp (nL ha hb I h fun v u s2 x y H2 I2 rx ry q=>ho pins s2 σ H2 x y v u Q I2 rx ry q)
theorem rN {op:UnaryOp} {r:V->Hp->VK->Prop} (ho:qo X (unaryOp op) r) (ha:PE X a ta):PE X (.UnaryOp op a pos) (tM r ta):=by
 intro pins s σ H Q I h
 exact UnaryOp_ (aA (ha pins s σ H _ I h) fun v s1 ⟨x,H1,I1,r1,q1⟩=>ho pins s1 σ H1 x v Q I1 r1 q1)
theorem lB {f:Value->Value->Sem Value} {C:Int->Int->Prop} {g:Int->Int->Int}
  (rule:∀ (i j:Int) (t u:Tok) (s:Shared) (Q:Value->Shared->Prop) (E:Value->Shared->Prop),C i j->Q (.int (g i j) s.toks) { s with toks:=s.toks+1 }->wpAny (model X.prog X.w) X.A (f (.int i t) (.int j u)) Q E s) :
  cI X f (rI C fun i j=>.int (g i j)):=by
 intro pins s σ H x y v u Q I rx ry h
 obtain⟨i,j,rfl,rfl,hc,q⟩:=h
 obtain⟨t,rfl⟩:=rx
 obtain⟨t',rfl⟩:=ry
 exact rule i j t t' s _ _ hc ⟨.int (g i j),H,I.tok _,⟨_,rfl⟩,q⟩
theorem qp {f:Value->Value->Sem Value} {g:Int->Int->Int}
  (rule:∀ (i j:Int) (t u:Tok) (s:Shared) (Q:Value->Shared->Prop) (E:Value->Shared->Prop),Q (.int (g i j) s.toks) { s with toks:=s.toks+1 }->wpAny (model X.prog X.w) X.A (f (.int i t) (.int j u)) Q E s) :
  cI X f (lA fun i j=>.int (g i j)):=by
 intro pins s σ H x y v u Q I rx ry h
 obtain⟨i,j,rfl,rfl,q⟩:=h
 obtain⟨t,rfl⟩:=rx
 obtain⟨t',rfl⟩:=ry
 exact rule i j t t' s _ _ ⟨.int (g i j),H,I.tok _,⟨_,rfl⟩,q⟩
theorem qq {f:Value->Value->Sem Value} {g:Int->Int->Bool}
  (rule:∀ (i j:Int) (t u:Tok) (s:Shared) (Q:Value->Shared->Prop) (E:Value->Shared->Prop),Q (.bool (g i j)) s->wpAny (model X.prog X.w) X.A (f (.int i t) (.int j u)) Q E s) :
  cI X f (lA fun i j=>.bl (g i j)):=by
 intro pins s σ H x y v u Q I rx ry h
 obtain⟨i,j,rfl,rfl,q⟩:=h
 obtain⟨t,rfl⟩:=rx
 obtain⟨t',rfl⟩:=ry
 exact rule i j t t' s _ _ ⟨.bl (g i j),H,I,rfl,q⟩
def sT (i j:Int):Prop:=0 < j/\j < 1073741824
def sU (i j:Int):Prop:=0<=j/\j<=1000000/\i.natAbs < 2 ^ 64
def nM (i j:Int):Prop:=(-(2 ^ 64) < i/\i < 2 ^ 64)\/(-(2 ^ 64) < j/\j < 2 ^ 64)
theorem nM.ok {i j:Int} (h:nM i j):IntMulOk i j:=by
 rcases h with ⟨h1,h2⟩ | ⟨h1,h2⟩
 ·exact .of_left (intBits_le_64 h1 h2)
 ·exact .of_right (intBits_le_64 h1 h2)
theorem cC:cI X (binaryOp .Add) (lA fun i j=>.int (i+j)):=qp fun _ _ _ _ _ _ _ q=>add_int q
theorem gN:cI X (binaryOp .Sub) (lA fun i j=>.int (i - j)):=qp fun _ _ _ _ _ _ _ q=>sub_int q
theorem ff:cI X (binaryOp .Mult) (rI nM fun i j=>.int (i * j)):=lB fun _ _ _ _ _ _ _ hc q=>mul_int q hc.ok
theorem i9:cI X (binaryOp .FloorDiv) (rI sT fun i j=>.int (i / j)):=lB fun i j _ _ _ _ _ hc q=>by
 have h1:(0:Int) < j:=hc.1
 have h2:j < 1073741824:=hc.2
 exact floordiv_int (by omega) (by rw [Int.fdiv_eq_ediv_of_nonneg i (by omega)];exact q) (.inl (PyProof.noPylong_small (by omega)))
theorem d0:cI X (binaryOp .Mod) (rI (fun _ j=>0 < j) fun i j=>.int (i % j)):=lB fun i j _ _ _ _ _ hc q=>by
 have h1:(0:Int) < j:=hc
 exact mod_int' (by omega) (by rw [Int.fmod_eq_emod_of_nonneg i (by omega)];exact q)
theorem iL:cI X (binaryOp .Pow) (rI sU fun i j=>.int (i ^ j.toNat)):=lB fun _ _ _ _ _ _ _ hc q=>pow_int_small hc.1 hc.2.1 hc.2.2 q
theorem tN {f:Value->Sem Value} {g:Int->Int}
  (rule:∀ (i:Int) (t:Tok) (s:Shared) (Q:Value->Shared->Prop) (E:Value->Shared->Prop),Q (.int (g i) s.toks) { s with toks:=s.toks+1 }->wpAny (model X.prog X.w) X.A (f (.int i t)) Q E s) :
  qo X f (rU fun i=>.int (g i)):=by
 intro pins s σ H x v Q I rx h
 obtain⟨i,rfl,q⟩:=h
 obtain⟨t,rfl⟩:=rx
 exact rule i t s _ _ ⟨.int (g i),H,I.tok _,⟨_,rfl⟩,q⟩
theorem qr:qo X (unaryOp .USub) (rU fun i=>.int (-i)):=tN fun _ _ _ _ _ q=>neg_int q
end
def qt:V->V->Bool
 | .aY,.aY=>true | .aY,.int _=>true | .int _,.aY=>true | .aY,.bl _=>true | .bl _,.aY=>true | .aY,.str _=>true | .str _,.aY=>true
 | .int _,.int _=>true | .bl _,.bl _=>true | .str _,.str _=>true | .fA _,.fA _=>true
 | .int _,.str _=>true | .str _,.int _=>true | .bl _,.str _=>true | .str _,.bl _=>true
 | _,_=>false
def tO:R2:=fun x y H Q=>qt x y=true/\Q (.bl (decide (x=y))) H
def tP:R2:=fun x y H Q=>qt x y=true/\Q (.bl (!decide (x=y))) H
theorem lC {i j:Int}:decide (V.int i=V.int j)=(i == j):=by
 rw [Bool.eq_iff_iff]
 simp
theorem mQ {i j:Bool}:decide (V.bl i=V.bl j)=(i == j):=by
 rw [Bool.eq_iff_iff]
 simp
theorem lD {i j:Str}:decide (V.str i=V.str j)=(i == j):=by
 rw [Bool.eq_iff_iff]
 simp
theorem lF {i j:Array UInt8}:decide (V.fA i=V.fA j)=(i.toList == j.toList):=by
 rw [Bool.eq_iff_iff]
 cases i
 cases j
 simp
section
variable {X:Cx} {a b c:Expr} {ta tb tc:TE} {pos:Pos}
theorem aL {pins:List (Addr × Obj)} {σ : St} {H:Hp} {s:Shared} {Q:VK} {k k':Bool} (I:Inv X pins σ H s) (q:Q (.bl k) H) (e:k=k'):EP X pins σ Q (.bool k') s:=by
 subst e
 exact⟨.bl k,H,I,rfl,q⟩
theorem cL:cI X (compareOp .Eq) tO:=by
 intro pins s σ H x y v u Q I rx ry h
 obtain⟨hs,q⟩:=h
 cases x with
 | aY =>
  cases rx
  cases y with
  | aY=>cases ry;exact PySem.EqNone.eq_none_none (aL I q (by simp))
  | bl j=>cases ry;exact PySem.EqNone.eq_none_bool (aL I q (by simp))
  | int j=>obtain⟨t',rfl⟩:=ry;exact PySem.EqNone.eq_none_int (aL I q (by simp))
  | str j=>obtain⟨t',rfl⟩:=ry;exact PySem.EqNone.eq_none_str (aL I q (by simp))
  | _=>exact absurd (show false=true from hs) Bool.false_ne_true
 | bl i =>
  cases rx
  cases y with
  | aY=>cases ry;exact PySem.EqNone.eq_bool_none (aL I q (by simp))
  | bl j=>cases ry;exact eq_bool (aL I q mQ)
  | str j=>obtain⟨t',rfl⟩:=ry;exact PySem.EqMixed.eq_bool_str (aL I q (by simp))
  | _=>exact absurd (show false=true from hs) Bool.false_ne_true
 | int i =>
  obtain⟨t,rfl⟩:=rx
  cases y with
  | aY=>cases ry;exact PySem.EqNone.eq_int_none (aL I q (by simp))
  | int j=>obtain⟨t',rfl⟩:=ry;exact eq_int (aL I q lC)
  | str j=>obtain⟨t',rfl⟩:=ry;exact PySem.EqMixed.eq_int_str (aL I q (by simp))
  | _=>exact absurd (show false=true from hs) Bool.false_ne_true
 | str i =>
  obtain⟨t,rfl⟩:=rx
  cases y with
  | aY=>cases ry;exact PySem.EqNone.eq_str_none (aL I q (by simp))
  | bl j=>cases ry;exact PySem.EqMixed.eq_str_bool (aL I q (by simp))
  | int j=>obtain⟨t',rfl⟩:=ry;exact PySem.EqMixed.eq_str_int (aL I q (by simp))
  | str j=>obtain⟨t',rfl⟩:=ry;exact eq_str (aL I q lD)
  | _=>exact absurd (show false=true from hs) Bool.false_ne_true
 | fA i =>
  obtain⟨t,rfl⟩:=rx
  cases y with
  | fA j=>obtain⟨t',rfl⟩:=ry;exact PySem.W.eq_bytes (aL I q lF)
  | _=>exact absurd (show false=true from hs) Bool.false_ne_true
 | _=>cases y <;> exact absurd (show false=true from hs) Bool.false_ne_true
theorem ma:cI X (compareOp .NotEq) tP:=by
 intro pins s σ H x y v u Q I rx ry h
 obtain⟨hs,q⟩:=h
 cases x with
 | aY =>
  cases rx
  cases y with
  | aY=>cases ry;exact PySem.EqNone.ne_none_none (aL I q (by simp))
  | bl j=>cases ry;exact PySem.EqNone.ne_none_bool (aL I q (by simp))
  | int j=>obtain⟨t',rfl⟩:=ry;exact PySem.EqNone.ne_none_int (aL I q (by simp))
  | str j=>obtain⟨t',rfl⟩:=ry;exact PySem.EqNone.ne_none_str (aL I q (by simp))
  | _=>exact absurd (show false=true from hs) Bool.false_ne_true
 | bl i =>
  cases rx
  cases y with
  | aY=>cases ry;exact PySem.EqNone.ne_bool_none (aL I q (by simp))
  | bl j=>cases ry;exact ne_bool (aL I q (congrArg not mQ))
  | str j=>obtain⟨t',rfl⟩:=ry;exact PySem.EqMixed.ne_bool_str (aL I q (by simp))
  | _=>exact absurd (show false=true from hs) Bool.false_ne_true
 | int i =>
  obtain⟨t,rfl⟩:=rx
  cases y with
  | aY=>cases ry;exact PySem.EqNone.ne_int_none (aL I q (by simp))
  | int j=>obtain⟨t',rfl⟩:=ry;exact ne_int (aL I q (congrArg not lC))
  | str j=>obtain⟨t',rfl⟩:=ry;exact PySem.EqMixed.ne_int_str (aL I q (by simp))
  | _=>exact absurd (show false=true from hs) Bool.false_ne_true
 | str i =>
  obtain⟨t,rfl⟩:=rx
  cases y with
  | aY=>cases ry;exact PySem.EqNone.ne_str_none (aL I q (by simp))
  | bl j=>cases ry;exact PySem.EqMixed.ne_str_bool (aL I q (by simp))
  | int j=>obtain⟨t',rfl⟩:=ry;exact PySem.EqMixed.ne_str_int (aL I q (by simp))
  | str j=>obtain⟨t',rfl⟩:=ry;exact ne_str (aL I q (congrArg not lD))
  | _=>exact absurd (show false=true from hs) Bool.false_ne_true
 | fA i =>
  obtain⟨t,rfl⟩:=rx
  cases y with
  | fA j=>obtain⟨t',rfl⟩:=ry;exact PySem.W.ne_bytes (aL I q (congrArg not lF))
  | _=>exact absurd (show false=true from hs) Bool.false_ne_true
 | _=>cases y <;> exact absurd (show false=true from hs) Bool.false_ne_true
theorem md:cI X (compareOp .Lt) (lA fun i j=>.bl (decide (i < j))):=qq fun _ _ _ _ _ _ _ q=>lt_int q
theorem rO:cI X (compareOp .Gt) (lA fun i j=>.bl (decide (j < i))):=qq fun _ _ _ _ _ _ _ q=>gt_int q
theorem ba (b:Expr) {op:CmpOp} (h:op ≠ .In:=by decide) (h2:op ≠ .NotIn:=by decide):behindInMarks op b=false:=by
 have e1:(op == CmpOp.In)=false:=by cases op <;> first | rfl | exact absurd rfl h
 have e2:(op == CmpOp.NotIn)=false:=by cases op <;> first | rfl | exact absurd rfl h2
 cases b <;> simp [behindInMarks,e1,e2]
theorem lG {op:CmpOp} {r:R2} (ho:cI X (compareOp op) r) (ha:PE X a ta) (hb:PE X b tb) (hm:behindInMarks op b=false):PE X (.Compare a [op] [b] pos) (oO r ta tb):=by
 intro pins s σ H Q I h
 exact wpAny_Compare1 (nL ha hb I h fun v u s2 x y H2 I2 rx ry q=>ho pins s2 σ H2 x y v u Q I2 rx ry q) hm
def rP (t:TE):TT:=fun σ H Q=>t σ H fun x H'=>∃ k,x=.bl k/\Q k H'
theorem aI {op:CmpOp} {r:R2} (ho:cI X (compareOp op) r) (ha:PE X a ta) (hb:PE X b tb) (hm:behindInMarks op b=false):PT X (.Compare a [op] [b] pos) (rP (oO r ta tb)):=by
 intro pins s σ H Q I h
 refine wpAny_isTrue_Compare1 (aA (ha pins s σ H _ I h) fun v s1 ⟨x,H1,I1,r1,q1⟩=>aA (hb pins s1 σ H1 _ I1 q1) fun u s2 ⟨y,H2,I2,r2,q2⟩ =>
  aA (ho pins s2 σ H2 x y v u _ I2 r1 r2 q2) fun c s3 ⟨z,H3,I3,r3,k,e,q3⟩=>?_) hm
 subst e
 cases r3
 exact wpAny_truthy_bool ⟨H3,I3,q3⟩
def qu (K:PySem.W.Frag) (x:V) (H:Hp) (k:Bool):Prop :=
 match x with
 | .aY=>k=false
 | .bl b=>k=b
 | .int i=>k=(i != 0)
 | .str y=>y.length<=sizeLine/\k=((y.length:Int) != 0)
 | .fA y=>y.size<=sizeLine/\k=((y.size:Int) != 0)
 | .ref p=>(∃ xs,au K H p xs/\k = !xs.isEmpty)\/(∃ xs,aw K H p xs/\k = !xs.isEmpty)\/∃ kvs,H p=some (.dK kvs)/\k = !kvs.isEmpty
 | _=>False
theorem me {κ : Type} {kvs:List (κ × V)} {vs:List (κ × Value)} (r:KV kvs vs):(!vs.isEmpty) = !kvs.isEmpty:=by
 cases r <;> rfl
theorem iM {xs:List V} {its:List Value} (r:Vals xs its):(!its.toArray.isEmpty) = !xs.isEmpty:=by
 cases r <;> simp
theorem fR:(sizeLine:Nat) < 2 ^ 63:=by rw [sizeLine_eq];decide
theorem qv:sS X (fun x H Q=>∃ k,qu X.K x H k/\Q k H):=by
 intro pins s σ H x v Q I rx h
 obtain⟨k,e,q⟩:=h
 have hl:=fR
 have hs:sizeLine=16777216:=sizeLine_eq
 cases x with
 | aY =>
  cases rx
  have e':k=false:=e
  subst e'
  exact truthy_none ⟨H,I,q⟩
 | bl b =>
  cases rx
  have e':k=b:=e
  subst e'
  exact wpAny_truthy_bool ⟨H,I,q⟩
 | int i =>
  obtain⟨t,rfl⟩:=rx
  have e':k=(i != 0):=e
  subst e'
  exact PySem.P.truthy_int ⟨H,I,q⟩
 | str y =>
  obtain⟨t,rfl⟩:=rx
  obtain⟨hy,e'⟩:y.length<=sizeLine/\k=((y.length:Int) != 0):=e
  subst e'
  exact PySem.P.truthy_str (by omega) ⟨H,I.tok _,q⟩
 | fA y =>
  obtain⟨t,rfl⟩:=rx
  obtain⟨hy,e'⟩:y.size<=sizeLine/\k=((y.size:Int) != 0):=e
  subst e'
  exact PySem.W.truthy_bytes (by omega) ⟨H,I.tok _,q⟩
 | ref p =>
  cases rx
  have e':(∃ xs,au X.K H p xs/\k = !xs.isEmpty)\/(∃ xs,aw X.K H p xs/\k = !xs.isEmpty)\/∃ kvs,H p=some (.dK kvs)/\k = !kvs.isEmpty:=e
  rcases e' with ⟨xs,hx,e'⟩ | ⟨xs,hx,e'⟩ | ⟨kvs,hx,e'⟩
  ·subst e'
   obtain⟨its,r,pl,hz⟩:=I.list hx
   have hlen:=r.length
   exact wpAny_truthy_list pl.isList (by simp only [List.size_toArray];omega) ⟨H,I.tok _,by rw [iM r];exact q⟩
  ·subst e'
   obtain⟨its,r,pl,hz⟩:=I.tuple hx
   have hlen:=r.length
   exact truthy_tuple pl (by simp only [List.size_toArray];omega) ⟨H,I.tok _,by rw [iM r];exact q⟩
  ·subst e'
   obtain⟨hz,hS,vs,r,m⟩:kvs.length<=sizeLine/\(p == sysModules)=false/\∃ vs,KV kvs vs/\s.heap.DictOf (aJ X.prog X.w) p vs:=I.av p _ hx
   have hlen:kvs.length=vs.length:=Paired.length r
   exact wpAny_truthy_dict hS m (by omega) ⟨H,I.tok _,by rw [me r];exact q⟩
 | _=>exact (show False from e).elim
theorem nN (ha:PE X a ta) (he:∀ whole,isTrue a X.env whole=(do let v <-whole;standAt a.pos;holding [v] (truthy v))) :
  PT X a (fun σ H Q=>ta σ H fun x H'=>∃ k,qu X.K x H' k/\Q k H'):=by
 intro pins s σ H Q I h
 exact isTrue_plain (aA (ha pins s σ H _ I h) fun v s1 ⟨x,H1,I1,r1,q1⟩=>qv pins s1 σ H1 x v Q I1 r1 q1) (he _)
theorem mf:cI X (binaryOp .Add) (fun x y H Q=>∃ i j,x=.str i/\y=.str j/\i.length+j.length<=sizeLine/\Q (.str (i++j)) H):=by
 intro pins s σ H x y v u Q I rx ry h
 obtain⟨i,j,rfl,rfl,hz,q⟩:=h
 obtain⟨t,rfl⟩:=rx
 obtain⟨t',rfl⟩:=ry
 exact add_str (fun t' tk=>⟨.str (i++j),H,I.tok _,⟨_,rfl⟩,q⟩) hz
theorem vals1 {x:V} {us:List Value} (r:Vals [x] us):∃ u,us = [u]/\RelV x u:=by
 cases r with
 | cons r1 r2=>cases r2;exact⟨_,rfl,r1⟩
theorem vals2 {x y:V} {us:List Value} (r:Vals [x,y] us):∃ u w',us = [u,w']/\RelV x u/\RelV y w':=by
 cases r with
 | cons r1 r2 =>
  cases r2 with
  | cons r3 r4=>cases r4;exact⟨_,_,rfl,r1,r3⟩
theorem mR (hc:X.calm=true):eB X (.builtin "min") (fun xs H Q=>∃ i j,xs = [.int i,.int j]/\Q (.int (if j < i then j else i)) H):=by
 intro pins s σ H xs us Q I r h
 obtain⟨i,j,rfl,q⟩:=h
 obtain⟨u,w',rfl,⟨t,rfl⟩,⟨t',rfl⟩⟩:=vals2 r
 refine min_two_ints (I.ok.hd hc) fun h' tk k=>⟨_,H,I.kept k,?_,q⟩
 by_cases hj:j < i
 ·rw [if_pos hj,if_pos hj];exact⟨_,rfl⟩
 ·rw [if_neg hj,if_neg hj];exact⟨_,rfl⟩
theorem jv:eB X (.type "int") (fun xs H Q=>(∃ i,xs = [.int i]/\Q (.int i) H)\/∃ k,xs = [.bl k]/\Q (.int (if k then 1 else 0)) H):=by
 intro pins s σ H xs us Q I r h
 rcases h with ⟨i,rfl,q⟩ | ⟨k,rfl,q⟩
 ·obtain⟨u,rfl,t,rfl⟩:=vals1 r
  exact call_int_int ⟨.int i,H,I,⟨_,rfl⟩,q⟩
 ·obtain⟨u,rfl,r1⟩:=vals1 r
  cases r1
  exact call_int_bool ⟨.int (if k then 1 else 0),H,I.tok _,⟨_,rfl⟩,q⟩
end
section
variable {prog:Program} {w:World} {A:Around} {E:Value->Shared->Prop} {s:Shared} {K:PySem.W.Frag} {x dx C f:Addr} {mA:Str->Option Value} {name:Str} {v:Value}
end
section
variable {P:Program} {w:World} {H H':Hp} {h h':Heap} {a C dx:Addr} {fs fs':List (Str × V)}
end
section
variable {X:Cx} {pins:List (Addr × Obj)} {σ : St} {H:Hp} {s:Shared} {a C dx:Addr} {fs:List (Str × V)} {f:Str} {v:V} {A:Around} {E:Value->Shared->Prop}
end
section
variable {X:Cx} {o e value:Expr} {f:Str} {pos pos' tpos:Pos} {ta tv:TE}
end
section
variable {X:Cx} {pins:List (Addr × Obj)} {σ : St} {H:Hp} {s:Shared} {A:Around} {E:Value->Shared->Prop} {Q:Value->Shared->Prop} {c:Value} {b:Bool}
end
structure cM (k:Nat) (A:Around):Prop where
 hd:A.handled=none
 dp:A.depth+3 * k+5 < recursionLimit
 un:A.units+16 * k+200 < cLine
theorem cM.mono {j k:Nat} {A:Around} (r:cM k A) (h:j<=k):cM j A:=⟨r.hd,by have:=r.dp;omega,by have:=r.un;omega⟩
theorem cM.deeper {k:Nat} {A:Around} (r:cM (k+1) A) (env:Env):cM k (A.deeper env) :=
 ⟨r.hd,by have:=r.dp;show A.depth+1+3 * k+5 < _;omega,by have:=r.un;show A.units+3+16 * k+200 < _;omega⟩
theorem cM.depth {k:Nat} {A:Around} (r:cM k A):A.depth < recursionLimit:=by have:=r.dp;omega
theorem cM.units {k:Nat} {A:Around} (r:cM k A):A.units+64 < cLine:=by have:=r.un;omega
def sV:TA:=fun _ H Q=>Q [] H
def rQ (ta:TE) (tr:TA):TA:=fun σ H Q=>ta σ H fun x H1=>tr σ H1 fun xs H2=>Q (x :: xs) H2
section
variable {X:Cx} {e:Expr} {es:List Expr} {te:TE} {t:TA} {pos:Pos}
theorem ab:PA X [] sV:=fun _ _ _ _ H Q I h=>Calls.spliced_nil ⟨[],H,I,.nil,h⟩
theorem U (ha:PE X e te) (hr:PA X es t) (hs:starEach (e :: es) X.env=(false,eval e X.env) :: starEach es X.env:=by rfl):PA X (e :: es) (rQ te t):=by
 intro pos pins s σ H Q I h
 rw [hs]
 show wpAny _ _ (spliced ((false,eval e X.env) :: backTo pos (starEach es X.env))) _ _ s
 refine Calls.spliced_cons (aA (ha pins s σ H _ I h) fun u s1 ⟨x,H1,I1,r1,q1⟩=>?_)
 exact aA (hr pos pins s1 σ H1 _ I1 q1) fun us s2 ⟨xs,H2,I2,r2,q2⟩=>⟨x :: xs,H2,I2,.cons r1 r2,q2⟩
def sW (t:TA):TE:=fun σ H Q=>t σ H fun xs H1=>xs.length<=sizeLine/\∀ p,H1 p=none->Q (.ref p) (upd H1 p (.tup xs))
def sX (t:TA):TE:=fun σ H Q=>t σ H fun xs H1=>xs.length<=sizeLine/\∀ p,H1 p=none->Q (.ref p) (upd H1 p (.lst xs))
theorem cD {x1} (h:PA X es t):PE X (.Tuple es x1 pos) (sW t):=by
 intro pins s σ H Q I hq
 refine wpAny_Tuple_spliced (aA (h pos pins s σ H _ I hq) fun us s1 ⟨xs,H1,I1,r,z,q⟩=>⟨by rw [<-r.length];exact z,?_⟩)
 have hf:H1 s1.heap.objs.size=none:=I1.av.fresh (Nat.le_refl _)
 refine⟨.ref s1.heap.objs.size,upd H1 s1.heap.objs.size (.tup xs),I1.laid (t':=s1.toks) (fun b u e=>Heap.get?_push_of_some _ e) (Nat.le_refl _) ?_,rfl,q _ hf⟩
 exact⟨z,us,r,⟨_,Heap.get?_push_size _ rfl,rfl,_,rfl,rfl⟩⟩
theorem bu (h:PA X es t):PE X (.List es pos) (sX t):=by
 intro pins s σ H Q I hq
 refine wpAny_List_spliced (aA (h pos pins s σ H _ I hq) fun us s1 ⟨xs,H1,I1,r,z,q⟩=>⟨by rw [<-r.length];exact z,?_⟩)
 have hf:H1 s1.heap.objs.size=none:=I1.av.fresh (Nat.le_refl _)
 refine⟨.ref s1.heap.objs.size,upd H1 s1.heap.objs.size (.lst xs),I1.laid (t':=s1.toks) (fun b u e=>Heap.get?_push_of_some _ e) (Nat.le_refl _) ?_,rfl,q _ hf⟩
 exact⟨z,us,0,r,Heap.get?_push_size _ rfl⟩
end
abbrev Sp:=List V->Hp->VK->XK->Prop
abbrev gO:=List Env->Hp->Shared->XK->Value->Shared->Prop
structure mh (P:Program) (w:World) (K:PySem.W.Frag) (mg:Str->Option Value) (base:Heap) (A:Around) (outer:List Env) (s:Shared) (H:Hp):Prop where
 frames:A.frames=some outer
 mod:Mod K mg base
 bs:∀ b o,base.get? b=some o->s.heap.get? b=some o/\H b=none
 jt:base.objs.size<=s.heap.objs.size
 fb:s.heap.FunFrames base outer
 lj:∀ b ∈ gK outer,H b=none
 av:cc P w H s.heap
 bare:AllBare s.gens
def CE (outer:List Env) (P:Program) (w:World) (H:Hp) (s:Shared) (Q:VK) (u:Value) (s':Shared):Prop :=
 ∃ v H',s'.os=s.os/\AllBare s'.gens/\Un (gK outer) [] H H' s.heap s'.heap/\cc P w H' s'.heap/\RelV v u/\Q v H'
def CR (CX:gO) (outer:List Env) (P:Program) (w:World) (H:Hp) (s:Shared) (Q:VK) (E:XK) (r:Result) (s':Shared):Prop :=
 match r with
 | .ok (.ret u)=>CE outer P w H s Q u s'
 | .ok _=>False
 | .error e=>CX outer H s E e s'
structure bC (P:Program) (w:World) (K:PySem.W.Frag) (mg:Str->Option Value) (base:Heap) (CX:gO) (k:Nat) (f:Addr) (fd:FuncData) (ps:List Str) (sp:Sp):Prop where
 len:∀ vs H Q E,sp vs H Q E->vs.length=ps.length
 run:∀ (A:Around) (outer:List Env) (s:Shared) (H:Hp) (args:Args) (us:List Value) (vs:List V) (Q:VK) (E:XK),cM k A->mh P w K mg base A outer s H->BindsTo s fd args (ps.zip us)->Vals vs us->sp vs H Q E ->
  codeAny (model P w) A (.call (.ref f) args) (CR CX outer P w H s Q E) s
section
variable {X:Cx} {pins:List (Addr × Obj)} {σ : St} {H:Hp} {s s':Shared}
theorem Inv.sY (I:Inv X pins σ H s):mh X.prog X.w X.K X.mg X.base X.A X.stack s H :=
 ⟨I.ok.frames,I.ok.mod,I.bs,Nat.le_trans I.ok.jt I.sz,I.stack,I.ll,I.av,I.bare⟩
theorem Inv.after {Q:VK} {u:Value} (I:Inv X pins σ H s) (h:CE X.stack X.prog X.w H s Q u s'):EP X pins σ Q u s':=by
 obtain⟨v,H',os,bare,un,av,r,q⟩:=h
 obtain⟨hh,g,d,t,os'⟩:=s'
 obtain rfl:os' = s.os:=os
 exact⟨v,H',I.call (h':=hh) (g':=g) (d':=d) (t':=t) (ch:=[]) un av bare (fun b z=>absurd z (by simp)),r,q⟩
end
def oP (sp:Sp) (dvs:List V) (E:XK) (t:TA):TE:=fun σ H Q=>t σ H fun vs H1=>sp (vs++dvs) H1 Q E
def Binds (K:PySem.W.Frag) (fd:FuncData) (ps:List Str) (ds:List Value):Prop :=
 ∀ (s:Shared) (us:List Value),K.In s.heap->(us++ds).length=ps.length->BindsTo s fd ⟨us,[]⟩ (ps.zip (us++ds))
theorem Binds.all {K:PySem.W.Frag} {fd:FuncData} {ps:List Str} (h:∀ us:List Value,us.length=ps.length->bindArgs fd ⟨us,[]⟩=pure (ps.zip us)):Binds K fd ps []:=fun s us _ hl=>by
 rw [List.append_nil] at hl ⊢
 exact .of_eq (h us hl)
def Passes (CX:gO) (X:Cx) (E:XK):Prop:=∀ (pins:List (Addr × Obj)) (σ : St) (H:Hp) (s:Shared) (e:Value) (s':Shared),Inv X pins σ H s->CX X.stack H s E e s'->X.xe e s'
section
variable {X:Cx} {CX:gO} {k:Nat} {f C:Addr} {fd:FuncData} {ps:List Str} {sp:Sp} {dvs:List V} {ds:List Value} {E:XK} {x m:Str} {p pos apos:Pos} {e o:Expr} {es:List Expr} {ta:TE} {t:TA}
theorem qw {pins:List (Addr × Obj)} {σ : St} {H:Hp} {s:Shared} {Q:VK} {us:List Value} {vs:List V} (F:bC X.prog X.w X.K X.mg X.base CX k f fd ps sp) (hr:cM k X.A) (hb:Binds X.K fd ps ds) (hd:Vals dvs ds) (hx:Passes CX X E)
  (I:Inv X pins σ H s) (r:Vals vs us) (h:sp (vs++dvs) H Q E):wpAny (model X.prog X.w) X.A (call (.ref f) us) (EP X pins σ Q) X.xe s:=by
 have r2:Vals (vs++dvs) (us++ds):=r.append hd
 have hl:(us++ds).length=ps.length:=by rw [<-r2.length];exact F.len _ _ _ _ h
 refine wpAny_call (codeAny_mono (F.run X.A X.stack s H ⟨us,[]⟩ (us++ds) (vs++dvs) Q E hr I.sY (hb s us I.jW hl) r2 h) fun r s' hq=>?_)
 cases r with
 | error e=>exact hx pins σ H s e s' I hq
 | ok fl =>
  cases fl with
  | ret u=>exact I.after hq
  | next=>exact False.elim hq
  | brk=>exact False.elim hq
  | cont=>exact False.elim hq
theorem o6 (F:bC X.prog X.w X.K X.mg X.base CX k f fd ps sp) (hr:cM k X.A) (hg:Gl X x) (hm:X.mg x=some (.ref f)) (hk:PySem.W.keepIn X.K (.ref f)=true) (hb:Binds X.K fd ps ds) (hd:Vals dvs ds) (hx:Passes CX X E)
  (ha:PA X (e :: es) t) (hdb:(x == ("__debug__" : Str))=false:=by decide) (he:starEach (e :: es) X.env=(false,eval e X.env) :: starEach es X.env:=by rfl) (hpl:(backTo pos (starEach es X.env)).any (·.1)=false:=by rfl) :
  PE X (.Call (.Name x p) (e :: es) [] pos) (oP sp dvs E t):=by
 intro pins s σ H Q I h
 refine wpAny_Call_Name_kw (lq I hg hm ?_ hdb)
 refine PySem.W.callWith_K (h₀:=X.base) I.ok.mod.qd hk (aA (ha pos pins s σ H _ I h) fun us s1 ⟨vs,H1,I1,r,q⟩=>⟨I1.jW,?_⟩) he hpl
 exact qw F hr hb hd hx I1 r q
end
section
variable {X:Cx} {CX:gO} {k:Nat} {f C:Addr} {fd:FuncData} {ps ks:List Str} {sp:Sp} {E:XK} {x m:Str} {p pos apos kpos:Pos} {e o:Expr} {es:List Expr} {kws:List Keyword} {te ta:TE} {t tk:TA} {nm:Option Str}
variable {g:List Value->List Value->List Value} {gV:List V->List V->List V}
end
structure aV (N P:List Str) (sc:Scope):Prop where
 kind:sc.kind=.function
 co:sc.isCoroutine=false
 gen:sc.isGenerator=false
 nd:N.Nodup
 pre:N.take P.length=P
 par:∀ x ∈ P,sc.names.lookup x=some .local\/sc.names.lookup x=some .cell
 qx:∀ y ∈ sc.names,y.2 ≠ .free
theorem jw {kindOf:Str->Option NameKind} {x:Str}:∀ {binds:List (Str × Value)} {m:Str->Option Value},(∀ v,(x,v) ∉ binds)->bindL kindOf binds m x=m x
 | [],_,_=>rfl
 | (n,v) :: r,m,h=>by
  unfold bindL
  rw [jw fun w hw=>h w (List.mem_cons_of_mem _ hw)]
  split
  ·have:x ≠ n:=by rintro rfl;exact h v List.mem_cons_self
   simp [this]
  ·rfl
theorem jx {kindOf:Str->Option NameKind} {x:Str}:∀ {binds:List (Str × Value)} {m:Str->Option Value},(∀ v,(x,v) ∉ binds)->bindC kindOf binds m x=m x
 | [],_,_=>rfl
 | (n,v) :: r,m,h=>by
  unfold bindC
  rw [jx fun w hw=>h w (List.mem_cons_of_mem _ hw)]
  split
  ·rfl
  ·have:x ≠ n:=by rintro rfl;exact h v List.mem_cons_self
   simp [this]
theorem jy {kindOf:Str->Option NameKind} {x:Str} {v:Value}:∀ {P:List Str} {vs:List Value} {i:Nat} {m:Str->Option Value},P.Nodup->P[i]? = some x->vs[i]? = some v->kindOf x=some .local ->
  bindL kindOf (P.zip vs) m x=some v
 | [],_,_,_,_,h,_,_=>by simp at h
 | _ :: _,[],_,_,_,_,h,_=>by simp at h
 | p :: P,w :: vs,0,m,nd,h1,h2,hk=>by
  simp at h1 h2;subst h1;subst h2
  show bindL kindOf ((p,w) :: P.zip vs) m p=_
  unfold bindL
  rw [jw fun v hv=>(List.nodup_cons.mp nd).1 (List.of_mem_zip hv).1,if_pos hk]
  simp
 | p :: P,w :: vs,i+1,m,nd,h1,h2,hk=>by
  show bindL kindOf ((p,w) :: P.zip vs) m x=_
  unfold bindL
  exact jy (i:=i) (List.nodup_cons.mp nd).2 (by simpa using h1) (by simpa using h2) hk
theorem jA {kindOf:Str->Option NameKind} {x:Str} {v:Value}:∀ {P:List Str} {vs:List Value} {i:Nat} {m:Str->Option Value},P.Nodup->P[i]? = some x->vs[i]? = some v->kindOf x ≠ some .local ->
  bindC kindOf (P.zip vs) m x=some v
 | [],_,_,_,_,h,_,_=>by simp at h
 | _ :: _,[],_,_,_,_,h,_=>by simp at h
 | p :: P,w :: vs,0,m,nd,h1,h2,hk=>by
  simp at h1 h2;subst h1;subst h2
  show bindC kindOf ((p,w) :: P.zip vs) m p=_
  unfold bindC
  rw [jx fun v hv=>(List.nodup_cons.mp nd).1 (List.of_mem_zip hv).1,if_neg hk]
  simp
 | p :: P,w :: vs,i+1,m,nd,h1,h2,hk=>by
  show bindC kindOf ((p,w) :: P.zip vs) m x=_
  unfold bindC
  exact jA (i:=i) (List.nodup_cons.mp nd).2 (by simpa using h1) (by simpa using h2) hk
def start (N:List Str) (vs:List V):St:=vs.map some++List.replicate (N.length - vs.length) none
def ja (CX:gO) (P:Program) (w:World) (K:PySem.W.Frag) (mg:Str->Option Value) (base:Heap) (N:List Str) (qual:Str) (scope:Scope) (f:Addr) (cd:Value) (A:Around) (outer:List Env) (s:Shared) (H:Hp) (E:XK):Cx where
 prog:=P
 w:=w
 K:=K
 mg:=mg
 base:=base
 A:=A.deeper (envOfC qual scope s.heap.objs.size f cd)
 N:=N
 bU:=s
 gd:=H
 env:=envOfC qual scope s.heap.objs.size f cd
 outer:=outer
 stack:=envOfC qual scope s.heap.objs.size f cd :: outer
 ex:=[]
 calm:=true
 fn:=fun _=>true
 pn:=[]
 xe:=fun e s'=>wpAny (model P w) (A.deeper (envOfC qual scope s.heap.objs.size f cd)) (leaving (envOfC qual scope s.heap.objs.size f cd) e) (fun _ s''=>CX outer H s E e s'') (fun e' s''=>CX outer H s E e' s'') s'
theorem j5 {sc:Scope} {n:Nat} {x:Str} (h:sc.names.lookup x=some .cell):∃ c,(cellsFrom n sc.names []).lookup x=some c:=by
 have q:=PySem.W.cellsFrom_some sc.names n [] (.inl h)
 exact Option.isSome_iff_exists.mp q
theorem mS {CX:gO} {P:Program} {w:World} {K:PySem.W.Frag} {mg:Str->Option Value} {base:Heap} {N ps:List Str} {qual:Str} {scope:Scope} {f:Addr} {cd:Value} {A:Around} {outer:List Env} {s s1:Shared} {H:Hp} {E:XK} {us:List Value} {vs:List V}
  (S:aV N ps scope) (hd:A.handled=none) (e0:mh P w K mg base A outer s H) (hl:vs.length=ps.length) (r:Vals vs us)
  (x:InCallC s s.heap.objs.size (bindL (envOfC qual scope s.heap.objs.size f cd).kindOf (ps.zip us) fun _=>none) (cellsFrom (s.heap.objs.size+1) scope.names []) (bindC (envOfC qual scope s.heap.objs.size f cd).kindOf (ps.zip us) fun _=>none) s1) :
  Inv (ja CX P w K mg base N qual scope f cd A outer s H E) [] (start N vs) H s1:=by
 have hpl:ps.length<=N.length:=by have:=congrArg List.length S.pre;rw [List.length_take] at this;omega
 obtain⟨h1,tk,rfl,hk⟩:=x.done
 have noA:∀ b:Addr,b ∉ (ja CX P w K mg base N qual scope f cd A outer s H E).ex:=fun b z=>absurd (show b ∈ ([]:List Addr) from z) (by simp)
 refine⟨⟨e0.mod,S.kind,rfl,rfl,Nat.le_refl _,fun y z c h1 h2=>?_,fun y hy=>?_,fun y c _ h=>?_,fun _=>hd,Around.frames_deeper e0.frames,.inr ⟨rfl,rfl⟩,fun b z=>absurd z (noA b),e0.bs,e0.jt,fun b _ _=>noA b,fun b z=>absurd z (noA b),e0.fb,e0.lj⟩,
  rfl,e0.bare,Un.kept hk,⟨_,x.toInCall.ns,fun i y v h1 h2 h3=>?_⟩,fun y c h=>⟨_,x.cell y c h⟩,e0.av.fresh (Nat.le_refl _),fun y c h=>?_,fun p hp=>absurd (show p ∈ ([]:List (Addr × Obj)) from hp) (by simp),e0.av.kept hk,?_⟩
 ·exact name_of_addr x.apart (PySem.mem_of_lookup h1) (PySem.mem_of_lookup h2)
 ·have hy:scope.names.lookup y=some .cell\/scope.names.lookup y=some .free:=hy
  rcases hy with hy | hy
  ·exact j5 hy
  ·exact absurd rfl (S.qx _ (PySem.mem_of_lookup hy))
 ·exact Nat.le_of_lt (x.above y c (PySem.mem_of_lookup h))
 ·have hi:i < vs.length:=by
   unfold start at h2
   by_cases hi:i < vs.length
   ·exact hi
   ·rw [List.getElem?_append_right (by simpa using hi)] at h2
    rw [List.getElem?_replicate] at h2
    split at h2 <;> cases h2
  have ha:vs[i]? = some v:=by
   unfold start at h2
   rw [List.getElem?_append_left (by simpa using hi),List.getElem?_map] at h2
   cases e:vs[i]? with
   | none=>rw [e] at h2;cases h2
   | some a=>rw [e] at h2;cases h2;rfl
  obtain⟨u,hu,rv⟩:=r.get ha
  have hp:ps[i]? = some y:=by
   rw [<-S.pre,List.getElem?_take_of_lt (by omega)];exact h1
  have ndP:ps.Nodup:=by rw [<-S.pre];exact S.nd.sublist (List.take_sublist _ _)
  refine⟨u,rv,?_⟩
  rcases S.par y (List.mem_of_getElem? hp) with k | k
  ·exact .inl ⟨k,jy ndP hp hu k⟩
  ·obtain⟨c,e⟩:=j5 (n:=s.heap.objs.size+1) k
   refine .inr ⟨.inl k,c,e,?_⟩
   have q:=x.cell y c e
   rw [jA ndP hp hu (by show scope.names.lookup y ≠ _;rw [k];decide)] at q
   exact q
 ·exact e0.av.fresh (Nat.le_of_lt (x.above y c (PySem.mem_of_lookup h)))
 ·unfold start
  show _=N.length
  rw [List.length_append,List.length_map,List.length_replicate]
  omega
theorem rR {CX:gO} {P:Program} {w:World} {K:PySem.W.Frag} {mg:Str->Option Value} {base:Heap} {k:Nat} {f:Addr} {name qual:Str} {params:Arguments} {body:List Stmt} {scope:Scope} {dV kV doc pm cdv ct oc:Value} {an od:Option Addr}
  {osl:Array (Option Value)} {N ps:List Str} {sp:Sp} (lk:K.lookup f=some ⟨oc,od,.func (PySem.W.fnOf name qual params body scope dV kV doc pm an cdv ct),osl⟩) (hcd:PySem.W.codeIn K cdv qual=true) (S:aV N ps scope)
  (len:∀ vs H Q E,sp vs H Q E->vs.length=ps.length)
  (hbody:∀ (A:Around) (outer:List Env) (s:Shared) (H:Hp) (vs:List V) (Q:VK) (E:XK),cM k (A.deeper (envOfC qual scope s.heap.objs.size f cdv))->sp vs H Q E ->
   ∃ t,fQ (ja CX P w K mg base N qual scope f cdv A outer s H E) body t/\t { nx:=fun _ H'=>Q .aY H',rt:=Q } (start N vs) H) :
  bC P w K mg base CX (k+1) f (PySem.W.fnOf name qual params body scope dV kV doc pm an cdv ct) ps sp:=by
 refine⟨len,fun A outer s H args us vs Q E hr e0 hb r hsp=>?_⟩
 have hl:=len _ _ _ _ hsp
 have KX:K.In s.heap:=e0.mod.qd.keeps fun b o e=>(e0.bs b o e).1
 have lim:s.heap.NoLimit:=e0.mod.nolimit.keeps fun b o e=>(e0.bs b o e).1
 have hkind:∀ y ∈ ps.zip us,scope.names.lookup y.1=some .local\/(scope.names.lookup y.1=some .cell/\((cellsFrom (s.heap.objs.size+1) scope.names []).lookup y.1).isSome=true):=fun ⟨n,v⟩ hy=>by
  rcases S.par n (List.of_mem_zip hy).1 with q | q
  ·exact .inl q
  ·exact .inr ⟨q,PySem.W.cellsFrom_some _ _ _ (.inl q)⟩
 refine codeAny_call_function hr.depth (KX _ _ lk) rfl S.co S.gen rfl (PySem.W.codeRec_of KX hcd) (hb _ _ _ _ ?_)
 refine wpAny_newFunctionEnv_cells S.kind hkind fun env he s1 x=>?_
 subst he
 refine⟨lim.keeps x.toInCall.keep,codeAny_func ?_⟩
 obtain⟨t,ht,hq⟩:=hbody A outer s H vs Q E (hr.deeper _) hsp
 have I:Inv (ja CX P w K mg base N qual scope f cdv A outer s H E) [] (start N vs) H s1:=mS S hr.hd e0 hl r x
 refine wpAny_mono (ht [] s1 (start N vs) H _ I hq) (fun fl s' hs=>?_) fun e s' hs=>hs
 have fin:∀ {σ':St} {H':Hp} {v:V} {u:Value},Inv (ja CX P w K mg base N qual scope f cdv A outer s H E) [] σ' H' s'->RelV v u->Q v H'->CE outer P w H s Q u s' :=
  fun {σ' H' v u} J rv q=>⟨v,H',J.os,J.bare,J.base,J.av,rv,q⟩
 cases fl with
 | ret u =>
  obtain⟨v,σ',H',J,rv,q⟩:=hs
  exact fin J rv q
 | next =>
  obtain⟨σ',H',J,q⟩:=hs
  exact fin (v:=V.aY) (u:=Value.none) J rfl q
 | brk =>
  obtain⟨_,_,_,q⟩:=hs
  exact False.elim q
 | cont =>
  obtain⟨_,_,_,q⟩:=hs
  exact False.elim q
section
variable {X:Cx} {x:Str} {p pos:Pos} {e:Expr} {es:List Expr} {t:TA} {id T:String} {r:List V->Hp->VK->Prop}
def so (r:List V->Hp->VK->Prop) (t:TA):TE:=fun σ H Q=>t σ H fun vs H1=>r vs H1 Q
theorem bP (hc:eB X (.builtin id) r) (hg:Gl X x) (hm:X.mg x=none) (hv:bootBuiltins x=some (.builtin id)) (ha:PA X (e :: es) t) (hn:x ≠ "__name__" := by decide) (hdb:(x == ("__debug__" : Str))=false:=by decide)
  (he:starEach (e :: es) X.env=(false,eval e X.env) :: starEach es X.env:=by rfl) (hpl:(backTo pos (starEach es X.env)).any (·.1)=false:=by rfl):PE X (.Call (.Name x p) (e :: es) [] pos) (so r t):=by
 intro pins s σ H Q I h
 refine wpAny_Call_Name_kw (gM I hg hm hv ?_ hn hdb)
 exact PyProof.Rows.callWith_builtin1 (aA (ha pos pins s σ H _ I h) fun us s1 ⟨vs,H1,I1,r1,q1⟩=>hc pins s1 σ H1 vs us Q I1 r1 q1) he hpl
theorem bA (hc:eB X (.type T) r) (hg:Gl X x) (hm:X.mg x=none) (hv:bootBuiltins x=some (.type T)) (ha:PA X (e :: es) t) (hn:x ≠ "__name__" := by decide) (hdb:(x == ("__debug__" : Str))=false:=by decide)
  (he:starEach (e :: es) X.env=(false,eval e X.env) :: starEach es X.env:=by rfl) (hpl:(backTo pos (starEach es X.env)).any (·.1)=false:=by rfl):PE X (.Call (.Name x p) (e :: es) [] pos) (so r t):=by
 intro pins s σ H Q I h
 refine wpAny_Call_Name_kw (gM I hg hm hv ?_ hn hdb)
 exact PyProof.Rows.callWith_type1 (aA (ha pos pins s σ H _ I h) fun us s1 ⟨vs,H1,I1,r1,q1⟩=>hc pins s1 σ H1 vs us Q I1 r1 q1) he hpl
end
end L2
namespace HT
open PySem PyProof.Rows
section
open PySem.SeqAt
open PySem.AutoSeq1 (wpAny_loadPart')
open PySem.MeetsSeq PySem.MeetsSeq2 PySem.MeetsSeq3
end
section
variable {prog:Program} {w:World} {A:Around} {E:Value->Shared->Prop} {s:Shared}
def aS (n d:Nat):Option Int->Nat
 | none=>d
 | some v=>if v < 0 then (v+(n:Int)).toNat else min v.toNat n
theorem qy (n d:Nat) (hd:d<=n) (o:Option Int):aS n d o<=n:=by
 cases o with
 | none=>exact hd
 | some v =>
  show (if v < 0 then (v+(n:Int)).toNat else min v.toNat n)<=n
  by_cases hv:v < 0
  ·rw [if_pos hv];omega
  ·rw [if_neg hv];exact Nat.min_le_right _ _
theorem lH (v:Int) (n d:Nat):(if v < 0 then max (v+(n:Int)) 0 else min v (n:Int))=((aS n d (some v):Nat):Int):=by
 show (if v < 0 then max (v+(n:Int)) 0 else min v (n:Int))=(((if v < 0 then (v+(n:Int)).toNat else min v.toNat n):Nat):Int)
 by_cases hv:v < 0
 ·simp only [if_pos hv];omega
 ·simp only [if_neg hv];omega
theorem mi (lo hi:Option Int) (n:Nat):Builtin.Slice.sliceAdjust lo hi 1 (n:Int)=(((aS n 0 lo:Nat):Int),((aS n n hi:Nat):Int)):=by
 have h1:¬ ((1:Int) < 0):=by omega
 unfold Builtin.Slice.sliceAdjust
 simp only [h1,if_false]
 refine Prod.ext ?_ ?_
 ·cases lo with
  | none=>rfl
  | some v=>exact lH v n 0
 ·cases hi with
  | none=>rfl
  | some v=>exact lH v n n
theorem mj (i j:Nat):Builtin.Slice.slicePlaces (i:Int) (j:Int) 1=j - i:=by
 unfold Builtin.Slice.slicePlaces
 have h1:(1:Int) > 0:=by omega
 simp only [h1,if_true,Int.ediv_one]
 split <;> omega
theorem gg {v:Value} {o:Option Int} {Q:Option Int->Shared->Prop} (p:IsPart v o) (h:Q o s):wpAny (model prog w) A (Builtin.Slice.slicePartIndex v) Q E s:=by
 cases p with
 | none=>exact slicePart_none h
 | int i t=>exact slicePart_int h
theorem fg {sl:Addr} {vl vu:Value} {lo hi:Option Int} {n:Nat} {Q:Int × Int × Nat->Shared->Prop} (hs:s.heap.IsSliceOf sl vl vu .none) (pl:IsPart vl lo) (pu:IsPart vu hi)
  (h:Q (((aS n 0 lo:Nat):Int),1,aS n n hi - aS n 0 lo) s):wpAny (model prog w) A (Builtin.Slice.sliceApplied (.ref sl) (pure (n:Int))) Q E s:=by
 obtain⟨os,hos,hcs,hds⟩:=id hs
 unfold Builtin.Slice.sliceApplied Builtin.Slice.sliceFields
 refine wpAny_bind (wpAny_bind (wpAny_field hos hds (x:=vl) rfl (wpAny_bind (wpAny_field hos hds (x:=vu) rfl (wpAny_bind (wpAny_field hos hds (x:=.none) rfl (wpAny_pure ?_)))))))
 refine wpAny_bind (slicePart_none ?_)
 show wpAny _ _ (if ((1:Int) == 0)=true then _ else _) _ _ s
 rw [if_neg (by decide)]
 refine wpAny_bind (gg pl (wpAny_bind (gg pu (wpAny_bind (wpAny_pure ?_)))))
 show wpAny _ _ (match Builtin.Slice.sliceAdjust lo hi 1 (n:Int) with | (lo,hi)=>pure (lo,(1:Int),Builtin.Slice.slicePlaces lo hi 1)) _ _ s
 rw [mi lo hi n]
 show wpAny _ _ (pure (((aS n 0 lo:Nat):Int),(1:Int),Builtin.Slice.slicePlaces ((aS n 0 lo:Nat):Int) ((aS n n hi:Nat):Int) 1)) _ _ s
 rw [mj]
 exact wpAny_pure h
theorem nO (xs:Array Value) (i k:Nat):((List.range k).filterMap fun (m:Nat)=>xs[((i:Int)+(m:Int) * 1).toNat]?).toArray=((xs.toList.drop i).take k).toArray:=by
 have e:(fun (m:Nat)=>xs[((i:Int)+(m:Int) * 1).toNat]?)=fun m=>xs[i+m]?:=by
  funext m
  have:((i:Int)+(m:Int) * 1).toNat=i+m:=by omega
  rw [this]
 rw [e]
 have:=pick_run xs i k
 rw [List.filterMap_map] at this
 have e2:((fun x=>xs[x]?) ∘ fun x=>i+x)=fun m=>xs[i+m]?:=rfl
 rw [e2] at this
 rw [this]
theorem h8 {t sl:Addr} {items:Array Value} {vl vu:Value} {lo hi:Option Int} {Q:Value->Shared->Prop} (ht:IsTup s.heap t items) (hs:s.heap.IsSliceOf sl vl vu .none) (pl:IsPart vl lo) (pu:IsPart vu hi)
  (hw:¬ (aS items.size 0 lo=0/\aS items.size items.size hi=items.size))
  (h:Q (.ref s.heap.objs.size) { s with heap:=s.heap.push { cls:=.type "tuple",data:=.seq ((items.toList.drop (aS items.size 0 lo)).take (aS items.size items.size hi - aS items.size 0 lo)).toArray } })
  (hsz:items.size<=sizeLine):wpAny (model prog w) A (getItem (.ref t) (.ref sl)) Q E s:=by
 have htake:sizeOk (.seq ((items.toList.drop (aS items.size 0 lo)).take (aS items.size items.size hi - aS items.size 0 lo)).toArray):=by
  show ((items.toList.drop (aS items.size 0 lo)).take (aS items.size items.size hi - aS items.size 0 lo)).toArray.size<=sizeLine
  rw [List.size_toArray,List.length_take,List.length_drop,Array.length_toList]
  omega
 have hj:aS items.size items.size hi<=items.size:=qy _ _ (Nat.le_refl _) hi
 obtain⟨os,hos,hcs,hds⟩:=id hs
 have hTs:s.TypeIs (.ref sl) "slice" := ⟨os,hos,hcs⟩
 unfold getItem
 try with_reducible refine wpAny_holding ?_
 first | refine wpAny_bind (wpAny_pure ?_) | skip
 refine wpAny_bind (wpAny_sequenceKey ht.typeIs (by decide) ?_)
 refine wpAny_bind (wpAny_callSpecial?_slot (name:=Str.ofString "__getitem__") ht.typeIs PyProof.Rows.slot_tuple_getitem
  (wpAny_call_entry PyProof.Rows.slot_tuple_getitem ht.typeIs entry_tuple_getitem ?_ (args_tuple_getitem _ _)))
 show wpAny _ _ (Builtin.Tuple.tupleItemsOf (.ref t) >>= _) _ _ s
 refine wpAny_bind (tupleItemsOf_ ht ?_)
 refine wpAny_bind (wpAny_typeOf hTs ?_)
 rw [if_pos (by decide)]
 refine wpAny_bind (fg hs pl pu ?_)
 have hno:¬ ((((aS items.size 0 lo:Nat):Int) == 0 && (1:Int) == 1 && (aS items.size items.size hi - aS items.size 0 lo) == items.size)=true):=by
  intro q
  rw [Bool.and_eq_true,Bool.and_eq_true] at q
  have q1:((aS items.size 0 lo:Nat):Int)=0:=eq_of_beq q.1.1
  have q2:aS items.size items.size hi - aS items.size 0 lo=items.size:=eq_of_beq q.2
  exact hw ⟨by omega,by omega⟩
 show wpAny _ _ (if (((aS items.size 0 lo:Nat):Int) == 0 && (1:Int) == 1 && (aS items.size items.size hi - aS items.size 0 lo) == items.size)=true then _ else _) _ _ s
 rw [if_neg hno,nO]
 first
  | exact wpAny_bind (m:=Builtin.Tuple.tupleExact _) (wpAny_newObj_type (wpAny_pure ⟨_,rfl,wpAny_pure h⟩) htake)
  | exact wpAny_bind (m:=Builtin.Tuple.tupleExact _) (wpAny_newObj_type (wpAny_bind (wpAny_pure (wpAny_pure ⟨_,rfl,wpAny_pure h⟩))) htake)
  | exact wpAny_bind (wpAny_bind (m:=Builtin.Tuple.tupleExact _) (wpAny_newObj_type (wpAny_pure (wpAny_pure ⟨_,rfl,wpAny_pure h⟩)) htake))
  | exact wpAny_bind (wpAny_bind (m:=Builtin.Tuple.tupleExact _) (wpAny_newObj_type (wpAny_pure ⟨_,rfl,wpAny_pure h⟩) htake))
end
end HT
namespace L2
open PySem PySem.Spec PyProof.Rows
abbrev TO:=St->Hp->(Option Int->Hp->Prop)->Prop
def PO (X:Cx) (e:Option Expr) (t:TO):Prop :=
 ∀ (pins:List (Addr × Obj)) (s:Shared) (σ : St) (H:Hp) (Q:Option Int->Hp->Prop),Inv X pins σ H s->t σ H Q ->
  wpAny (model X.prog X.w) X.A (evalPart e X.env) (fun u s'=>∃ o H',Inv X pins σ H' s'/\IsPart u o/\Q o H') X.xe s
def o7:TO:=fun _ H Q=>Q none H
def rS (t:TE):TO:=fun σ H Q=>t σ H fun x H1=>∃ i,x=.int i/\Q (some i) H1
section
variable {X:Cx} {e:Expr} {te:TE} {lo hi:Option Expr} {tl th:TO} {pos p2:Pos}
theorem lI:PO X none o7:=by
 intro pins s σ H Q I h
 rw [evalPart_none]
 exact wpAny_pure ⟨none,H,I,.none,h⟩
theorem jb (h:PE X e te):PO X (some e) (rS te):=by
 intro pins s σ H Q I hw
 rw [evalPart_some]
 refine aA (h pins s σ H _ I hw) fun u s1 ⟨x,H1,I1,r1,q1⟩=>?_
 obtain⟨i,rfl,q⟩:=q1
 obtain⟨t,rfl⟩:=r1
 exact⟨some i,H1,I1,.int i t,q⟩
def qA (X:Cx) (r:V->Option Int->Option Int->Hp->VK->Prop):Prop :=
 ∀ (pins:List (Addr × Obj)) (s:Shared) (σ : St) (H:Hp) (x:V) (v vl vu:Value) (lo hi:Option Int) (sl:Addr) (Q:VK),Inv X pins σ H s->RelV x v->s.heap.IsSliceOf sl vl vu .none->IsPart vl lo->IsPart vu hi->r x lo hi H Q ->
  ∃ T id,typeLookup (.type T) "__getitem__" = pure (some (.builtin id))/\s.TypeIs v T/\wpAny (model X.prog X.w) X.A (getItem v (.ref sl)) (EP X pins σ Q) X.xe s
def tQ (r:V->Option Int->Option Int->Hp->VK->Prop) (te:TE) (tl th:TO):TE:=fun σ H Q=>te σ H fun x H1=>tl σ H1 fun l H2=>th σ H2 fun u H3=>r x l u H3 Q
theorem j6 {r:V->Option Int->Option Int->Hp->VK->Prop} (hr:qA X r) (he:PE X e te) (hl:PO X lo tl) (hu:PO X hi th):PE X (.Subscript e (.Slice lo hi none p2) pos) (tQ r te tl th):=by
 intro pins s σ H Q I h
 refine Subscript_ (aA (he pins s σ H _ I h) fun v s1 ⟨x,H1,I1,r1,q1⟩=>?_)
 refine wpAny_Slice (aA (hl pins s1 σ H1 _ I1 q1) fun vl s2 ⟨l,H2,I2,pl,q2⟩=>aA (hu pins s2 σ H2 _ I2 q2) fun vu s3 ⟨u,H3,I3,pu,q3⟩=>?_)
 rw [evalPart_none]
 refine wpAny_pure ?_
 have I4:Inv X pins σ H3 { s3 with heap:=s3.heap.push { cls:=.type "slice",data:=.fields #[vl,vu,.none] } }:=I3.kept (t':=s3.toks) fun b ob q=>Heap.get?_push_of_some _ q
 obtain⟨T,id,hT,ht,hg⟩:=hr pins { s3 with heap:=s3.heap.push { cls:=.type "slice",data:=.fields #[vl,vu,.none] } } σ H3 x v vl vu l u s3.heap.objs.size Q I4 r1 (Heap.IsSliceOf.new ..) pl pu q3
 show wpAny (model X.prog X.w) X.A (subscriptTail e (.Slice lo hi none p2) v (.ref s3.heap.objs.size)) (EP X pins σ Q) X.xe { s3 with heap:=s3.heap.push { cls:=.type "slice",data:=.fields #[vl,vu,.none] } }
 exact tail_any (ops:=[.ref s3.heap.objs.size,v]) ht hT hg (by with_unfolding_all rfl)
def gP (xs:List V) (lo hi:Option Int):List V:=(xs.drop (HT.aS xs.length 0 lo)).take (HT.aS xs.length xs.length hi - HT.aS xs.length 0 lo)
theorem kT (xs:List V) (lo hi:Option Int):(gP xs lo hi).length<=xs.length:=by
 unfold gP
 rw [List.length_take,List.length_drop]
 omega
def sZ (K:PySem.W.Frag):V->Option Int->Option Int->Hp->VK->Prop:=fun x lo hi H Q=>∃ a xs,x=.ref a/\aw K H a xs /\
 ¬ (HT.aS xs.length 0 lo=0/\HT.aS xs.length xs.length hi=xs.length)/\∀ p,H p=none->Q (.ref p) (upd H p (.tup (gP xs lo hi)))
theorem mT:qA X (sZ X.K):=by
 intro pins s σ H x v vl vu lo hi sl Q I rx hs pl pu h
 obtain⟨a,xs,rfl,hx,hw,q⟩:=h
 cases rx
 obtain⟨its,r,ht,hz⟩:=I.tuple hx
 have hlen:its.toArray.size=xs.length:=by rw [List.size_toArray];exact r.length.symm
 refine⟨"tuple",_,PyProof.Rows.slot_tuple_getitem.lookup,ht.typeIs,?_⟩
 refine HT.h8 ht hs pl pu (by rw [hlen];exact hw) ?_ (by rw [hlen];exact hz)
 rw [hlen]
 refine⟨.ref s.heap.objs.size,_,I.laid (t':=s.toks) (o:=.tup (gP xs lo hi)) (fun b ob q=>Heap.get?_push_of_some _ q) (Nat.le_refl _) ?_,rfl,q _ (I.av.fresh (Nat.le_refl _))⟩
 exact⟨Nat.le_trans (kT xs lo hi) hz,_,(r.drop (HT.aS xs.length 0 lo)).take (HT.aS xs.length xs.length hi - HT.aS xs.length 0 lo),⟨_,Heap.get?_push_size _ rfl,rfl,_,rfl,rfl⟩⟩
end
def gQ (n:Nat) (i:Int):Option Nat:=if 0<=i then (if i < n then some i.toNat else none) else if -(n:Int)<=i then some (i+n).toNat else none
def dE {α : Type} (xs:List α) (i:Int):Option α:=(gQ xs.length i).bind fun j=>xs[j]?
theorem lJ {n:Nat} {i:Int} {j:Nat} (h:gQ n i=some j):seqIndex? i n=some j/\j < n/\-(n:Int)<=i/\i < n:=by
 unfold gQ at h
 by_cases h0:0<=i
 ·rw [if_pos h0] at h
  by_cases h1:i < n
  ·rw [if_pos h1] at h
   have e:i.toNat=j:=Option.some.inj h
   exact⟨by rw [seqIndex_of h0 h1,e],by omega,by omega,h1⟩
  ·rw [if_neg h1] at h;cases h
 ·rw [if_neg h0] at h
  by_cases h1:-(n:Int)<=i
  ·rw [if_pos h1] at h
   have e:(i+n).toNat=j:=Option.some.inj h
   exact⟨by rw [seqIndex_neg (by omega) h1,e],by omega,h1,by omega⟩
  ·rw [if_neg h1] at h;cases h
theorem jc {α : Type} {xs:List α} {i:Int} {v:α} (h:dE xs i=some v):∃ j,seqIndex? i xs.length=some j/\xs[j]? = some v/\j < xs.length/\-(xs.length:Int)<=i/\i < xs.length:=by
 unfold dE at h
 cases e:gQ xs.length i with
 | none=>rw [e] at h;cases h
 | some j =>
  rw [e] at h
  obtain⟨h1,h2,h3,h4⟩:=lJ e
  exact⟨j,h1,h,h2,h3,h4⟩
theorem bg {α : Type} {xs:List α} {j:Nat} {v:α} (h:xs[j]? = some v):dE xs (j:Int)=some v:=by
 have hj:j < xs.length:=(List.getElem?_eq_some_iff.mp h).1
 have e:gQ xs.length (j:Int)=some j:=by
  unfold gQ
  rw [if_pos (by omega),if_pos (by omega)];simp
 unfold dE;rw [e];exact h
def o8 (b:Expr):Prop:=∀ o i,subscripted b false o i=operate [o,i] (getItem o i)
def oQ (X:Cx) (r:R2):Prop :=
 ∀ (value slice:Expr) (pins:List (Addr × Obj)) (s:Shared) (σ : St) (H:Hp) (x y:V) (v u:Value) (Q:VK),Inv X pins σ H s->RelV x v->RelV y u->r x y H Q ->
  subscripted slice false v u=operate [v,u] (getItem v u)->wpAny (model X.prog X.w) X.A (subscriptTail value slice v u) (EP X pins σ Q) X.xe s
def qB (X:Cx) (id:String) (r:V->List V->Hp->VK->Prop):Prop :=
 ∀ (pins:List (Addr × Obj)) (s:Shared) (σ : St) (H:Hp) (x:V) (xs:List V) (v:Value) (us:List Value) (Q:VK),Inv X pins σ H s->RelV x v->Vals xs us->r x xs H Q ->
  wpAny (model X.prog X.w) X.A (call (.builtin id) (v :: us)) (EP X pins σ Q) X.xe s
section
variable {X:Cx} {a b:Expr} {ta tb:TE} {pos:Pos}
theorem aH {r:R2} (hr:oQ X r) (ha:PE X a ta) (hb:PE X b tb) (hs:o8 b):PE X (.Subscript a b pos) (oO r ta tb):=by
 intro pins s σ H Q I h
 exact Subscript_ (nL ha hb I h fun v u s2 x y H2 I2 rx ry q=>hr a b pins s2 σ H2 x y v u Q I2 rx ry q (hs _ _))
def tf (K:PySem.W.Frag):R2:=fun x y H Q=>∃ p xs i v,x=.ref p/\y=.int i/\au K H p xs/\dE xs i=some v/\Q v H
def tj (K:PySem.W.Frag):R2:=fun x y H Q=>∃ p xs i v,x=.ref p/\y=.int i/\aw K H p xs/\dE xs i=some v/\Q v H
def tq:R2:=fun x y H Q=>∃ z i c,x=.str z/\y=.int i/\z.length<=sizeLine/\dE z.cps.toList i=some c/\Q (.str ⟨#[c]⟩) H
theorem aW:oQ X (tf X.K):=by
 intro value slice pins s σ H x y v u Q I rx ry h hs
 obtain⟨p,xs,i,z,rfl,rfl,hq,he,q⟩:=h
 cases rx
 obtain⟨t,rfl⟩:=ry
 obtain⟨its,r,pl,hz⟩:=I.list hq
 obtain⟨j,h1,h2,h3,h4,h5⟩:=jc he
 obtain⟨w,ew,rw'⟩:=r.get h2
 have hl:=r.length
 have hn:=fR
 have fin:EP X pins σ Q w s:=⟨z,H,I,rw',q⟩
 by_cases h0:0<=i
 ·have hj:i.toNat=j:=by
   rw [seqIndex_of h0 h5] at h1
   exact Option.some.inj h1
  exact item_listR pl.isList h0 (by omega) (by rw [hj];simpa using ew) fin hs
 ·have hj:(i+(its.toArray.size:Int)).toNat=j:=by
   rw [seqIndex_neg (by omega) h4] at h1
   rw [List.size_toArray,<-hl]
   exact Option.some.inj h1
  exact subscriptTail_builtinR (x:=w) pl.isList.typeIs slot_list_getitem.lookup
   (wpAny_getItem_list_neg (Q:=fun r s'=>r=w/\EP X pins σ Q r s') pl.isList (by omega) (by rw [List.size_toArray] <;> omega) (by omega) (by rw [hj];simpa using ew) ⟨rfl,fin⟩) hs
theorem bJ:oQ X (tj X.K):=by
 intro value slice pins s σ H x y v u Q I rx ry h hs
 obtain⟨p,xs,i,z,rfl,rfl,hq,he,q⟩:=h
 cases rx
 obtain⟨t,rfl⟩:=ry
 obtain⟨its,r,pl,hz⟩:=I.tuple hq
 obtain⟨j,h1,h2,h3,h4,h5⟩:=jc he
 obtain⟨w,ew,rw'⟩:=r.get h2
 have hl:=r.length
 have hn:=fR
 have fin:EP X pins σ Q w s:=⟨z,H,I,rw',q⟩
 exact subscriptTail_builtinR (x:=w) pl.typeIs slot_tuple_getitem.lookup
  (getItem_tuple (j:=j) (Q:=fun r s'=>r=w/\EP X pins σ Q r s') pl (by omega) (by omega) (by rw [List.size_toArray,<-hl];exact h1) (by simpa using ew) ⟨rfl,fin⟩) hs
theorem iN:oQ X tq:=by
  intro value slice pins s σ H x y v u Q I rx ry h hs
  obtain⟨z,i,c,rfl,rfl,hz,he,q⟩:=h
  obtain⟨t,rfl⟩:=rx
  obtain⟨t',rfl⟩:=ry
  obtain⟨j,h1,h2,h3,h4,h5⟩:=jc he
  have hl:z.cps.toList.length=z.length:=by simp [Str.length]
  rw [hl] at h1 h4 h5
  have hn:=fR
  exact tail_any (typeIs_str s z t) slot_str_getitem.lookup (getItem_str (c:=c) (by
    have e1:decide (i < -(2 ^ 63:Int))=false:=decide_eq_false (by omega)
    have e2:decide (i >= 2 ^ 63)=false:=decide_eq_false (by omega)
    rw [e1,e2,Bool.or_false]) (by rw [h1];simpa using h2) ⟨.str ⟨#[c]⟩,H,I.tok _,⟨_,rfl⟩,q⟩) hs
theorem mn (its:List Value) (n j:Nat) (u:Value):Obj.mapSeq (·.setIfInBounds j u) { cls:=.type "list",data:=.seq its.toArray n } = { cls:=.type "list",data:=.seq (its.set j u).toArray n }:=by
 simp [Obj.mapSeq]
theorem Inv.lst {pins:List (Addr × Obj)} {σ : St} {H:Hp} {s:Shared} {p:Addr} {xs:List V} (I:Inv X pins σ H s) (h:H p=some (.lst xs)) :
  ∃ (its:List Value) (n:Nat),Vals xs its/\s.heap.get? p=some { cls:=.type "list",data:=.seq its.toArray n }/\xs.length<=sizeLine:=by
 obtain⟨z,its,n,r,e⟩:=I.av p _ h
 exact⟨its,n,r,e,z⟩
theorem Inv.qC {pins:List (Addr × Obj)} {σ : St} {H:Hp} {s:Shared} {p:Addr} {xs ys:List V} {its its':List Value} {n n':Nat} {f:Obj->Obj} (I:Inv X pins σ H s) (h:H p=some (.lst xs))
  (ho:s.heap.get? p=some { cls:=.type "list",data:=.seq its.toArray n }) (hf:f { cls:=.type "list",data:=.seq its.toArray n } = { cls:=.type "list",data:=.seq its'.toArray n' }) (r:Vals ys its') (hz:ys.length<=sizeLine) (t:Nat) :
  Inv X pins σ (upd H p (.lst ys)) { s with heap:=s.heap.update p f,toks:=t }:=by
 have e:(s.heap.update p f).get? p=some { cls:=.type "list",data:=.seq its'.toArray n' }:=by
  rw [Heap.get?_update_self f ho (by rw [hf] <;> rfl),hf]
 refine I.write (x:=p) (e:=p) (by rw [h];trivial) (.inl rfl) (fun b u hb q=>(Heap.get?_update_other _ _ (Ne.symm hb)).trans q) ⟨_,e⟩ ?_
 exact⟨hz,its',n',r,e⟩
def rT:V->V->V->Hp->(Hp->Prop)->Prop:=fun o i v H Q=>∃ p xs k j,o=.ref p/\i=.int k/\H p=some (.lst xs)/\gQ xs.length k=some j/\Q (upd H p (.lst (xs.set j v)))
theorem set_list:qi X rT:=by
 intro pins s σ H o i v ov iv u Q I ro ri rv h
 obtain⟨p,xs,k,j,rfl,rfl,hp,hj,q⟩:=h
 cases ro
 obtain⟨t,rfl⟩:=ri
 obtain⟨its,n,r,ho,hz⟩:=I.lst hp
 obtain⟨h1,h2,h3,h4⟩:=lJ hj
 have hl:=r.length
 have hn:=fR
 have I':Inv X pins σ (upd H p (.lst (xs.set j v))) { s with heap:=s.heap.update p (Obj.mapSeq (·.setIfInBounds j u)) } :=
  I.qC hp ho (mn its n j u) (r.set rv j) (by rw [List.length_set];exact hz) s.toks
 by_cases h0:0<=k
 ·have hk:k.toNat=j:=by
   rw [seqIndex_of h0 h4] at h1
   exact Option.some.inj h1
  exact PySem.W.ki_setAt ho h0 (by omega) (by rw [List.size_toArray,<-hl];exact h4) (by rw [hk];exact⟨_,I',q⟩)
 ·have hk:(k+(its.toArray.size:Int)).toNat=j:=by
   rw [seqIndex_neg (by omega) h3] at h1
   rw [List.size_toArray,<-hl]
   exact Option.some.inj h1
  exact PySem.W.ki_setBack ho (by omega) (by rw [List.size_toArray,<-hl];exact h3) (by omega) (by rw [hk];exact⟨_,I',q⟩)
def eC:V->Bool
 | .aY=>true
 | .bl _=>true
 | .int _=>true
 | .str _=>true
 | _=>false
def ig:V->V->Bool
 | .aY,.aY=>true
 | .bl a,.bl b=>a == b
 | .bl a,.int b=>(if a then 1 else 0) == b
 | .int a,.bl b=>a == (if b then 1 else 0)
 | .int a,.int b=>a == b
 | .str a,.str b=>a == b
 | _,_=>false
theorem qD {A:Around} {s:Shared} {y x:V} {u v:Value} (ry:RelV y u) (rx:RelV x v) (fy:eC y=true) (fx:eC x=true):SeqAt.EqAt A s u v (ig y x):=by
 cases y with
 | aY =>
  cases ry
  cases x with
  | aY=>cases rx;exact SeqAt.EqAt.same _
  | bl b=>cases rx;exact SeqAt.EqAt.none_bool b
  | int b=>obtain⟨t,rfl⟩:=rx;exact SeqAt.EqAt.none_int b t
  | str b=>obtain⟨t,rfl⟩:=rx;exact SeqAt.EqAt.none_str b t
  | _=>exact absurd (show false=true from fx) Bool.false_ne_true
 | bl a =>
  cases ry
  cases x with
  | aY=>cases rx;exact SeqAt.EqAt.bool_none a
  | bl b=>cases rx;exact SeqAt.EqAt.bool_bool a b
  | int b=>obtain⟨t,rfl⟩:=rx;exact SeqAt.EqAt.bool_int a b t
  | str b=>obtain⟨t,rfl⟩:=rx;exact SeqAt.EqAt.bool_str a b t
  | _=>exact absurd (show false=true from fx) Bool.false_ne_true
 | int a =>
  obtain⟨t',rfl⟩:=ry
  cases x with
  | aY=>cases rx;exact SeqAt.EqAt.int_none a t'
  | bl b=>cases rx;exact SeqAt.EqAt.int_bool a t' b
  | int b=>obtain⟨t,rfl⟩:=rx;exact SeqAt.EqAt.int_int a t' b t
  | str b=>obtain⟨t,rfl⟩:=rx;exact SeqAt.EqAt.int_str a t' b t
  | _=>exact absurd (show false=true from fx) Bool.false_ne_true
 | str a =>
  obtain⟨t',rfl⟩:=ry
  cases x with
  | aY=>cases rx;exact SeqAt.EqAt.str_none a t'
  | bl b=>cases rx;exact SeqAt.EqAt.str_bool a t' b
  | int b=>obtain⟨t,rfl⟩:=rx;exact SeqAt.EqAt.str_int a t' b t
  | str b=>obtain⟨t,rfl⟩:=rx;exact SeqAt.EqAt.str_str a t' b t
  | _=>exact absurd (show false=true from fx) Bool.false_ne_true
 | _=>exact absurd (show false=true from fy) Bool.false_ne_true
def fh (x:V) (u:Value):Bool:=match u with
 | .none=>ig .aY x
 | .bool b=>ig (.bl b) x
 | .int i _=>ig (.int i) x
 | .str z _=>ig (.str z) x
 | _=>false
theorem mU {x y:V} {u:Value} (r:RelV y u) (f:eC y=true):fh x u=ig y x:=by
 cases y with
 | aY=>cases r;rfl
 | bl b=>cases r;rfl
 | int i=>obtain⟨t,rfl⟩:=r;rfl
 | str z=>obtain⟨t,rfl⟩:=r;rfl
 | _=>exact absurd (show false=true from f) Bool.false_ne_true
theorem fS {x:V}:∀ {xs:List V} {us:List Value},Vals xs us->xs.all eC=true->us.any (fh x)=xs.any fun y=>ig y x
 | _,_,.nil,_=>rfl
 | y :: xs,u :: us,.cons r t,f=>by
  rw [List.all_cons,Bool.and_eq_true] at f
  rw [List.any_cons,List.any_cons,mU r f.1,fS t f.2]
theorem fi {A:Around} {s:Shared} {x:V} {v:Value} (rx:RelV x v) (fx:eC x=true):∀ {xs:List V} {us:List Value},Vals xs us->xs.all eC=true->∀ u ∈ us,SeqAt.EqAt A s u v (fh x u)
 | _,_,.nil,_=>fun u hu=>by cases hu
 | y :: xs,u :: us,.cons r t,f=>fun u' hu=>by
  rw [List.all_cons,Bool.and_eq_true] at f
  rcases List.mem_cons.mp hu with rfl | hu
  ·rw [mU r f.1];exact qD r rx f.1 fx
  ·exact fi rx fx t f.2 u' hu
def fC (x:V) (xs:List V):Bool:=xs.any fun y=>ig y x
def qE (K:PySem.W.Frag) (neg:Bool):R2:=fun x y H Q=>∃ p xs,y=.ref p/\(au K H p xs\/aw K H p xs)/\eC x=true/\xs.all eC=true/\Q (.bl (if neg then !fC x xs else fC x xs)) H
theorem jB:cI X (compareOp .In) (qE X.K false):=by
 intro pins s σ H x y v u Q I rx ry h
 obtain⟨p,xs,rfl,hq,fx,fs,q⟩:=h
 cases ry
 rcases hq with hq | hq
 ·obtain⟨its,r,pl,hz⟩:=I.list hq
  refine SeqAt.in_listAt (fh x) pl.isList (fun w hw=>fi rx fx r fs w (by simpa using hw)) ⟨.bl _,H,I,rfl,?_⟩
  rw [show its.toArray.any (fh x)=its.any (fh x) by simp,fS r fs]
  exact q
 ·obtain⟨its,r,pl,hz⟩:=I.tuple hq
  refine SeqAt.in_tupleAt (fh x) pl (fun w hw=>fi rx fx r fs w (by simpa using hw)) ⟨.bl _,H,I,rfl,?_⟩
  rw [show its.toArray.any (fh x)=its.any (fh x) by simp,fS r fs]
  exact q
theorem fj:cI X (compareOp .NotIn) (qE X.K true):=by
 intro pins s σ H x y v u Q I rx ry h
 obtain⟨p,xs,rfl,hq,fx,fs,q⟩:=h
 cases ry
 rcases hq with hq | hq
 ·obtain⟨its,r,pl,hz⟩:=I.list hq
  refine SeqAt.notIn_listAt (fh x) pl.isList (fun w hw=>fi rx fx r fs w (by simpa using hw)) ⟨.bl _,H,I,rfl,?_⟩
  rw [show its.toArray.any (fh x)=its.any (fh x) by simp,fS r fs]
  exact q
 ·obtain⟨its,r,pl,hz⟩:=I.tuple hq
  refine SeqAt.notIn_tupleAt (fh x) pl (fun w hw=>fi rx fx r fs w (by simpa using hw)) ⟨.bl _,H,I,rfl,?_⟩
  rw [show its.toArray.any (fh x)=its.any (fh x) by simp,fS r fs]
  exact q
theorem bK:eB X (.builtin "len") (fun xs H Q=>∃ p ys,xs = [.ref p]/\(au X.K H p ys\/aw X.K H p ys)/\Q (.int ys.length) H):=by
 intro pins s σ H xs us Q I r h
 obtain⟨p,ys,rfl,hq,q⟩:=h
 obtain⟨u,rfl,rx⟩:=vals1 r
 cases rx
 have hn:=fR
 rcases hq with hq | hq
 ·obtain⟨its,r',pl,hz⟩:=I.list hq
  have hlen:=r'.length
  exact Calls.call_len_list pl.isList (by simp only [List.size_toArray] <;> omega) ⟨.int ys.length,H,I.tok _,⟨s.toks+1,by rw [List.size_toArray,hlen]⟩,q⟩
 ·obtain⟨its,r',pl,hz⟩:=I.tuple hq
  have hlen:=r'.length
  exact len_tuple pl (by simp only [List.size_toArray] <;> omega) ⟨.int ys.length,H,I.tok _,⟨s.toks+1,by rw [List.size_toArray,hlen]⟩,q⟩
theorem j7:eB X (.type "list") (fun xs H Q=>∃ p ys,xs = [.ref p]/\(au X.K H p ys\/aw X.K H p ys)/\∀ l,H l=none->Q (.ref l) (upd H l (.lst ys))):=by
 intro pins s σ H xs us Q I r h
 obtain⟨p,ys,rfl,hq,q⟩:=h
 obtain⟨u,rfl,rx⟩:=vals1 r
 cases rx
 have fin:∀ (its:List Value),Vals ys its->ys.length<=sizeLine->∀ (h':Heap) (c':Nat),(∀ b o',s.heap.get? b=some o'->h'.get? b=some o') ->
   h'.get? s.heap.objs.size=some { cls:=.type "list",dict:=none,data:=.seq its.toArray c',slots:=#[] }->EP X pins σ Q (.ref s.heap.objs.size) { s with heap:=h' }:=fun its r' hz h' c' kp e =>
  ⟨.ref s.heap.objs.size,_,I.laid (t':=s.toks) kp (Nat.le_refl _) (show bh X.prog X.w _ h' _ (.lst ys) from ⟨hz,its,c',r',e⟩),rfl,q _ (I.av.fresh (Nat.le_refl _))⟩
 rcases hq with hq | hq
 ·obtain⟨its,r',pl,hz⟩:=I.list hq
  have hlen:=r'.length
  obtain⟨o,ho,hc,n,hd⟩:=pl.isList
  exact call_list_seq p (.inl rfl) ho hc hd (fun h' c' kp e=>fin its r' hz h' c' kp e) (by simp only [List.size_toArray] <;> omega)
 ·obtain⟨its,r',pl,hz⟩:=I.tuple hq
  have hlen:=r'.length
  obtain⟨o,ho,hc,n,hd⟩:=pl
  exact call_list_seq p (.inr rfl) ho hc hd (fun h' c' kp e=>fin its r' hz h' c' kp e) (by simp only [List.size_toArray] <;> omega)
theorem bB:eB X (.type "tuple") (fun xs H Q=>∃ p ys,xs = [.ref p]/\((au X.K H p ys/\∀ l,H l=none->Q (.ref l) (upd H l (.tup ys)))\/(aw X.K H p ys/\Q (.ref p) H))):=by
 intro pins s σ H xs us Q I r h
 obtain⟨p,ys,rfl,h⟩:=h
 obtain⟨u,rfl,rx⟩:=vals1 r
 cases rx
 rcases h with ⟨hq,q⟩ | ⟨hq,q⟩
 ·obtain⟨its,r',pl,hz⟩:=I.list hq
  have hlen:=r'.length
  refine call_tuple_list pl.isList (fun h' kp=>?_) (by simp only [List.size_toArray] <;> omega)
  have I1:Inv X pins σ H { s with heap:=h' }:=I.kept (t':=s.toks) kp
  have I2:Inv X pins σ (upd H h'.objs.size (.tup ys)) { s with heap:=h'.push { cls:=.type "tuple",data:=.seq its.toArray } } :=
   I1.laid (t':=s.toks) (fun b o e=>Heap.get?_push_of_some _ e) (Nat.le_refl _) (show bh X.prog X.w _ _ _ (.tup ys) from ⟨hz,its,r',⟨_,Heap.get?_push_size _ rfl,rfl,_,rfl,rfl⟩⟩)
  exact⟨.ref h'.objs.size,_,I2,rfl,q _ (I1.av.fresh (Nat.le_refl _))⟩
 ·obtain⟨its,r',pl,hz⟩:=I.tuple hq
  exact call_tuple_same pl ⟨.ref p,H,I,rfl,q⟩
def qF (K:PySem.W.Frag) (T:String) (x:V) (H:Hp):Prop:=match x with
 | .str _=>T = "str"
 | .int _=>T = "int"
 | .ref p=>(T = "list" /\ ∃ xs,au K H p xs)\/(T = "tuple" /\ ∃ o,K.lookup p=some o/\o.cls=.type "tuple" /\ o.dict=none) \/
   (T = "dict" /\ ((∃ kvs,H p=some (.dK kvs))\/∃ kvs,H p=some (.dT kvs)))\/(T = "set" /\ ∃ S n,H p=some (.set S n))
 | _=>False
theorem mV {pins:List (Addr × Obj)} {σ : St} {H:Hp} {s:Shared} {T:String} {x:V} {v:Value} (I:Inv X pins σ H s) (r:RelV x v) (ty:qF X.K T x H) :
  s.TypeIs v T/\∀ a,v=.ref a->∃ ob,s.heap.get? a=some ob/\ob.dict=none:=by
 cases x with
 | str z =>
  obtain⟨t,rfl⟩:=r
  cases (show T = "str" from ty)
  exact⟨typeIs_str s z t,fun _ e=>nomatch e⟩
 | int i =>
  obtain⟨t,rfl⟩:=r
  cases (show T = "int" from ty)
  exact⟨typeIs_int s i t,fun _ e=>nomatch e⟩
 | ref p =>
  cases r
  rcases ty with ⟨rfl,xs,hq⟩ | ⟨rfl,o,hk,hc,hd⟩ | ⟨rfl,hk⟩ | ⟨rfl,S,n,hk⟩
  ·obtain⟨its,_,pl,_⟩:=I.list hq
   refine⟨pl.isList.typeIs,fun a e=>?_⟩
   cases e
   obtain⟨o,n,e,c,hd,_⟩:=pl
   exact⟨o,e,hd⟩
  ·refine⟨⟨o,I.jW p o hk,hc⟩,fun a e=>?_⟩
   cases e
   exact⟨o,I.jW _ o hk,hd⟩
  ·have z:∃ o,s.heap.get? p=some o/\o.ExactDict:=by
    rcases hk with ⟨kvs,hk⟩ | ⟨kvs,hk⟩
    ·obtain⟨_,_,_,_,o,_,_,e,ex,_⟩:=I.av p _ hk
     exact⟨o,e,ex⟩
    ·obtain⟨_,_,_,_,o,_,_,e,ex,_⟩:=I.av p _ hk
     exact⟨o,e,ex⟩
   obtain⟨o,e,ex⟩:=z
   refine⟨⟨o,e,ex.1⟩,fun a e2=>?_⟩
   cases e2
   exact⟨o,e,ex.2.1⟩
  ·obtain⟨o,_,_,_,e,ex,_⟩:=I.av p _ hk
   refine⟨⟨o,e,ex.1⟩,fun a e2=>?_⟩
   cases e2
   exact⟨o,e,ex.2.1⟩
 | _=>exact False.elim ty
def tu (K:PySem.W.Frag) (T:String) (r:V->List V->Hp->VK->Prop) (to:TE):TE:=fun σ H Q=>to σ H fun x H1=>qF K T x H1/\r x [] H1 Q
def tR (K:PySem.W.Frag) (T:String) (r:V->List V->Hp->VK->Prop) (to:TE) (t:TA):TE:=fun σ H Q=>to σ H fun x H1=>qF K T x H1/\t σ H1 fun xs H2=>r x xs H2 Q
variable {o e:Expr} {es:List Expr} {to:TE} {t:TA} {name:Str} {apos cpos:Pos} {T id:String} {r:V->List V->Hp->VK->Prop}
theorem qG (pa:PlainAttrs T) (slot:Slot T name id) (hty:typeOf (.builtin id)=pure (.type "method_descriptor")) (hm:qB X id r) (ho:PE X o to)
  (hbase:attributeBase o name X.env (eval o X.env)=eval o X.env:=by rfl) (hline:(apos.endLine == cpos.line)=true:=by rfl):PE X (.Call (.Attribute o name apos) [] [] cpos) (tu X.K T r to):=by
 intro pins s σ H Q I h
 refine wpAny_Call_method0_late hbase hline (aA (ho pins s σ H _ I h) fun v s1 ⟨x,H1,I1,r1,ty,q1⟩=>?_)
 obtain⟨h1,h2⟩:=mV I1 r1 ty
 exact⟨T,id,pa,slot,hty,h1,h2,Calls.callWith_builtin rfl (PySem.evalArgs_none (hm pins s1 σ H1 x [] v [] Q I1 r1 .nil q1))⟩
theorem dJ (pa:PlainAttrs T) (slot:Slot T name id) (hty:typeOf (.builtin id)=pure (.type "method_descriptor")) (hm:qB X id r) (ho:PE X o to) (ha:PA X (e :: es) t)
  (hbase:attributeBase o name X.env (eval o X.env)=eval o X.env:=by rfl)
  (hfew:((backTo cpos (starEach (e :: es) X.env)).all (fun x=>!x.1) && (backToKw cpos (keywordEach [] X.env)).all (fun x=>x.1.isSome)
   && decide ((e :: es).length+([]:List Keyword).length+(if ([]:List Keyword).isEmpty then 0 else 1) < 30))=true:=by rfl)
  (hline:(apos.endLine == cpos.line)=true:=by rfl) (hs:starEach (e :: es) X.env=(false,eval e X.env) :: starEach es X.env:=by rfl) (hplain:(backTo cpos (starEach es X.env)).any (·.1)=false:=by rfl) :
  PE X (.Call (.Attribute o name apos) (e :: es) [] cpos) (tR X.K T r to t):=by
 intro pins s σ H Q I h
 refine wpAny_Call_method_late hbase hfew hline rfl (aA (ho pins s σ H _ I h) fun v s1 ⟨x,H1,I1,r1,ty,q1⟩=>?_)
 obtain⟨h1,h2⟩:=mV I1 r1 ty
 refine⟨T,id,pa,slot,hty,h1,h2,?_⟩
 have hA:=ha cpos pins s1 σ H1 _ I1 q1
 rw [hs] at hA ⊢
 refine Calls.callWith_builtin (by show (false || (backTo cpos (starEach es X.env)).any (·.1))=false;rw [hplain] <;> rfl) (Calls.evalArgs_plain ?_)
 exact aA hA fun us s2 ⟨vs,H2,I2,r2,q2⟩=>hm pins s2 σ H2 x vs v us Q I2 r1 r2 q2
end
def qH (X:Cx) (id:String) (r:V->List V->Hp->VK->Prop):Prop :=
 ∀ (pins:List (Addr × Obj)) (s:Shared) (σ : St) (H:Hp) (x:V) (xs:List V) (v:Value) (us:List Value) (Q:VK),Inv X pins σ H s->RelV x v->Vals xs us->r x xs H Q ->
  wpAny (model X.prog X.w) X.A (call (.builtin id) (v :: us)) (EP X pins σ Q) X.xe s
theorem Vals.one:∀ {x:V} {us:List Value},Vals [x] us->∃ u,us = [u]/\RelV x u
 | _,_,.cons r .nil=>⟨_,rfl,r⟩
theorem Vals.zero:∀ {us:List Value},Vals [] us->us = []
 | _,.nil=>rfl
theorem Vals.dropLast {xs:List V} {us:List Value} (h:Vals xs us):Vals xs.dropLast us.dropLast:=by
 induction h with
 | nil=>exact .nil
 | cons r t ih =>
  cases t with
  | nil=>exact .nil
  | cons q t'=>exact .cons r ih
theorem mq {α : Type} (l:List α):l.eraseIdx (l.length - 1)=l.dropLast:=by
 induction l with
 | nil=>rfl
 | cons a r ih =>
  cases r with
  | nil=>rfl
  | cons b r =>
   have e:(a :: b :: r).length - 1=((b :: r).length - 1)+1:=by
    have h1:(a :: b :: r).length=r.length+2:=rfl
    have h2:(b :: r).length=r.length+1:=rfl
    omega
   rw [e,List.eraseIdx_cons_succ,ih]
   all_goals rfl
section
variable {X:Cx} {pins:List (Addr × Obj)} {σ : St} {H:Hp} {s:Shared} {l b:Addr} {xs ys zs:List V}
theorem Inv.nP {its its':List Value} {n:Nat} {f:Array Value->Array Value} {t':Nat} (I:Inv X pins σ H s) (hH:H l=some (.lst xs))
  (e:s.heap.get? l=some { cls:=.type "list",data:=.seq its.toArray n }) (hf:f its.toArray=its'.toArray) (hv:Vals ys its') (hz:ys.length<=sizeLine) :
  Inv X pins σ (upd H l (.lst ys)) { s with heap:=s.heap.update l (Obj.mapSeq f),toks:=t' }:=by
 have q:=PySem.IsL.update e f
 rw [hf] at q
 refine I.write (x:=l) (e:=l) (by rw [hH];exact trivial) (.inl rfl) (fun b' u hb hu=>(Heap.get?_update_other s.heap (Obj.mapSeq f) (Ne.symm hb)).trans hu) ⟨_,q⟩ ?_
 exact⟨hz,its',_,hv,q⟩
theorem Inv.tw {its:List Value} {t':Nat} (I:Inv X pins σ H s) (hv:Vals ys its) (hz:ys.length<=sizeLine) :
  Inv X pins σ (upd H s.heap.objs.size (.lst ys)) { s with heap:=s.heap.push { cls:=.type "list",data:=.seq its.toArray },toks:=t' } :=
 I.laid (fun _ _ q=>Heap.get?_push_of_some _ q) (Nat.le_refl _) ⟨hz,its,0,hv,Heap.get?_push_size _ rfl⟩
theorem Inv.fresh (I:Inv X pins σ H s):H s.heap.objs.size=none:=I.av.fresh (Nat.le_refl _)
theorem Inv.jd (I:Inv X pins σ H s) (hH:H l=some (.lst xs)):xs.length<=sizeLine/\∃ (its:List Value) (n:Nat),Vals xs its/\xs.length=its.length/\s.heap.get? l=some { cls:=.type "list",data:=.seq its.toArray n }:=by
 obtain⟨z,its,n,r,e⟩:=I.av l _ hH
 exact⟨z,its,n,r,r.length,e⟩
theorem nQ {n:Nat} (h:n<=sizeLine):Builtin.List.listTooLong n=false:=by
 unfold Builtin.List.listTooLong
 exact decide_eq_false (by omega)
end
section
variable {X:Cx}
def o9:V->List V->Hp->VK->Prop:=fun x vs H Q=>∃ l xs y,x=.ref l/\vs = [y]/\H l=some (.lst xs)/\xs.length < sizeLine/\Q .aY (upd H l (.lst (xs ++ [y])))
theorem bX:qH X "list.append" o9:=by
 intro pins s σ H x vs v us Q I rx rv h
 obtain⟨l,xs,y,rfl,rfl,hH,hz,q⟩:=h
 cases rx
 obtain⟨u,rfl,ru⟩:=rv.one
 obtain⟨z,its,n,r,hl,e⟩:=I.jd hH
 refine call_meets F.slot_list_append ⟨_,e,rfl⟩ F.entry_list_append (F.args_list_append_2 _ _) (PySem.list_append l its.toArray n u (by rw [List.size_toArray];omega)) ⟨e,?_⟩
 refine⟨.aY,_,I.nP (its':=its ++ [u]) hH e (by simp) (r.append (.cons ru .nil)) ?_,rfl,q⟩
 rw [List.length_append,List.length_singleton]
 omega
def pd:V->List V->Hp->VK->Prop:=fun x vs H Q=>∃ l b xs zs,x=.ref l/\vs = [.ref b]/\H l=some (.lst xs)/\H b=some (.lst zs)/\xs.length+zs.length<=sizeLine/\Q .aY (upd H l (.lst (xs++zs)))
theorem jC:qH X "list.extend" pd:=by
 intro pins s σ H x vs v us Q I rx rv h
 obtain⟨l,b,xs,zs,rfl,rfl,hH,hB,hz,q⟩:=h
 cases rx
 obtain⟨u,rfl,ru⟩:=rv.one
 cases ru
 obtain⟨z,its,n,r,hl,e⟩:=I.jd hH
 obtain⟨z2,its2,n2,r2,hl2,e2⟩:=I.jd hB
 have hsz:its.toArray.size+its2.toArray.size<=sizeLine:=by rw [List.size_toArray,List.size_toArray];omega
 have hlong:¬ (!its.toArray.isEmpty && Builtin.List.listTooLong (its.toArray.size+its2.toArray.size))=true:=by
  rw [nQ hsz,Bool.and_false]
  exact Bool.false_ne_true
 refine call_meets F.slot_list_extend ⟨_,e,rfl⟩ F.entry_list_extend (F.args_list_extend_2 _ _)
  (AutoSeq1.list_extend_list_list_0 l its.toArray n b its2.toArray n2 hlong (by rw [List.size_toArray];omega) (by omega)) ⟨e,e2,?_⟩
 refine⟨.aY,_,I.nP (its':=its++its2) hH e (by simp) (r.append r2) ?_,rfl,q⟩
 rw [List.length_append]
 omega
def tD:V->List V->Hp->VK->Prop:=fun x vs H Q=>∃ l xs y,x=.ref l/\vs = []/\H l=some (.lst xs)/\xs[xs.length - 1]? = some y/\Q y (upd H l (.lst xs.dropLast))
theorem qI:qH X "list.pop" tD:=by
 intro pins s σ H x vs v us Q I rx rv h
 obtain⟨l,xs,y,rfl,rfl,hH,hy,q⟩:=h
 cases rx
 have hus:=rv.zero
 subst hus
 obtain⟨z,its,n,r,hl,e⟩:=I.jd hH
 obtain⟨u,hu,ru⟩:=r.get hy
 have hy':its.toArray[its.toArray.size - 1]? = some u:=by
  show its.toArray[its.length - 1]? = some u
  rw [<-Array.getElem?_toList,<-hl]
  exact hu
 refine call_meets F.slot_list_pop ⟨_,e,rfl⟩ F.entry_list_pop (F.args_list_pop_1 _) (MeetsSeq.list_pop_last l its.toArray n u hy' (by rw [List.size_toArray];omega)) ⟨e,?_⟩
 refine⟨y,_,I.nP (its':=its.dropLast) hH e ?_ r.dropLast ?_,ru,q⟩
 ·show its.toArray.eraseIdxIfInBounds (its.toArray.size - 1)=its.dropLast.toArray
  rw [List.size_toArray,List.eraseIdxIfInBounds_toArray,mq]
 ·rw [List.length_dropLast]
  omega
def tE:R2:=fun x y H Q=>∃ l b xs zs,x=.ref l/\y=.ref b/\H l=some (.lst xs)/\H b=some (.lst zs)/\xs.length+zs.length<=sizeLine/\∀ p,H p=none->Q (.ref p) (upd H p (.lst (xs++zs)))
theorem mW:cI X (binaryOp .Add) tE:=by
 intro pins s σ H x y v u Q I rx ry h
 obtain⟨l,b,xs,zs,rfl,rfl,hH,hB,hz,q⟩:=h
 cases rx
 cases ry
 obtain⟨z,its,n,r,hl,e⟩:=I.jd hH
 obtain⟨z2,its2,n2,r2,hl2,e2⟩:=I.jd hB
 refine PySem.P.add_list e e2 ?_ (by rw [List.size_toArray,List.size_toArray];omega)
 have ea:its.toArray++its2.toArray=(its++its2).toArray:=by simp
 rw [ea]
 exact⟨.ref _,_,I.tw (t':=s.toks) (r.append r2) (by rw [List.length_append];omega),rfl,q _ I.fresh⟩
end
section
variable {prog:Program} {w:World} {A:Around} {E:Value->Shared->Prop} {s:Shared}
end
section
variable {X:Cx}
end
end L2
namespace sr
open PySem PySem.W PySem.Calls PyProof.Rows
theorem iO {P:Params} {h:Heap}:∀ (ns:List Int) (vs:List Value),WellAll P h vs (ns.map WData.int)->IntsAre vs ns:=by
 intro ns
 induction ns with
 | nil =>
  intro vs w
  rw [List.map_nil] at w
  cases w
  exact .nil
 | cons n ns ih =>
  intro vs w
  rw [List.map_cons] at w
  cases w with
  | cons a b =>
   cases a
   exact .cons _ _ (ih _ b)
theorem mX {l:OpenLaw} {n:Nat} (hn:l.most=some n) {P:Params} {h:Heap} {args:List WData} {vals:List Value}
  (hpre:l.row.toRowW.claim.pre args=true) (hwl:WellAll P h vals args) :
  ∃ a vs ns,vals = [Value.ref a]/\args = [WData.list (ns.map WData.int)]/\h.get? a=some { cls:=.type "list",data:=.seq vs.toArray }/\IntsAre vs ns/\ns.length<=n:=by
 have hsh:WShape.hasAll [] args [.list .int] = true:=(pre_splitW hpre).1
 have hc:l.pre.holds [] { args:=args }=true:=(pre_splitW hpre).2
 obtain⟨d,r,rfl,h1,h2⟩:=hasAllW_cons hsh
 obtain rfl:=hasAllW_nil h2
 obtain⟨xs,rfl,h3⟩:=hasW_list h1
 obtain⟨ns,rfl⟩:=items_int h3
 have hlen:ns.length<=n:=by
  unfold OpenLaw.pre at hc
  have h4:(WTm.not (.lt (.lit (.int (n:Int))) (.len (.arg 0)))).holds [] { args:=[.list (ns.map .int)] }=true:=by
   have h4:=(holds_andW hc).1
   rw [hn] at h4
   exact h4
  have h5:=condW_of h4 (w_not (w_lt w_lit (w_len_list (w_arg rfl))))
  rw [List.length_map] at h5
  refine Nat.le_of_not_lt fun q=>?_
  have q':(n:Int) < ((ns.length:Nat):Int):=by omega
  first
   | (rw [decide_eq_true q'] at h5;exact absurd h5 (by decide))
   | (simp at h5;omega)
 cases hwl with
 | cons w1 w2 =>
  cases w2
  cases w1 with
  | list ho hall=>exact⟨_,_,ns,rfl,rfl,ho,iO ns _ hall,hlen⟩
theorem mY (l:OpenLaw) (args:List WData):l.row.toRowW.claim.post args (.bool true) args=true :=
 postW_of (r:=l.row.toRowW) (X:=(true == true))
  (show WShape.has [] (.bool true) .bool=true by first | rfl | decide | simp [WShape.has,WShape.arms,WShape.armsAll])
  (show (WTm.eq .res (.lit (.bool true))).value [] { args:=args,res:=some (.bool true),after:=args }=some (.bool (true == true)) from w_eq_bool (w_res rfl) w_lit) rfl
theorem kU {l:OpenLaw} {n:Nat} {q:Program} {loose:List Str} {XP:(Str->Option Value)->Heap->Prop} {YP:World->Heap->Prop} {d:DefRec}
  (hn:l.most=some n) (hdf:d.params.defaults = [])
  (call:∀ (w:World) (bU s₁ : Shared) (mg mb:Str->Option Value) (fa:Addr) (o:Obj) (pm cd doc:Value) (a:Addr) (vs:List Value) (ns:List Int),
   Ground q loose [] XP w bU mg mb s₁.heap->YP w s₁.heap ->
   s₁.heap.get? fa=some o->o.data=.func (docDef d.name d.params d.body d.scope pm cd doc)->s₁.heap.CodeRec cd d.name->mg d.name=some (.ref fa) ->
   s₁.heap.get? a=some { cls:=.type "list",data:=.seq vs.toArray }->IntsAre vs ns->ns.length<=n->s₁.gens = #[] ->
   codeAny (model l.prog w) callerA (.call (.ref fa) ⟨[.ref a],[]⟩) (fun r s'=>r=.ok (.ret (.bool true))/\OldK s₁.heap s'.heap/\s'.os=s₁.os/\AllBare s'.gens) s₁) :
  WalkO q loose XP YP l.row.toRowW d [] (fun f vs=>PySem.call f vs):=by
 intro w bU s₁ mg mb G Y fa o pm cd doc dV kV ho hd hcd hD hmg hg args vals as hpre hlay hrd hwl hlo
 obtain rfl:dV=.none:=Dflts.none hD hdf
 obtain rfl:kV=.none:=Dflts.noKw hD
 obtain⟨a,vs,ns,rfl,rfl,hobj,hints,hlen⟩:=mX hn hpre hwl
 refine enter_call (codeAny_mono (call w bU s₁ mg mb fa o pm cd doc a vs ns G Y ho (fd_plain hd) hcd hmg hobj hints hlen hg) fun r s' hq=>?_)
 obtain⟨rfl,h2,h3,h4⟩:=hq
 exact⟨.inl ⟨.bool true,.bool true,[],rfl,fun _=>rfl,.bool true,mY l _,fun _=>⟨List.Pairwise.nil,fun _ hm=>(nomatch hm)⟩⟩,h2,h3,h4⟩
section
variable {prog:Program} {w:World} {A:Around} {E:Value->Shared->Prop} {s:Shared} {K:Frag}
def ledger (h:Heap) (L d:Addr):List (Addr × Obj):=(List.range h.objs.size).filterMap fun a=>if a=L\/a=d then none else (h.get? a).map fun o=>(a,o)
end
end sr
namespace L2
open PySem PySem.Spec PyProof.Rows
theorem jD:∀ {vs:List Value} {ns:List Int},IntsAre vs ns->Vals (ns.map V.int) vs
 | _,_,.nil=>.nil
 | _,_,.cons n t h=>.cons ⟨t,rfl⟩ (jD h)
def nR (H:Hp):Prop:=∀ b,H b=none\/∃ o xs,H b=some (.cO o (.lst xs))
theorem nS {P:Program} {w:World} {K:PySem.W.Frag} {mg mb:Str->Option Value} {CX:gO} {k:Nat} {fa a:Addr} {fd:FuncData} {x:Str} {sp:Sp} {s₁ : Shared} {vs:List Value} {ns:List Int}
    (KX:K.In s₁.heap) (hns:s₁.heap.Ns mainGlobals mg) (hb:s₁.heap.Ns builtinsNs mb) (hbb:∀ x:Str,x ≠ "__name__" -> mb x=bootBuiltins x) (hlim:s₁.heap.NoLimit) (hg:s₁.gens = #[])
    (ha:s₁.heap.get? a=some { cls:=.type "list",data:=.seq vs.toArray }) (hi:IntsAre vs ns) (hl:ns.length<=sizeLine) (hr:cM k callerA)
    (F:∀ base:Heap,K.In base->base.Ns mainGlobals mg->bC P w K mg base CX k fa fd [x] sp) (hbind:∀ (s:Shared) (u:Value),BindsTo s fd ⟨[u],[]⟩ [(x,u)])
    (hsp:∀ H:Hp,nR H->au K H a (ns.map V.int)->sp [.ref a] H (fun v _=>v=.bl true) fun _ _ _=>False)
    (hCX:∀ H e s',CX [] H s₁ (fun _ _ _=>False) e s'->False) :
    codeAny (model P w) callerA (.call (.ref fa) ⟨[.ref a],[]⟩) (fun r s'=>r=.ok (.ret (.bool true))/\OldK s₁.heap s'.heap/\s'.os=s₁.os/\AllBare s'.gens) s₁:=by
  have rv:=jD hi
  have lenV:=hi.length
  have core:∀ H:Hp,nR H->au K H a (ns.map V.int)->cc P w H s₁.heap->(∀ b,H b ≠ none->b=a)->(H a ≠ none->K.lookup a=none) ->
      codeAny (model P w) callerA (.call (.ref fa) ⟨[.ref a],[]⟩) (fun r s'=>r=.ok (.ret (.bool true))/\OldK s₁.heap s'.heap/\s'.os=s₁.os/\AllBare s'.gens) s₁:=by
    intro H hO hS av hA hK
    have base_of:∀ {b:Addr} {o:Obj},s₁.heap.get? b=some o->H b=none->(gc s₁.heap H).get? b=some o:=fun e n=>nB e n
    have noA:∀ {b:Addr} {o:Obj} {es:Array DictEntry} {ep:Nat},s₁.heap.get? b=some o->o.data=.dict es ep->H b=none:=fun {b o es ep} e d=>by
      cases q:H b with
      | none=>rfl
      | some u =>
        have e':b=a:=hA b (by rw [q];simp)
        subst e'
        rw [ha] at e;cases e
        have d':Data.seq vs.toArray _=Data.dict es ep:=d
        cases d'
    have nsK:∀ {b:Addr} {m:Str->Option Value},s₁.heap.Ns b m->(gc s₁.heap H).Ns b m:=fun {b m} ⟨o,es,ep,e,d,r⟩=>⟨o,es,ep,base_of e (noA e d),d,r⟩
    have hKb:K.In (gc s₁.heap H):=fun b o e=>base_of (KX b o e) (by
      cases q:H b with
      | none=>rfl
      | some u =>
        have e':b=a:=hA b (by rw [q];simp)
        subst e'
        rw [hK (by rw [q];simp)] at e;cases e)
    have hM:Mod K mg (gc s₁.heap H):=⟨hKb,nsK hns,⟨mb,nsK hb,hbb⟩,let ⟨mc,h1,h2⟩:=hlim;⟨mc,nsK h1,h2⟩⟩
    have e0:mh P w K mg (gc s₁.heap H) callerA [] s₁ H:=⟨rfl,hM,fun b o e=>o3 e,Nat.le_of_eq (mL _ _),trivial,fun b hb=>absurd (show b ∈ ([]:List Addr) from hb) (by simp),av,.of_eq hg⟩
    refine codeAny_mono ((F _ hKb (nsK hns)).run callerA [] s₁ H ⟨[.ref a],[]⟩ [.ref a] [.ref a] _ _ hr e0 (hbind s₁ (.ref a)) (.cons rfl .nil) (hsp H hO hS)) fun r s' h=>?_
    cases r with
    | error e=>exact (hCX H e s' h).elim
    | ok fl =>
      cases fl with
      | next=>exact False.elim h
      | brk=>exact False.elim h
      | cont=>exact False.elim h
      | ret u =>
        obtain⟨v,H',os,bare,un,hok',r',q⟩:=h
        have q':v=.bl true:=q
        subst q'
        obtain rfl:u=Value.bool true:=r'
        refine⟨rfl,OldK.of_keep fun b o e=>?_,os,bare⟩
        cases q:H b with
        | none=>exact un.keep b o e q (by intro z;exact absurd (show b ∈ ([]:List Addr) from z) (by simp)) (by simp)
        | some u =>
          rcases hO b with z | ⟨ob,xs,z⟩
          · rw [q] at z;cases z
          · have z2:=un.eR b ob _ z
            obtain⟨e1,_⟩:=av b _ z
            obtain⟨e2,_⟩:=hok' b _ z2
            rw [e] at e1;cases e1
            exact e2
  cases hk:K.lookup a with
  | some o =>
    have e:=KX a o hk
    rw [ha] at e
    cases e
    refine core (fun _=>none) (fun _=>.inl rfl) (.inr ⟨_,vs.toArray,_,hk,rfl,rfl,rfl,by rw [List.size_toArray,lenV];exact hl,by simpa using rv⟩) (fun b u z=>by have z':(none:Option HO)=some u:=z;cases z') (fun b z=>absurd rfl z) fun z=>absurd rfl z
  | none =>
    refine core (fun b=>if b=a then some (.cO { cls:=.type "list",data:=.seq vs.toArray } (.lst (ns.map V.int))) else none) (fun b=>?_) (.inl (.inr ⟨{ cls:=.type "list",data:=.seq vs.toArray },if_pos rfl⟩)) (fun b u z=>?_) (fun b z=>?_) fun _=>hk
    · by_cases hb:b=a
      · exact .inr ⟨_,_,if_pos hb⟩
      · exact .inl (if_neg hb)
    · by_cases hb:b=a
      · have z':=(if_pos hb).symm.trans z
        cases z'
        subst hb
        exact⟨ha,by rw [List.length_map];exact hl,vs,_,rv,ha⟩
      · have z':=(if_neg hb).symm.trans z
        cases z'
    · by_cases hb:b=a
      · exact hb
      · exact absurd (if_neg hb) z
abbrev KOf {K:PySem.W.Frag} {h:Heap} (_:K.In h):PySem.W.Frag:=K
theorem ph {l:PySem.W.OpenLaw} {n k:Nat} {q:Program} {loose:List Str} {XP:(Str->Option Value)->Heap->Prop} {YP:World->Heap->Prop} {d:DefRec} {K:Params->PySem.W.Frag} {CX:World->gO} {sp:World->Sp} {x:Str}
  (hn:l.most=some n) (hn2:n<=sizeLine) (hdf:d.params.defaults = []) (hr:cM k callerA)
  (hY:∀ (w:World) (h:Heap),YP w h->(K w.params).In h)
  (F:∀ (w:World) (mg:Str->Option Value) (fa:Addr) (h:Heap),(K w.params).In h->h.Ns mainGlobals mg->mg d.name=some (.ref fa) ->
   ∃ fd:FuncData,(∀ (s:Shared) (u:Value),BindsTo s fd ⟨[u],[]⟩ [(x,u)]) /\
    ∀ base:Heap,(K w.params).In base->base.Ns mainGlobals mg->bC l.prog w (K w.params) mg base (CX w) k fa fd [x] (sp w))
  (hsp:∀ (w:World) (H:Hp) (a:Addr) (ns:List Int),ns.length<=n->nR H->au (K w.params) H a (ns.map V.int)->sp w [.ref a] H (fun v _=>v=.bl true) fun _ _ _=>False)
  (hCX:∀ (w:World) (H:Hp) (s:Shared) (e:Value) (s':Shared),CX w [] H s (fun _ _ _=>False) e s'->False) :
  PySem.W.WalkO q loose XP YP l.row.toRowW d [] (fun f vs=>PySem.call f vs):=by
 refine sr.kU hn hdf fun w bU s₁ mg mb fa o pm cd doc a vs ns G Y ho hd hcd hmg hobj hints hlen hg=>?_
 have KX:=hY w _ Y
 obtain⟨fd,hb,hF⟩:=F w mg fa _ KX G.T.g hmg
 exact nS KX G.T.g G.T.b G.T.builtins G.T.nolimit hg hobj hints (Nat.le_trans hlen hn2) hr hF hb (fun H hO hS=>hsp w H a ns hlen hO hS) fun H e s'=>hCX w H s₁ e s'
def aQ (s:Stmt):Arguments:=match s with
 | .FunctionDef _ a _ _ _ _ _ _ _ _=>a
 | _=>{ posonlyargs:=[],args:=[],vararg:=none,kwonlyargs:=[],kw_defaults:=[],kwarg:=none,defaults:=[] }
def aN (s:Stmt):List Stmt:=match s with
 | .FunctionDef _ _ b _ _ _ _ _ _ _=>b
 | _=>[]
def ar (s:Stmt):Scope:=match s with
 | .FunctionDef _ _ _ _ _ _ sc _ _ _=>sc
 | _=>{ kind:=.function,names:=[],isGenerator:=false,isCoroutine:=false }
abbrev cJ:gO:=fun _ _ _ _ _ _=>False
abbrev E0:XK:=fun _ _ _=>False
theorem rV {X:Cx}:Passes cJ X E0:=fun _ _ _ _ _ _ _ h=>h.elim
structure dh (K:PySem.W.Frag) (x qual:Str) (st:Stmt) (f:Addr) (fd:FuncData):Prop where
 ex:∃ (oc:Value) (od:Option Addr) (kV doc pm:Value) (an:Option Addr) (cdv ct:Value) (osl:Array (Option Value)),
  fd=PySem.W.fnOf x qual (aQ st) (aN st) (ar st) .none kV doc pm an cdv ct/\K.lookup f=some ⟨oc,od,.func fd,osl⟩/\PySem.W.codeIn K cdv qual=true
 kp:PySem.W.keepIn K (.ref f)=true
section
variable {P:Program} {w:World} {K:PySem.W.Frag} {mg:Str->Option Value} {base:Heap}
theorem dh.ok {x qual:Str} {st:Stmt} {f:Addr} {fd:FuncData} {N ps:List Str} {k:Nat} {sp:Sp} (F:dh K x qual st f fd) (S:aV N ps (ar st)) (len:∀ vs H Q E,sp vs H Q E->vs.length=ps.length)
  (hbody:∀ (cdv:Value) (A:Around) (outer:List Env) (s:Shared) (H:Hp) (vs:List V) (Q:VK) (E:XK),cM k (A.deeper (envOfC qual (ar st) s.heap.objs.size f cdv))->sp vs H Q E ->
   ∃ t,fQ (ja cJ P w K mg base N qual (ar st) f cdv A outer s H E).oI (aN st) t/\t { nx:=fun _ H'=>Q .aY H',rt:=Q } (start N vs) H):bC P w K mg base cJ (k+1) f fd ps sp:=by
 obtain⟨oc,od,kV,doc,pm,an,cdv,ct,osl,rfl,lk,hcd⟩:=F.ex
 refine rR lk hcd S len fun A outer s H vs Q E hr hsp=>?_
 obtain⟨t,h,q⟩:=hbody cdv A outer s H vs Q E hr hsp
 exact⟨t,h.oI,q⟩
theorem dh.binds {x qual:Str} {st:Stmt} {f:Addr} {fd:FuncData} {ps:List Str} (F:dh K x qual st f fd)
  (h:∀ (kV doc pm:Value) (an:Option Addr) (cdv ct:Value) (us:List Value),us.length=ps.length->bindArgs (PySem.W.fnOf x qual (aQ st) (aN st) (ar st) .none kV doc pm an cdv ct) ⟨us,[]⟩=pure (ps.zip us)):Binds K fd ps []:=by
 obtain⟨oc,od,kV,doc,pm,an,cdv,ct,osl,rfl,lk,hcd⟩:=F.ex
 exact .all (h kV doc pm an cdv ct)
theorem bw {x qual:Str} {st:Stmt} {f:Addr} {oc:Value} {od an:Option Addr} {osl:Array (Option Value)} {kV doc pm cdv ct:Value} (l:K.lookup f=some ⟨oc,od,.func (PySem.W.fnOf x qual (aQ st) (aN st) (ar st) .none kV doc pm an cdv ct),osl⟩)
  (c:PySem.W.codeIn K cdv qual=true) (k:PySem.W.keepIn K (.ref f)=true):dh K x qual st f (PySem.W.fnOf x qual (aQ st) (aN st) (ar st) .none kV doc pm an cdv ct):=⟨⟨oc,od,kV,doc,pm,an,cdv,ct,osl,rfl,l,c⟩,k⟩
end
theorem eV {A:Around} {k:Nat} (hr:cM k A):A.units+1 < cLine:=Nat.lt_of_le_of_lt (Nat.add_le_add_left (by decide:1<=64) _) hr.units
theorem bY {n:Nat} (h:n<=1000):n < sizeLine:=Nat.lt_of_le_of_lt h (by decide)
section
variable {X:Cx}
theorem pv (i:Nat) {x:Str} {pos:Pos} (hN:X.N[i]? = some x:=by rfl) (hv:qe X.env.scope x:=by first | exact Or.inl rfl | exact Or.inr (Or.inl rfl) | exact Or.inr (Or.inr rfl)) (hd:(x == ("__debug__" : Str))=false:=by decide)
  (hcd:(x == ("__classdict__" : Str))=false:=by decide):PE X (.Name x pos) (lW i):=qf hN hv hd hcd
end
theorem de {A B:Prop} (h:B):if false=true then A else B:=by
 rw [if_neg Bool.false_ne_true]
 exact h
theorem fH {A B:Prop} (h:A):if true=true then A else B:=by
 rw [if_pos rfl]
 exact h
theorem fm {c A B:Prop} [Decidable c] (h1:c->A) (h2:¬ c->B):if c then A else B:=by
 by_cases h:c
 ·rw [if_pos h]
  exact h1 h
 ·rw [if_neg h]
  exact h2 h
def ah (H H':Hp):Prop:=∀ b o,H b=some o->H' b=some o
theorem ah.refl (H:Hp):ah H H:=fun _ _ h=>h
theorem ah.trans {H H1 H2:Hp} (a:ah H H1) (b:ah H1 H2):ah H H2:=fun c o h=>b c o (a c o h)
theorem ah.free {H H':Hp} (e:ah H H') {l:Addr} (h:H' l=Option.none):H l=Option.none:=by
 cases q:H l with
 | none=>rfl
 | some o =>
  rw [e l o q] at h
  cases h
section
variable {X:Cx}
theorem pA:cI X (binaryOp .Mult) (rI IntMulOk fun i j=>.int (i * j)):=lB fun _ _ _ _ _ _ _ hc q=>mul_int q hc
def rW (_i j:Int):Prop:=0 < j/\j.natAbs.log2 < 9000
theorem nT:cI X (binaryOp .FloorDiv) (rI rW fun i j=>.int (i / j)):=lB fun i j _ _ _ _ _ hc q=>by
 have h1:(0:Int) < j:=hc.1
 exact floordiv_int (by omega) (by rw [Int.fdiv_eq_ediv_of_nonneg i (by omega)];exact q) (.inl (PyProof.noPylong_of_log2 hc.2))
structure Own (P:Program) (w:World) (K:PySem.W.Frag) (mg:Str->Option Value) (base:Heap) (x:Str) (k:Nat) (ps:List Str) (sp:Sp):Prop where
 ex:∃ f fd,bC P w K mg base cJ k f fd ps sp/\mg x=some (.ref f)/\PySem.W.keepIn K (.ref f)=true/\Binds K fd ps []
variable {x:Str} {k:Nat} {ps:List Str} {sp:Sp} {e:Expr} {es:List Expr} {t:TA} {p pos:Pos}
theorem ay (o:Own X.prog X.w X.K X.mg X.base x k ps sp) (hr:cM k X.A) (hg:Gl X x) (ha:PA X (e :: es) t)
  (hdb:(x == ("__debug__" : Str))=false:=by decide) (he:starEach (e :: es) X.env=(false,eval e X.env) :: starEach es X.env:=by rfl)
  (hpl:(backTo pos (starEach es X.env)).any (·.1)=false:=by rfl):PE X (.Call (.Name x p) (e :: es) [] pos) (oP sp [] E0 t):=by
 obtain⟨f,fd,F,hm,hk,hb⟩:=o.ex
 exact o6 F hr hg hm hk hb .nil rV ha hdb he hpl
end
theorem dP {α : Type} {x:α} {xs:List α}:dE (x :: xs) 0=some x:=bg (j:=0) rfl
theorem eU {α : Type} {x y:α} {xs:List α}:dE (x :: y :: xs) 1=some y:=bg (j:=1) rfl
theorem at2 {α : Type} {x y z:α} {xs:List α}:dE (x :: y :: z :: xs) 2=some z:=bg (j:=2) rfl
theorem mr {α : Type} {xs:List α} {i:Int} (h0:0<=i) (h1:i < xs.length):∃ v,dE xs i=some v/\v ∈ xs:=by
 obtain⟨j,rfl⟩:∃ j:Nat,i=j:=⟨i.toNat,by omega⟩
 have hj:j < xs.length:=by omega
 exact⟨xs[j],bg (by simp [hj]),List.getElem_mem hj⟩
theorem eJ:bootBuiltins "len" = some (.builtin "len"):=by decide +kernel
theorem qJ:bootBuiltins "min" = some (.builtin "min"):=by decide +kernel
theorem mZ:bootBuiltins "int" = some (.type "int"):=by decide +kernel
theorem cN:bootBuiltins "tuple" = some (.type "tuple"):=by decide +kernel
theorem pB:bootBuiltins "list" = some (.type "list"):=by decide +kernel
def bt (H:Hp) (b:Addr):Prop:=∃ x y:Int,H b=some (.lst [.int x,.int y])/\0<=y/\y < 2147483648
def Fix (b:Addr) (H H':Hp):Prop:=∀ c o,H c=some o->c ≠ b->H' c=some o
theorem Fix.trans {b:Addr} {H H1 H2:Hp} (u:Fix b H H1) (v:Fix b H1 H2):Fix b H H2:=fun c o h n=>v c o (u c o h n) n
theorem Fix.oR {b:Addr} {H:Hp} {o:HO}:Fix b H (upd H b o):=fun c u h n=>by rw [ae n];exact h
theorem Fix.new {b p:Addr} {H:Hp} {o:HO} (hp:H p=none):Fix b H (upd H p o):=fun c u h _=>by rw [ae (aG h hp)];exact h
theorem Fix.of_same {b:Addr} {H H':Hp} (h:ah H H'):Fix b H H':=fun c o e _=>h c o e
theorem ah.new {p:Addr} {H:Hp} {o:HO} (hp:H p=none):ah H (upd H p o):=fun c u h=>by rw [ae (aG h hp)];exact h
theorem bt.new {b p:Addr} {H:Hp} {o:HO} (h:bt H b) (hp:H p=none):bt (upd H p o) b:=by
 obtain⟨x,y,e,q⟩:=h
 exact⟨x,y,by rw [ae (aG e hp)];exact e,q⟩
theorem bt.same {b:Addr} {H H':Hp} (h:bt H b) (s:ah H H'):bt H' b:=by
 obtain⟨x,y,e,q⟩:=h
 exact⟨x,y,s _ _ e,q⟩
theorem oT {α : Type} {x0:α}:[x0].length<=sizeLine:=by show 1<=sizeLine;decide
theorem ln2 {α : Type} {x0 x1:α}:[x0,x1].length<=sizeLine:=by show 2<=sizeLine;decide
theorem oU {α : Type} {x0 x1 x2:α}:[x0,x1,x2].length<=sizeLine:=by show 3<=sizeLine;decide
theorem tS {α : Type} {x0 x1 x2 x3 x4:α}:[x0,x1,x2,x3,x4].length<=sizeLine:=by show 5<=sizeLine;decide
theorem tT {α : Type} {x0 x1 x2 x3 x4 x5 x6:α}:[x0,x1,x2,x3,x4,x5,x6].length<=sizeLine:=by show 7<=sizeLine;decide
theorem ah.qK {b:Addr} {H H1 H2:Hp} (s:ah H H1) (n:H b=none) (f:Fix b H1 H2):ah H H2:=fun c o e=>f c o (s c o e) (aG e n)
theorem bt.j8 {b p:Addr} {H:Hp} {xs:List V} (h:bt H b) (e:H p=some (.tup xs)):p ≠ b:=by
 obtain⟨x,y,e1,_⟩:=h
 exact bF e e1 (by intro z;cases z)
theorem bt.cP {b p:Addr} {H:Hp} (h:bt H b) (e:H p=none):p ≠ b:=by
 obtain⟨x,y,e1,_⟩:=h
 exact fun z=>aG e1 e z.symm
def mv (K:PySem.W.Frag):Sp:=fun vs H Q _=>∃ (a:Addr) (ns:List Int) (k:Int),vs = [.ref a,.int k]/\au K H a (ns.map V.int)/\0<=k /\
 ∀ b H',H b=none->bt H' b->ah H H'->Q (.ref b) H'
def dG:Sp:=fun vs H Q _=>∃ (b:Addr) (m:Int),vs = [.ref b,.int m]/\bt H b/\(0 < m/\m.natAbs.log2 < 9000) /\
 ∀ r H',0<=r->r < m->bt H' b->Fix b H H'->Q (.int r) H'
def jQ (K:PySem.W.Frag):Sp:=fun vs H Q _=>∃ (a:Addr) (ns:List Int),vs = [.ref a]/\au K H a (ns.map V.int)/\ns.length<=63/\∀ H',Q (.bl true) H'
def dH (cells:List (Str × Addr)):List (Str × NameKind)->List (Str × Addr)->List (Str × Addr)
 | [],cs=>cs
 | (n,k) :: r,cs=>dH cells r (if k == .free then (n,(cells.lookup n).getD 0) :: cs else cs)
theorem eW {scope:Scope} {env:Env} (hf:∀ y ∈ scope.names,y.2=.free->∃ c,env.cells.lookup y.1=some c):closureFor scope env=pure (dH env.cells scope.names []):=by
 have key:∀ (names:List (Str × NameKind)) (cs:List (Str × Addr)),(∀ y ∈ names,y.2=.free->∃ c,env.cells.lookup y.1=some c) ->
   (forIn names cs fun x r=>match x with
    | (name,kind)=>if (kind == NameKind.free)=true then (do let a <-cellOf env name;pure (ForInStep.yield ((name,a) :: r))) else pure (ForInStep.yield r):Sem (List (Str × Addr)))=pure (dH env.cells names cs):=by
  intro names
  induction names with
  | nil=>intro cs _;rfl
  | cons y r ih =>
   intro cs hy
   obtain⟨n,k⟩:=y
   have ih':=fun cs=>ih cs fun z hz=>hy z (List.mem_cons_of_mem _ hz)
   rw [List.forIn_cons]
   by_cases hk:(k == NameKind.free)=true
   ·have e:k=.free:=by simpa using hk
    obtain⟨c,hc⟩:=hy (n,k) List.mem_cons_self e
    have hc':env.cells.lookup n=some c:=hc
    simp only [hk,if_true,cellOf,hc',pure_bind,dH,Option.getD_some]
    exact ih' _
   ·have hk':(k == NameKind.free)=false:=by simpa using hk
    simp only [hk',Bool.false_eq_true,if_false,pure_bind,dH]
    exact ih' _
 unfold closureFor
 have e:=key scope.names [] hf
 show ((forIn scope.names ([]:List (Str × Addr)) fun x r=>match x with
    | (name,kind)=>if (kind == NameKind.free)=true then (do let a <-cellOf env name;pure (ForInStep.yield ((name,a) :: r))) else pure (ForInStep.yield r):Sem (List (Str × Addr))) >>= fun r=>pure r)=_
 rw [e,pure_bind]
theorem eM {cells:List (Str × Addr)}:∀ (names:List (Str × NameKind)) (cs:List (Str × Addr)),(∀ y ∈ names,y.2=.free->∃ c,cells.lookup y.1=some c) ->
  (∀ x c,cs.lookup x=some c->cells.lookup x=some c)->∀ x c,(dH cells names cs).lookup x=some c->cells.lookup x=some c
 | [],_,_,h,x,c,e=>h x c e
 | (n,k) :: r,cs,hf,h,x,c,e=>by
  refine eM r _ (fun y hy=>hf y (List.mem_cons_of_mem _ hy)) (fun z d hz=>?_) x c e
  by_cases hk:(k == NameKind.free)=true
  ·rw [if_pos hk] at hz
   obtain⟨c',hc⟩:=hf (n,k) List.mem_cons_self (by simpa using hk)
   have hc':cells.lookup n=some c':=hc
   rw [List.lookup_cons] at hz
   cases hzn:z == n with
   | true =>
    rw [hzn] at hz
    have:z=n:=by simpa using hzn
    subst this
    rw [hc'] at hz ⊢
    simpa using hz
   | false=>rw [hzn] at hz;exact h z d hz
  ·rw [if_neg hk] at hz;exact h z d hz
theorem fT {cells:List (Str × Addr)} {x:Str}:∀ (names:List (Str × NameKind)) (cs:List (Str × Addr)),((x,NameKind.free) ∈ names\/∃ c,cs.lookup x=some c)->∃ c,(dH cells names cs).lookup x=some c
 | [],_,h=>by
  rcases h with h | h
  ·cases h
  ·exact h
 | (n,k) :: r,cs,h=>by
  refine fT r _ ?_
  by_cases hk:(k == NameKind.free)=true
  ·rw [if_pos hk]
   cases hxn:x == n with
   | true=>exact .inr ⟨_,by rw [List.lookup_cons,hxn]⟩
   | false =>
    rcases h with h | ⟨c,h⟩
    ·rcases List.mem_cons.mp h with h | h
     ·have:x=n:=(Prod.mk.inj h).1
      subst this
      simp at hxn
     ·exact .inl h
    ·exact .inr ⟨c,by rw [List.lookup_cons,hxn];exact h⟩
  ·rw [if_neg hk]
   rcases h with h | h
   ·rcases List.mem_cons.mp h with h | h
    ·have:NameKind.free=k:=(Prod.mk.inj h).2
     subst this
     simp at hk
    ·exact .inl h
   ·exact .inr h
theorem fo {env:Env} {x:Str} {k:NameKind} (hk:k=.cell\/k=.free):∀ {names:List (Str × NameKind)},(∀ y ∈ names,y.2 ≠ .cell) ->
  (names.map fun (n,k)=>if (k == NameKind.free && env.scope.kind == .function && env.kindOf n == some .cell) then (n,NameKind.cell) else (n,k)).lookup x=some k->(x,NameKind.free) ∈ names
 | [],_,h=>by simp at h
 | (n,q) :: r,hc,h=>by
  have ih:=fo (env:=env) (x:=x) hk (names:=r) (fun y hy=>hc y (List.mem_cons_of_mem _ hy))
  have h':List.lookup x ((if (q == NameKind.free && env.scope.kind == .function && env.kindOf n == some .cell)=true then (n,NameKind.cell) else (n,q)) :: _)=some k:=h
  by_cases hq:(q == NameKind.free && env.scope.kind == .function && env.kindOf n == some .cell)=true
  ·rw [if_pos hq,List.lookup_cons] at h'
   have eq:q=.free:=by
    rw [Bool.and_eq_true,Bool.and_eq_true] at hq
    simpa using hq.1.1
   cases hxn:x == n with
   | true =>
    have:x=n:=by simpa using hxn
    subst this;subst eq
    exact List.mem_cons_self
   | false=>rw [hxn] at h';exact List.mem_cons_of_mem _ (ih h')
  ·rw [if_neg hq,List.lookup_cons] at h'
   cases hxn:x == n with
   | true =>
    rw [hxn] at h'
    have:x=n:=by simpa using hxn
    subst this
    have e:q=k:=Option.some.inj h'
    subst e
    rcases hk with hk | hk
    ·exact absurd hk (hc (x,q) List.mem_cons_self)
    ·subst hk;exact List.mem_cons_self
   | false=>rw [hxn] at h';exact List.mem_cons_of_mem _ (ih h')
theorem d3 {env:Env} {x:Str}:∀ {names:List (Str × NameKind)},names.lookup x=some .free ->
  (names.map fun (n,k)=>if (k == NameKind.free && env.scope.kind == .function && env.kindOf n == some .cell) then (n,NameKind.cell) else (n,k)).lookup x=some .cell \/
  (names.map fun (n,k)=>if (k == NameKind.free && env.scope.kind == .function && env.kindOf n == some .cell) then (n,NameKind.cell) else (n,k)).lookup x=some .free
 | [],h=>by simp at h
 | (n,q) :: r,h=>by
  have ih:=d3 (env:=env) (x:=x) (names:=r)
  show List.lookup x ((if (q == NameKind.free && env.scope.kind == .function && env.kindOf n == some .cell)=true then (n,NameKind.cell) else (n,q)) :: _)=some .cell \/
   List.lookup x ((if (q == NameKind.free && env.scope.kind == .function && env.kindOf n == some .cell)=true then (n,NameKind.cell) else (n,q)) :: _)=some .free
  rw [List.lookup_cons] at h
  by_cases hq:(q == NameKind.free && env.scope.kind == .function && env.kindOf n == some .cell)=true
  ·rw [if_pos hq,List.lookup_cons]
   cases hxn:x == n with
   | true=>exact .inl rfl
   | false=>rw [hxn] at h;exact ih h
  ·rw [if_neg hq,List.lookup_cons]
   cases hxn:x == n with
   | true=>rw [hxn] at h;exact .inr h
   | false=>rw [hxn] at h;exact ih h
def bc (X:Cx) (scope:Scope) (C:Addr) (N':List Str) (fp:List Addr) (s₁ : Shared) (H₁ : Hp):Cx where
 prog:=X.prog
 w:=X.w
 K:=X.K
 mg:=X.mg
 base:=X.base
 A:=X.A
 N:=N'
 bU:=s₁
 gd:=H₁
 env:=compEnvC scope (dH X.env.cells scope.names []) C X.env
 outer:=X.stack
 stack:=X.stack
 ex:=fp
 fn:=fun _=>false
 calm:=X.calm
 pn:=[]
 xe:=fun _ _=>False
def dn (X:Cx) (scope:Scope):List Str->List Nat->Prop
 | [],[]=>True
 | x :: fr,j :: js=>(X.N[j]? = some x/\(X.env.kindOf x=some .cell\/X.env.kindOf x=some .free)/\scope.names.lookup x=some .free)/\dn X scope fr js
 | _,_=>False
theorem dn.len {X:Cx} {scope:Scope}:∀ {fr:List Str} {js:List Nat},dn X scope fr js->fr.length=js.length
 | [],[],_=>rfl
 | _ :: _,_ :: _,h=>by simp [dn.len h.2]
 | [],_ :: _,h=>h.elim
 | _ :: _,[],h=>h.elim
theorem dn.mem {X:Cx} {scope:Scope} {x:Str}:∀ {fr:List Str} {js:List Nat},dn X scope fr js->x ∈ fr->X.env.kindOf x=some .cell\/X.env.kindOf x=some .free
 | [],[],_,h=>by cases h
 | a :: fr,b :: js,h,hm=>by
  rcases List.mem_cons.mp hm with rfl | hm
  ·exact h.1.2.1
  ·exact dn.mem h.2 hm
 | [],_ :: _,h,_=>h.elim
 | _ :: _,[],h,_=>h.elim
theorem dn.get {X:Cx} {scope:Scope}:∀ {fr:List Str} {js:List Nat} {i:Nat} {x:Str} {j:Nat},dn X scope fr js->fr[i]? = some x->js[i]? = some j ->
  X.N[j]? = some x/\(X.env.kindOf x=some .cell\/X.env.kindOf x=some .free)/\scope.names.lookup x=some .free
 | [],[],_,_,_,_,h,_=>by simp at h
 | a :: fr,b :: js,0,x,j,h,h1,h2=>by
  simp at h1 h2
  subst h1;subst h2
  exact h.1
 | a :: fr,b :: js,i+1,x,j,h,h1,h2=>dn.get h.2 (by simpa using h1) (by simpa using h2)
 | [],_ :: _,_,_,_,h,_,_=>h.elim
 | _ :: _,[],_,_,_,h,_,_=>h.elim
def di (n:Nat) (js:List Nat) (σ : St):St:=List.replicate n none++js.map fun j=>σ.getD j none
theorem j9 {X:Cx} {pins:List (Addr × Obj)} {σ : St} {H:Hp} {s:Shared} {scope:Scope} {fp:List Addr} {C:Addr} {N':List Str} (I:Inv X pins σ H s) (hk:scope.kind=.function) (hcell:∀ y ∈ scope.names,y.2 ≠ .cell)
  (hf:∀ y ∈ scope.names,y.2=.free->∃ c,X.env.cells.lookup y.1=some c) (hC:s.heap.objs.size<=C) (hfp:∀ b ∈ fp,dc X pins H b) (hlt:∀ b ∈ fp,b < s.heap.objs.size):(bc X scope C N' fp s H).Ok:=by
 have ag:∀ x c,(dH X.env.cells scope.names []).lookup x=some c->X.env.cells.lookup x=some c:=eM scope.names [] hf fun x c e=>by simp at e
 refine⟨I.ok.mod,hk,I.ok.glob,I.ok.blt,hC,fun x y c h1 h2=>I.ok.inj x y c (ag x c h1) (ag y c h2),fun x hx=>?_,(fun x c h=>(by cases h)),I.ok.hd,I.ok.frames,.inl rfl,fun b hb=>?_,I.bs,?_,fun b o e hb=>?_,fun b hb=>?_,I.stack,I.ll⟩
 ·refine fT scope.names [] (.inl ?_)
  rcases hx with hx | hx
  ·exact fo (.inl rfl) hcell hx
  ·exact fo (.inr rfl) hcell hx
 ·obtain⟨h1,h2,h3,h4,h5,h6⟩:=hfp b hb
  exact⟨Nat.ne_of_lt (Nat.lt_of_lt_of_le (hlt b hb) hC),fun x c e=>h5 x c (ag x c e)⟩
 ·exact Nat.le_trans I.ok.jt I.sz
 ·obtain⟨h1,h2,h3,h4,h5,h6⟩:=hfp b hb
  rcases h4 with h4 | h4
  ·exact I.ok.jV b o e h4
  ·exact absurd (Nat.lt_of_lt_of_le (Heap.lt_size e) (Nat.le_trans I.ok.jt h4)) (Nat.lt_irrefl _)
 ·obtain⟨h1,h2,h3,h4,h5,h6⟩:=hfp b hb
  intro z
  rcases List.mem_cons.mp (I.fP b z) with z | z
  ·exact h2 z
  ·exact h3 z
def lK (J:It) (n:Nat) (js:List Nat) (g:TG) (ct:TT) (te:TE) (acc:Addr) (σ : St) (H1:Hp) (Q:VK):Prop :=
 ∃ W:Nat->Nat->List V->St->Hp->Prop,(∃ m,W 0 m [] (di n js σ) (upd H1 acc (.lst [])))/\∀ i m ys τ H2,W i m ys τ H2->H2 acc=some (.lst ys)/\ys.length < sizeLine /\
  ((J.stop i H2/\Q (.ref acc) H2)\/(J.go i H2/\∃ N:List V->St->Hp->Prop,(∀ ys' τ' H',N ys' τ' H'->∃ m',m' < m/\W (i+1) m' ys' τ' H')/\∀ x H3,J.ie i H2 x H3->g x τ H3 fun τ1 H4=>ct τ1 H4 fun b H5 =>
   if b=true then te τ1 H5 fun y H6=>H6 acc=some (.lst ys)/\N (ys ++ [y]) τ1 (upd H6 acc (.lst (ys ++ [y]))) else N ys τ1 H5))
def sx (n:Nat) (js:List Nat) (wi:TI) (g:TG) (ct:TT) (te:TE):TE:=fun σ H Q=>wi σ H fun J H1=>∀ acc,H1 acc=none->lK J n js g ct te acc σ H1 Q
def gR (X:Cx) (ifs:List Expr) (t:TT):Prop :=
 ∀ (pins:List (Addr × Obj)) (s:Shared) (σ : St) (H:Hp) (Q:Bool->Hp->Prop),Inv X pins σ H s->t σ H Q ->
  wpAny (model X.prog X.w) X.A (forIn ifs true fun c r=>if r=true then do let ok <-isTrue c X.env (eval c X.env);pure (ForInStep.yield ok) else pure (ForInStep.yield r)) (TP X pins σ Q) X.xe s
def qL:TT:=fun _ H Q=>Q true H
theorem bZ {X:Cx}:gR X [] qL:=fun _ _ σ H Q I h=>wpAny_pure ⟨H,I,h⟩
theorem e6 {X:Cx} {c:Expr} {t:TT} (h:PT X c t):gR X [c] t:=by
 intro pins s σ H Q I q
 rw [List.forIn_cons]
 simp only [if_true,bind_assoc,pure_bind]
 refine wpAny_bind (aA (h pins s σ H Q I q) fun b s1 h1=>?_)
 exact wpAny_pure h1
section
variable {X:Cx} {pos:Pos}
theorem gG {prog:Program} {w:World} {A:Around} {R:Result->Shared->Prop} {s:Shared} {elt target iter:Expr} {ifs:List Expr} {scope:Scope} {pos:Pos} {it acc:Value} {env:Env} (I:Nat->Shared->Prop)
  (turn:∀ n s,I n s->wpAny (model prog w) A (pyNext it) (fun r s₁=>match r with
   | none=>R (.ok .next) s₁
   | some v=>wpAny (model prog w) A (letOwnedTupleGo target it v) (fun _ s₁'=>wpAny (model prog w) A (assign target env v) (fun _ s₂ =>
     wpAny (model prog w) A (forIn ifs true fun c r=>if r=true then do let ok <-isTrue c env (eval c env);pure (ForInStep.yield ok) else pure (ForInStep.yield r)) (fun ok s₃ =>
      if ok=true then wpAny (model prog w) A (eval elt env) (fun x s₄ =>
       wpAny (model prog w) A (call (.builtin "list.append") [acc,x]) (fun _ s₅=>∃ m,m < n/\I m s₅) (fun _ _=>False) s₄) (fun _ _=>False) s₃
      else ∃ m,m < n/\I m s₃) (fun _ _=>False) s₂) (fun _ _=>False) s₁') (fun _ _=>False) s₁) (fun _ _=>False) s)
  (n:Nat) (h:I n s) :
  codeAny (model prog w) A (.compLoop (.ListComp elt [⟨target,iter,ifs,0⟩] scope pos) 0 it acc env) R s:=by
 refine codeAny_loop rfl I (fun n s hI=>?_) n h
 show wpAny _ A ((compTurn (.ListComp elt [⟨target,iter,ifs,0⟩] scope pos) 0 it acc env).onRaise (fun x=>do noteFrame x env;theTreesLotGoes x)) _ _ s
 refine wpAny_noted ?_
 rw [compTurn_list]
 refine wpAny_bind (wpAny_standAt (wpAny_bind (wpAny_mono (turn n s hI) (fun r s₁ h₁=>?_) fun _ _ h'=>h'.elim)))
 cases r with
 | none=>exact wpAny_pure h₁
 | some v =>
  refine wpAny_bind (wpAny_mono h₁ (fun _ s₁' h₁'=>?_) fun _ _ h'=>h'.elim)
  refine wpAny_bind (wpAny_mono h₁' (fun _ s₂ h₂=>wpAny_bind (wpAny_mono h₂ (fun ok s₃ h₃=>?_) fun _ _ h'=>h'.elim)) fun _ _ h'=>h'.elim)
  cases ok with
  | false=>exact wpAny_pure ⟨rfl,h₃⟩
  | true =>
   exact wpAny_bind (wpAny_bind (wpAny_mono h₃ (fun x s₄ h₄=>wpAny_bind (wpAny_mono h₄ (fun _ s₅ h₅=>wpAny_pure (wpAny_pure ⟨rfl,h₅⟩)) fun _ _ h'=>h'.elim)) fun _ _ h'=>h'.elim))
theorem lL {pins:List (Addr × Obj)} {σ : St} {H:Hp} {s:Shared} {E:Value->Shared->Prop} {tg elt iter:Expr} {ifs:List Expr} {scope:Scope} {g:TG} {ct:TT} {te:TE} {ts fr:List Str} {js:List Nat}
    {it:Addr} {fp:List Addr} {tn:Nat->Heap->Prop} {J:It} {Q:VK} {RR:Value->Addr->Result->Shared->Prop}
    (hc:X.calm=true) (hkind:scope.kind=.function) (hcell:∀ y ∈ scope.names,y.2 ≠ .cell) (hfree:∀ y ∈ scope.names,y.2=.free->X.env.kindOf y.1=some .cell\/X.env.kindOf y.1=some .free)
    (hfr:dn X scope fr js) (htg:∀ C fp s₁ H₁,PG (bc X scope C (ts++fr) fp s₁ H₁) tg g) (hct:∀ C fp s₁ H₁,gR (bc X scope C (ts++fr) fp s₁ H₁) ifs ct) (hte:∀ C fp s₁ H₁,PE (bc X scope C (ts++fr) fp s₁ H₁) elt te)
    (I:Inv X pins σ H s) (T:Turn X.prog X.w X.K tg J fp it tn) (st:tn 0 s.heap) (hfp:∀ b ∈ fp,dc X pins H b)
    (h:∀ acc,H acc=none->lK J ts.length js g ct te acc σ H Q)
    (hRR:∀ acc C H' s' m,Inv X pins σ H' s'->s'.heap.Ns C m->H' C=none->s.heap.objs.size<=C->Q (.ref acc) H'->RR (.ref acc) C (.ok .next) s') :
    wpAny (model X.prog X.w) X.A (newList []) (fun acc s₃=>wpAny (model X.prog X.w) X.A (newFunctionEnv scope X.env.globals (dH X.env.cells scope.names []) [] X.env.qual none .none (some X.env)) (fun cenv s₄ =>
      codeAny (model X.prog X.w) X.A (.compStart (.ListComp elt [⟨tg,iter,ifs,0⟩] scope pos) 0 (.ref it) acc { cenv with scope:=relabel scope X.env }) (RR acc cenv.locals) s₄) E s₃) E s:=by
  have hf:∀ y ∈ scope.names,y.2=.free->∃ c,X.env.cells.lookup y.1=some c:=fun y hy e=>I.ok.has y.1 (hfree y hy e)
  have ag:∀ x c,(dH X.env.cells scope.names []).lookup x=some c->X.env.cells.lookup x=some c:=eM scope.names [] hf fun x c e=>by simp at e
  have hlt:∀ b ∈ fp,b < s.heap.objs.size:=fun b hb=>by
    obtain⟨o,e,_⟩:=T.obj _ _ st b hb
    exact Heap.lt_size e
  refine wpAny_newObj_type (wpAny_newFunctionEnv hcell (by intro y hy;simp at hy) (fun h₁ hns₁ hsb₁=>?_) hkind)
  dsimp only at hns₁ hsb₁ ⊢
  generalize hH2:s.heap.push { cls:=.type "list",dict:=none,data:=.seq ([]:List Value).toArray }=G2 at hns₁ hsb₁ ⊢
  have hC:G2.objs.size=s.heap.objs.size+1:=by rw [<-hH2,Heap.size_push]
  have hDC:s.heap.objs.size ≠ G2.objs.size:=by rw [hC];exact Nat.ne_of_lt (Nat.lt_succ_self _)
  have hCle:s.heap.objs.size<=G2.objs.size:=by rw [hC];exact Nat.le_succ _
  have below:∀ b,b < s.heap.objs.size->b ≠ G2.objs.size/\b ≠ s.heap.objs.size:=fun b hb=>⟨by rw [hC];exact Nat.ne_of_lt (Nat.lt_succ_of_lt hb),Nat.ne_of_lt hb⟩
  have old:∀ b o,s.heap.get? b=some o->h₁.get? b=some o:=fun b o e=>hsb₁.extBut b o (below b (Heap.lt_size e)).1 (Heap.get?_push_of_some _ (hH2 ▸ Heap.get?_push_of_some _ e))
  have hacc:h₁.get? s.heap.objs.size=some { cls:=.type "list",data:=.seq ([]:List Value).toArray }:=hsb₁.extBut _ _ hDC (Heap.get?_push_of_some _ (hH2 ▸ Heap.get?_push_size _ rfl))
  have nD:H s.heap.objs.size=none:=I.av.fresh (Nat.le_refl _)
  have nC:H G2.objs.size=none:=I.av.fresh hCle
  obtain⟨W,⟨m0,w0⟩,turn⟩:=h s.heap.objs.size nD
  generalize hXb:bc X scope G2.objs.size (ts++fr) fp s H=Xb
  have Ib:∀ tk,Inv Xb [] (di ts.length js σ) (upd H s.heap.objs.size (.lst [])) { s with heap:=h₁,toks:=tk }:=by
    intro tk
    subst hXb
    refine⟨j9 I hkind hcell hf hCle hfp hlt,rfl,I.bare,Un.laid old (Nat.le_refl _) nD,⟨_,hns₁,fun i x v e1 e2 e3=>?_⟩,fun x c e=>?_,?_,fun x c e=>?_,fun p hp=>absurd (show p ∈ ([]:List (Addr × Obj)) from hp) (by simp),I.av.laid old (Nat.le_refl _) ⟨by show 0<=sizeLine;decide,[],_,.nil,hacc⟩,?_⟩
    · have hi:ts.length<=i:=by
        refine Nat.le_of_not_lt fun hi=>?_
        unfold di at e2
        rw [List.getElem?_append_left (by simpa using hi),List.getElem?_replicate] at e2
        split at e2 <;> cases e2
      have e1':fr[i - ts.length]? = some x:=by
        have e1'':(ts++fr)[i]? = some x:=e1
        rw [List.getElem?_append_right hi] at e1''
        exact e1''
      unfold di at e2
      rw [List.getElem?_append_right (by simpa using hi),List.length_replicate,List.getElem?_map] at e2
      cases ej:js[i - ts.length]? with
      | none=>rw [ej] at e2;cases e2
      | some j =>
        rw [ej] at e2
        have e2':σ.getD j none=some v:=by simpa using e2
        obtain⟨q1,q2,q3⟩:=hfr.get e1' ej
        have e2'':σ[j]? = some (some v):=by
          rw [List.getD_eq_getElem?_getD] at e2'
          cases ez:σ[j]? with
          | none=>rw [ez] at e2';cases e2'
          | some z=>rw [ez] at e2';rw [show z=some v from e2']
        obtain⟨m,hn,hl⟩:=I.loc
        obtain⟨u,r,l⟩:=hl j x v q1 e2'' (by
          rcases q2 with q2 | q2
          · exact .inr (.inl q2)
          · exact .inr (.inr q2))
        refine⟨u,r,.inr ⟨d3 q3,?_⟩⟩
        rcases l with ⟨l,_⟩ | ⟨_,c,lc,lv⟩
        · rcases q2 with q2 | q2 <;> (rw [l] at q2;cases q2)
        · obtain⟨c',hc'⟩:=fT (cells:=X.env.cells) scope.names [] (.inl (PySem.mem_of_lookup q3))
          have:=ag x c' hc'
          rw [lc] at this
          cases this
          obtain⟨o,ho,hd⟩:=lv
          exact⟨c,hc',o,old _ _ ho,hd⟩
    · obtain⟨v,o,ho,hd⟩:=I.cell x c (ag x c e)
      exact⟨v,o,old _ _ ho,hd⟩
    · show upd H s.heap.objs.size (.lst []) G2.objs.size=none
      rw [ae hDC.symm];exact nC
    · obtain⟨v,o,ho,hd⟩:=I.cell x c (ag x c e)
      rw [ae (Nat.ne_of_lt (Heap.lt_size ho))]
      exact I.cK x c (ag x c e)
    · show (di ts.length js σ).length=(ts++fr).length
      unfold di
      rw [List.length_append,List.length_replicate,List.length_map,List.length_append,hfr.len]
  have fpB:∀ {H':Hp},(∀ b ∈ fp,H' b=none)->∀ b ∈ fp,dc Xb [] H' b:=fun {H'} hn b hb=>by
    subst hXb
    obtain⟨h1,h2,h3,h4,h5,h6⟩:=hfp b hb
    refine⟨hn b hb,(below b (hlt b hb)).1,fun z=>?_,.inl hb,fun x c e=>h5 x c (ag x c e),fun p hp=>absurd (show p ∈ ([]:List (Addr × Obj)) from hp) (by simp)⟩
    rcases List.mem_cons.mp (I.fP b z) with z | z
    · exact h2 z
    · exact h3 z
  have fin:∀ {τ : St} {H':Hp} {s':Shared},Inv Xb [] τ H' s'->Q (.ref s.heap.objs.size) H'->RR (.ref s.heap.objs.size) G2.objs.size (.ok .next) s':=fun {τ H' s'} Jb q=>by
    subst hXb
    obtain⟨m,hn,_⟩:=Jb.loc
    refine hRR _ _ H' s' m (I.lV (ch:=fp) Jb.os Jb.base Jb.av Jb.bare fun b hb=>?_) hn Jb.free hCle q
    obtain⟨h1,h2,h3,h4,h5,h6⟩:=hfp b hb
    exact⟨h4,h2,h5,h6⟩
  have loop:∀ tk,codeAny (model X.prog X.w) X.A (.compLoop (.ListComp elt [⟨tg,iter,ifs,0⟩] scope pos) 0 (.ref it) (.ref s.heap.objs.size) (compEnvC scope (dH X.env.cells scope.names []) G2.objs.size X.env))
        (RR (.ref s.heap.objs.size) G2.objs.size) { s with heap:=h₁,toks:=tk }:=by
    intro tk
    refine gG (fun n s'=>∃ i ys τ H',Inv Xb [] τ H' s'/\tn i s'.heap/\(∀ b ∈ fp,H' b=none)/\W i n ys τ H') ?_ m0 ⟨0,[],_,_,Ib tk,T.keep _ _ _ st fun b hb o e=>old b o e,fun b hb=>?_,w0⟩
    · rintro n s3 ⟨i,ys,τ,H3,I3,st3,fr3,w3⟩
      have htg':=htg G2.objs.size fp s H
      have hct':=hct G2.objs.size fp s H
      have hte':=hte G2.objs.size fp s H
      rw [hXb] at htg' hct' hte'
      have eP:Xb.prog=X.prog:=by subst hXb;rfl
      have ew:Xb.w=X.w:=by subst hXb;rfl
      have eK:Xb.K=X.K:=by subst hXb;rfl
      have eA:Xb.A=X.A:=by subst hXb;rfl
      have ec:Xb.calm=true:=by subst hXb;exact hc
      have ee:Xb.env=compEnvC scope (dH X.env.cells scope.names []) G2.objs.size X.env:=by subst hXb;rfl
      have ex:Xb.xe=fun _ _=>False:=by subst hXb;rfl
      rw [<-eP,<-ew,<-eA,<-ee]
      obtain⟨ha,hl,turn'⟩:=turn i n ys τ H3 w3
      rcases turn' with ⟨stop,q⟩ | ⟨go,N,hN,step⟩
      · have hd:=T.done Xb eP ew eK ec i [] s3 τ H3 (fun _ _=>False) I3 (fpB fr3) st3 stop
        rw [<-eP,<-ew] at hd
        refine wpAny_mono hd (fun r s4 hr4=>?_) fun _ _ z=>z
        obtain⟨hr,I4⟩:=hr4
        subst hr
        exact fin I4 q
      · have hd:=T.item Xb eP ew eK ec i [] s3 τ H3 (fun _ _=>False) I3 (fpB fr3) st3 go
        rw [<-eP,<-ew] at hd
        refine wpAny_mono hd (fun r s4 hr4=>?_) fun _ _ z=>z
        obtain⟨u,hr,h4⟩:=hr4
        subst hr
        refine wpAny_mono h4 (fun _ s5 ⟨x,H5,I5,r5,y5,st5,fr5⟩=>?_) fun _ _ z=>z
        have I5':=I5.pinned (fpB fr5) (T.obj _ _ st5)
        have keepT:∀ {σ7:St} {H7:Hp} {s7:Shared},Inv Xb ([] ++ eG fp s5.heap) σ7 H7 s7->tn (i+1) s7.heap/\∀ b ∈ fp,H7 b=none:=fun {σ7 H7 s7} I7=>by
          refine⟨T.keep _ _ _ st5 fun b hb o e=>(I7.pin (b,o) (List.mem_append_right _ (List.mem_append_right _ (bG hb e)))).1,fun b hb=>?_⟩
          obtain⟨o,e,d⟩:=T.obj _ _ st5 b hb
          exact (I7.pin (b,o) (List.mem_append_right _ (List.mem_append_right _ (bG hb e)))).2.1
        refine wpAny_mono (htg' _ s5 τ H5 x u _ I5' r5 (step x H5 y5)) (fun _ s6 ⟨τ6,H6,I6,q6⟩=>?_) (fun _ _ z=>by rw [ex] at z;exact z)
        refine wpAny_mono (hct' _ s6 τ6 H6 _ I6 q6) (fun ok s7 ⟨H7,I7,q7⟩=>?_) (fun _ _ z=>by rw [ex] at z;exact z)
        cases ok with
        | false =>
          have q7':N ys τ6 H7:=by rw [if_neg (by simp)] at q7;exact q7
          rw [if_neg (by simp)]
          obtain⟨m',hm,w7⟩:=hN _ _ _ q7'
          exact⟨m',hm,i+1,ys,τ6,H7,I7.cf,(keepT I7).1,(keepT I7).2,w7⟩
        | true =>
          rw [if_pos rfl] at q7 ⊢
          refine wpAny_mono (hte' _ s7 τ6 H7 _ I7 q7) (fun v s8 ⟨y,H8,I8,r8,ha8,n8⟩=>?_) (fun _ _ z=>by rw [ex] at z;exact z)
          refine wpAny_mono (bX (X:=Xb) _ s8 τ6 H8 (.ref s.heap.objs.size) [y] (.ref s.heap.objs.size) [v] (fun _ H9=>H9=upd H8 s.heap.objs.size (.lst (ys ++ [y]))) I8 rfl (.cons r8 .nil) ⟨_,ys,y,rfl,rfl,ha8,hl,rfl⟩) (fun _ s9 ⟨_,H9,I9,_,e9⟩=>?_) (fun _ _ z=>by rw [ex] at z;exact z)
          subst e9
          obtain⟨m',hm,w8⟩:=hN _ _ _ n8
          exact⟨m',hm,i+1,_,τ6,_,I9.cf,(keepT I9).1,(keepT I9).2,w8⟩
    · rw [ae (Nat.ne_of_lt (hlt b hb))]
      exact (hfp b hb).1
  exact codeAny_compStart_list (loop _) (T.self _ 0 _ _ _ (T.keep _ _ _ st fun b hb o e=>old b o e) (loop _))
theorem Inv.iP {pins:List (Addr × Obj)} {σ : St} {H H':Hp} {s s':Shared} {C:Addr} {h':Heap} (I:Inv X pins σ H s) {σ':St} (I':Inv X pins σ' H' s') (hC:H' C=none) (hle:s.heap.objs.size<=C) (hsb:Heap.SameBut C s'.heap h') :
  Inv X pins σ' H' { s' with heap:=h' }:=by
 obtain⟨h1,h2,h3,h4,h5,h6⟩:=I.fG (H':=H') hle hC
 exact I'.turned (t':=s'.toks) (fun b o hb e=>hsb.extBut b o hb e) hC h2 h4 h5 h6
theorem cg {tg elt iter:Expr} {ifs:List Expr} {scope:Scope} {wi:TI} {g:TG} {ct:TT} {te:TE} (ts fr:List Str) (js:List Nat)
  (hc:X.calm=true) (hi:PI X tg iter wi) (hkind:scope.kind=.function) (hcell:∀ y ∈ scope.names,y.2 ≠ .cell) (hnames:∀ y ∈ scope.names,y.2=.local->scope.names.lookup y.1=some .local)
  (hfree0:∀ y ∈ scope.names,y.2=.free->y.1 ∈ fr) (hfr:dn X scope fr js)
  (htg:∀ C fp s₁ H₁,PG (bc X scope C (ts++fr) fp s₁ H₁) tg g) (hct:∀ C fp s₁ H₁,gR (bc X scope C (ts++fr) fp s₁ H₁) ifs ct) (hte:∀ C fp s₁ H₁,PE (bc X scope C (ts++fr) fp s₁ H₁) elt te)
  (hs:∀ x,foldedSetIterable iter X.env x=pure x:=by intro _;rfl):PE X (.ListComp elt [⟨tg,iter,ifs,0⟩] scope pos) (sx ts.length js wi g ct te):=by
 have hfree:∀ y ∈ scope.names,y.2=.free->X.env.kindOf y.1=some .cell\/X.env.kindOf y.1=some .free:=fun y hy e=>hfr.mem (hfree0 y hy e)
 intro pins s σ H Q I h
 rw [eval_ListComp]
 refine wpAny_comprehension_free (use:=none) rfl hs (eW fun y hy e=>I.ok.has y.1 (hfree y hy e)) hkind hnames (aA (hi pins s σ H _ I h) fun xv s1 h1=>aA h1 fun itv s2 h2=>?_)
 obtain⟨it,fp,tn,J,H2,e,I2,T,st2,f2,hW⟩:=h2
 subst e
 refine lL (RR:=fun acc C=>compPost (model X.prog X.w) X.A X.xe none (EP X pins σ Q) acc C) hc hkind hcell hfree hfr htg hct hte I2 T st2 f2 hW ?_
 intro acc C H' s' m I' hn hC hle q
 exact⟨m,hn,fun h' hsb=>⟨.ref acc,H',I2.iP I' hC hle hsb,rfl,q⟩⟩
theorem fq {tg elt iter:Expr} {ifs:List Expr} {scope:Scope} {wi:TI} {g:TG} {ct:TT} {te:TE} {i:Nat} {y:Str} {py spos:Pos} (ts fr:List Str) (js:List Nat)
  (hsw:swapsWith (.ListComp elt [⟨tg,iter,ifs,0⟩] scope pos) (some (.Name y py)) spos.line X.env=pure true) (hN:X.N.Nodup) (hi0:X.N[i]? = some y) (hx:X.env.scope.names.lookup y=some .local)
  (hc:X.calm=true) (hi:PI X tg iter wi) (hkind:scope.kind=.function) (hcell:∀ y ∈ scope.names,y.2 ≠ .cell) (hnames:∀ y ∈ scope.names,y.2=.local->scope.names.lookup y.1=some .local)
  (hfree0:∀ y ∈ scope.names,y.2=.free->y.1 ∈ fr) (hfr:dn X scope fr js)
  (htg:∀ C fp s₁ H₁,PG (bc X scope C (ts++fr) fp s₁ H₁) tg g) (hct:∀ C fp s₁ H₁,gR (bc X scope C (ts++fr) fp s₁ H₁) ifs ct) (hte:∀ C fp s₁ H₁,PE (bc X scope C (ts++fr) fp s₁ H₁) elt te)
  (hs:∀ x,foldedSetIterable iter X.env x=pure x:=by intro _;rfl):PS X (.Assign [.Name y py] (.ListComp elt [⟨tg,iter,ifs,0⟩] scope pos) spos) (lX (sx ts.length js wi g ct te) (iJ i)):=by
 have hfree:∀ y ∈ scope.names,y.2=.free->X.env.kindOf y.1=some .cell\/X.env.kindOf y.1=some .free:=fun y hy e=>hfr.mem (hfree0 y hy e)
 intro pins s σ H D I h
 rw [exec_Assign_Name_used _ _ _ _ hsw]
 refine wpAny_bind (wpAny_standAt (wpAny_bind ?_))
 show wpAny _ X.A (do let _ <-comprehension (.ListComp elt [⟨tg,iter,ifs,0⟩] scope pos) scope X.env _ (newList []) false (eval iter X.env) (some (assign (.Name y py) X.env))) _ _ s
 refine wpAny_bind (wpAny_mono (wpAny_comprehension_free (use:=some (assign (.Name y py) X.env)) (Q:=fun _ s'=>SP X pins D .next s') rfl hs (eW fun y hy e=>I.ok.has y.1 (hfree y hy e)) hkind hnames
  (aA (hi pins s σ H _ I h) fun xv s1 h1=>aA h1 fun itv s2 h2=>?_)) (fun _ s' hq=>wpAny_pure (wpAny_pure hq)) fun _ _ e=>e)
 obtain⟨it,fp,tn,J,H2,e,I2,T,st2,f2,hW⟩:=h2
 subst e
 refine lL (Q:=fun v H'=>D.nx (σ.set i (some v)) H') (RR:=fun acc C=>compPost (model X.prog X.w) X.A X.xe (some (assign (.Name y py) X.env)) (fun _ s'=>SP X pins D .next s') acc C) hc hkind hcell hfree hfr htg hct hte I2 T st2 f2 hW ?_
 intro acc C H' s' m I' hn hC hle q
 show wpAny _ X.A (assign (.Name y py) X.env (.ref acc)) _ _ _
 refine wpAny_assign_Name (gL I' hN hi0 (.inl hx) (v:=.ref acc) rfl (fun s'' I'' hch=>?_) (.inr hx))
 obtain⟨h1,h2,h3,h4,h5,h6⟩:=I2.fG (H':=H') hle hC
 obtain⟨a,hsb,ha⟩:=hch
 refine⟨m,hn.sameBut hsb ?_,fun h' hsb'=>⟨_,H',I2.iP I'' hC hle hsb',q⟩⟩
 rcases ha with ha | ha
 ·rw [ha];exact h2
 ·exact fun z=>h5 y a ha z.symm
end
theorem cT {K:PySem.W.Frag} {a acc:Addr} {xs:List V} {n:Nat} {js:List Nat} {g:TG} {ct:TT} {te:TE} {σ : St} {H1:Hp} {Q:VK} (Pv:Nat->List V->St->Hp->Prop) (h0:Pv 0 [] (di n js σ) (upd H1 acc (.lst [])))
  (hl:∀ i ys τ H,i<=xs.length->Pv i ys τ H->au K H a xs/\H acc=some (.lst ys)/\ys.length < sizeLine)
  (hs:∀ i x ys τ H,xs[i]? = some x->Pv i ys τ H->g x τ H fun τ1 H4=>ct τ1 H4 fun b H5=>if b=true then te τ1 H5 fun y H6=>H6 acc=some (.lst ys)/\Pv (i+1) (ys ++ [y]) τ1 (upd H6 acc (.lst (ys ++ [y]))) else Pv (i+1) ys τ1 H5)
  (hd:∀ ys τ H,Pv xs.length ys τ H->Q (.ref acc) H) :
  lK (j3 K a) n js g ct te acc σ H1 Q:=by
 refine⟨fun i m ys τ H=>m=xs.length - i/\i<=xs.length/\Pv i ys τ H,⟨xs.length,by simp,Nat.zero_le _,h0⟩,?_⟩
 rintro i m ys τ H ⟨rfl,hi,p⟩
 obtain⟨q,q2,q3⟩:=hl i ys τ H hi p
 refine⟨q2,q3,?_⟩
 by_cases hlt:i < xs.length
 ·refine .inr ⟨⟨xs,xs[i],q,by simp [hlt]⟩,Pv (i+1),fun ys' τ' H' p'=>⟨xs.length - (i+1),by omega,rfl,hlt,p'⟩,fun x H' y=>?_⟩
  obtain⟨e,y⟩:=y
  subst e
  exact hs i x ys τ _ (y xs q) p
 ·have e:i=xs.length:=by omega
  subst e
  exact .inl ⟨⟨xs,q,Nat.le_refl _⟩,hd ys τ H p⟩
theorem ka {K:PySem.W.Frag} {a acc:Addr} {xs:List V} {n:Nat} {js:List Nat} {g:TG} {ct:TT} {te:TE} {σ : St} {H1:Hp} {Q:VK} (Pv:Nat->List V->St->Hp->Prop) (h0:Pv 0 [] (di n js σ) (upd H1 acc (.lst [])))
  (hl:∀ i ys τ H,i<=xs.length->Pv i ys τ H->aw K H a xs/\H acc=some (.lst ys)/\ys.length < sizeLine)
  (hs:∀ i x ys τ H,xs[i]? = some x->Pv i ys τ H->g x τ H fun τ1 H4=>ct τ1 H4 fun b H5=>if b=true then te τ1 H5 fun y H6=>H6 acc=some (.lst ys)/\Pv (i+1) (ys ++ [y]) τ1 (upd H6 acc (.lst (ys ++ [y]))) else Pv (i+1) ys τ1 H5)
  (hd:∀ ys τ H,Pv xs.length ys τ H->Q (.ref acc) H) :
  lK (lu K a) n js g ct te acc σ H1 Q:=by
 refine⟨fun i m ys τ H=>m=xs.length - i/\i<=xs.length/\Pv i ys τ H,⟨xs.length,by simp,Nat.zero_le _,h0⟩,?_⟩
 rintro i m ys τ H ⟨rfl,hi,p⟩
 obtain⟨q,q2,q3⟩:=hl i ys τ H hi p
 refine⟨q2,q3,?_⟩
 by_cases hlt:i < xs.length
 ·refine .inr ⟨⟨xs,xs[i],q,by simp [hlt]⟩,Pv (i+1),fun ys' τ' H' p'=>⟨xs.length - (i+1),by omega,rfl,hlt,p'⟩,fun x H' y=>?_⟩
  obtain⟨e,y⟩:=y
  subst e
  exact hs i x ys τ _ (y xs q) p
 ·have e:i=xs.length:=by omega
  subst e
  exact .inl ⟨⟨xs,q,Nat.le_refl _⟩,hd ys τ H p⟩
theorem ix {lo:Int} {k:Nat} {acc:Addr} {n:Nat} {js:List Nat} {g:TG} {ct:TT} {te:TE} {σ : St} {H1:Hp} {Q:VK} (Pv:Nat->List V->St->Hp->Prop) (h0:Pv 0 [] (di n js σ) (upd H1 acc (.lst [])))
  (hl:∀ i ys τ H,i<=k->Pv i ys τ H->H acc=some (.lst ys)/\ys.length < sizeLine)
  (hs:∀ i ys τ H,i < k->Pv i ys τ H->g (.int (lo+i)) τ H fun τ1 H4=>ct τ1 H4 fun b H5=>if b=true then te τ1 H5 fun y H6=>H6 acc=some (.lst ys)/\Pv (i+1) (ys ++ [y]) τ1 (upd H6 acc (.lst (ys ++ [y]))) else Pv (i+1) ys τ1 H5)
  (hd:∀ ys τ H,Pv k ys τ H->Q (.ref acc) H) :
  lK (j4 lo k) n js g ct te acc σ H1 Q:=by
 refine⟨fun i m ys τ H=>m=k - i/\i<=k/\Pv i ys τ H,⟨k,by simp,Nat.zero_le _,h0⟩,?_⟩
 rintro i m ys τ H ⟨rfl,hi,p⟩
 obtain⟨q2,q3⟩:=hl i ys τ H hi p
 refine⟨q2,q3,?_⟩
 by_cases hlt:i < k
 ·refine .inr ⟨hlt,Pv (i+1),fun ys' τ' H' p'=>⟨k - (i+1),by omega,rfl,hlt,p'⟩,fun x H' y=>?_⟩
  obtain⟨e,y⟩:=y
  subst e y
  exact hs i ys τ _ hlt p
 ·have e:i=k:=by omega
  subst e
  exact .inl ⟨Nat.le_refl _,hd ys τ H p⟩
section
variable {X:Cx}
end
def tF (t:TS):TS:=fun D σ H=>∃ M:St->Hp->Prop,t { D with nx:=M } σ H/\∀ σ' H',M σ' H'->D.nx σ' H'
theorem m3 {X:Cx} {st:Stmt} {t:TS} (h:PS X st t):PS X st (tF t):=by
 intro pins s σ H D I q
 obtain⟨M,q,hM⟩:=q
 refine aA (h pins s σ H _ I q) fun f s' hs=>?_
 cases f with
 | next =>
  obtain⟨σ',H',I',m⟩:=hs
  exact⟨σ',H',I',hM _ _ m⟩
 | brk=>exact hs
 | cont=>exact hs
 | ret u=>exact hs
theorem eN {m:Int} (h0:0 < m) (h1:m < 1073741824):m.natAbs.log2 < 9000:=by
 have h:m.natAbs.log2 < 30:=(Nat.log2_lt (by omega)).mpr (by omega)
 omega
theorem je {X:Cx} {K:PySem.W.Frag} {es:List Expr} {k:Nat} {t:ju} {n:Nat} {pos:Pos} (hK:X.K=K) (h:PG X (.Tuple es k pos) (nI X.K n t)):PG X (.Tuple es k pos) (nI K n t):=by
 subst hK
 exact h
mutual
inductive aR (H:Hp):V->PyData->Prop
 | aY:aR H .aY .none
 | bl (b:Bool):aR H (.bl b) (.bool b)
 | int (i:Int):aR H (.int i) (.int i)
 | str (x:Str):aR H (.str x) (.str x)
 | lst {p:Addr} {xs:List V} {ds:List PyData}:H p=some (.lst xs)->aC H xs ds->aR H (.ref p) (.list ds)
 | tup {p:Addr} {xs:List V} {ds:List PyData}:H p=some (.tup xs)->aC H xs ds->aR H (.ref p) (.tuple ds)
inductive aC (H:Hp):List V->List PyData->Prop
 | nil:aC H [] []
 | cons {x:V} {xs:List V} {d:PyData} {ds:List PyData}:aR H x d->aC H xs ds->aC H (x :: xs) (d :: ds)
end
section
variable {P:Program} {w:World} {H:Hp} {h:Heap}
mutual
theorem aR.reads (ok:cc P w H h):∀ {x:V} {d:PyData} {v:Value},aR H x d->RelV x v->∃ as,Reads h v d as
 | _,_,v,.aY,r=>by
  cases (show v=Value.none from r)
  exact⟨_,.none⟩
 | _,_,v,.bl b,r=>by
  cases (show v=Value.bool b from r)
  exact⟨_,.bool b⟩
 | _,_,v,.int i,r=>by
  obtain⟨t,e⟩:=(show ∃ t,v=Value.int i t from r)
  cases e
  exact⟨_,.int i t⟩
 | _,_,v,.str x,r=>by
  obtain⟨t,e⟩:=(show ∃ t,v=Value.str x t from r)
  cases e
  exact⟨_,.str x t⟩
 | _,_,v,.lst (p:=p) (xs:=xs) e ds,r=>by
  cases (show v=Value.ref p from r)
  obtain⟨_,its,n,rv,h1⟩:=(show bh P w H h p (.lst xs) from ok p _ e)
  obtain⟨as,ra⟩:=aC.reads ok ds rv
  exact⟨_,.list (vs:=its.toArray) h1 rfl rfl (by simpa using ra)⟩
 | _,_,v,.tup (p:=p) (xs:=xs) e ds,r=>by
  cases (show v=Value.ref p from r)
  obtain⟨_,its,rv,o,h1,h2,n,h3⟩:=(show bh P w H h p (.tup xs) from ok p _ e)
  obtain⟨as,ra⟩:=aC.reads ok ds rv
  exact⟨_,.tuple (vs:=its.toArray) h1 h2 h3.1 (by simpa using ra)⟩
theorem aC.reads (ok:cc P w H h):∀ {xs:List V} {ds:List PyData} {vs:List Value},aC H xs ds->Vals xs vs->∃ as,ReadsAll h vs ds as
 | _,_,_,.nil,.nil=>⟨_,.nil⟩
 | _,_,_,.cons r rs,.cons q qs=>by
  obtain⟨as,ra⟩:=aR.reads ok r q
  obtain⟨bs,rb⟩:=aC.reads ok rs qs
  exact⟨_,.cons ra rb⟩
end
end
section
variable {X:Cx}
def qM (neg:Bool):R2:=fun x y H Q=>∃ dx dy,aR H x dx/\aR H y dy/\dx.canLay0=true/\dy.canLay0=true/\min dx.depth dy.depth<=60/\Q (.bl (if neg then !PyData.eqv dx dy else PyData.eqv dx dy)) H
theorem qN (hu:X.A.units+64 < cLine):cI X (compareOp .Eq) (qM false):=by
 intro pins s σ H x y v u Q I rx ry h
 obtain⟨dx,dy,r1,r2,c1,c2,hd,q⟩:=h
 obtain⟨as,ra⟩:=r1.reads I.av rx
 obtain⟨bs,rb⟩:=r2.reads I.av ry
 exact PySem.SeqAt.compareEq_reads ra rb c1 c2 (by omega) ⟨.bl _,H,I,rfl,q⟩
theorem qO (hu:X.A.units+64 < cLine):cI X (compareOp .NotEq) (qM true):=by
 intro pins s σ H x y v u Q I rx ry h
 obtain⟨dx,dy,r1,r2,c1,c2,hd,q⟩:=h
 obtain⟨as,ra⟩:=r1.reads I.av rx
 obtain⟨bs,rb⟩:=r2.reads I.av ry
 exact PySem.SeqAt.neOverData X.prog X.w X.A X.xe s v u dx dy as bs _ ra rb c1 c2 (by omega) ⟨.bl _,H,I,rfl,q⟩
end
def one (c:Nat):Str:=⟨#[c]⟩
theorem kb (rest:List Str):∀ a:Array Nat,(rest.foldl (fun acc p=>acc++Str.empty.cps++p.cps) a).toList=a.toList++rest.flatMap (·.cps.toList):=by
 induction rest with
 | nil=>intro a;simp
 | cons x r ih =>
  intro a
  rw [List.foldl_cons,ih]
  have e:Str.empty.cps = #[]:=rfl
  simp [e]
theorem join_ones (cs:List Nat):(Txt.join Str.empty (cs.map one)).cps.toList=cs:=by
 cases cs with
 | nil=>rfl
 | cons c r =>
  show (List.foldl (fun acc p=>acc++Str.empty.cps++p.cps) (#[c]:Array Nat) (r.map one)).toList=c :: r
  rw [kb]
  simp only [List.flatMap_map,one]
  simp
theorem nU:Str.ofString "" = Str.empty:=by decide +kernel
theorem iQ {ys:List Str}:∀ {us:List Value},Vals (ys.map V.str) us->StrsAre us ys:=by
 induction ys with
 | nil=>intro us r;cases r;exact .nil
 | cons y ys ih =>
  intro us r
  cases r with
  | cons h t =>
   obtain⟨k,e⟩:=h
   subst e
   exact .cons y k (ih t)
section
variable {X:Cx}
def rJoin (K:PySem.W.Frag):V->List V->Hp->VK->Prop:=fun x vs H Q=>∃ (z:Str) (p:Addr) (ys:List Str),x=.str z/\vs = [.ref p]/\au K H p (ys.map V.str)/\(ys.map (·.length)).sum+ys.length * z.length<=16777216/\Q (.str (Txt.join z ys)) H
theorem lM:qB X "str.join" (rJoin X.K):=by
 intro pins s σ H x vs v us Q I rx rv h
 obtain⟨z,p,ys,rfl,rfl,hS,hz,q⟩:=h
 obtain⟨t,e⟩:=(show ∃ t,v=Value.str z t from rx)
 subst e
 obtain⟨u,rfl,ru⟩:=vals1 rv
 cases (show u=Value.ref p from ru)
 obtain⟨its,rv',pl,_⟩:=I.list hS
 exact join_list pl.isList (by simpa using iQ rv') hz fun t' k=>⟨.str _,H,I.tok k,⟨_,rfl⟩,q⟩
end
inductive aT where
 | put (x:Str) (n:Int)
 | copy (x y:Str)
 | add (x:Str) (n:Int)
 | read (x:Str)
 | tell (x:Str)
inductive End where
 | stop
 | go (p:Nat)
 | d4 (less:Bool) (x:Str) (n:Int) (p q:Nat)
abbrev Piece:=List aT × End
def wT (b:Bool):Str:=if b=true then "less" else "is"
def cq:aT->PyData
 | .put x n=>.tuple [.str "put",.str x,.int n]
 | .copy x y=>.tuple [.str "copy",.str x,.str y]
 | .add x n=>.tuple [.str "add",.str x,.int n]
 | .read x=>.tuple [.str "read",.str x]
 | .tell x=>.tuple [.str "tell",.str x]
def kc:End->PyData
 | .stop=>.tuple [.str "stop"]
 | .go p=>.tuple [.str "go",.int p]
 | .d4 b x n p q=>.tuple [.str (wT b),.str x,.int n,.int p,.int q]
def cQ (p:Piece):PyData:=.tuple [.tuple (p.1.map cq),kc p.2]
def eD (ps:List Piece):PyData:=.tuple (ps.map cQ)
structure cu (x:Str):Prop where
 lo:1<=x.length
 hi:x.length<=8
 az:∀ c ∈ x.cps.toList,97<=c/\c<=122
def gh (n:Int):Prop:=-(10 ^ 40) < n/\n < 10 ^ 40
def dI (xs:List Str):aT->Prop
 | .put x n=>x ∈ xs/\gh n
 | .copy x y=>x ∈ xs/\y ∈ xs
 | .add x n=>x ∈ xs/\gh n
 | .read x=>x ∈ xs
 | .tell x=>x ∈ xs
def jR (xs:List Str) (count:Nat):End->Prop
 | .stop=>True
 | .go p=>p < count
 | .d4 _ x n p q=>x ∈ xs/\gh n/\p < count/\q < count
structure d5 (xs:List Str) (most:Nat) (ps:List Piece):Prop where
 d6:∀ p ∈ ps,p.1.length<=most/\∀ d ∈ p.1,dI xs d
 ends:∀ p ∈ ps,jR xs ps.length p.2
mutual
def dq:PyData->Bool
 | .list _=>false
 | .tuple xs=>bx xs
 | _=>true
def bx:List PyData->Bool
 | []=>true
 | x :: xs=>dq x && bx xs
end
mutual
theorem aR.bO {H H':Hp} (k:∀ p xs,H p=some (.tup xs)->H' p=some (.tup xs)):∀ {x:V} {d:PyData},aR H x d->dq d=true->aR H' x d
 | _,_,.aY,_=>.aY
 | _,_,.bl b,_=>.bl b
 | _,_,.int i,_=>.int i
 | _,_,.str x,_=>.str x
 | _,_,.lst _ _,h=>nomatch h
 | _,_,.tup e ds,h=>.tup (k _ _ e) (aC.bO k ds h)
theorem aC.bO {H H':Hp} (k:∀ p xs,H p=some (.tup xs)->H' p=some (.tup xs)):∀ {xs:List V} {ds:List PyData},aC H xs ds->bx ds=true->aC H' xs ds
 | _,_,.nil,_=>.nil
 | _,_,.cons r rs,h=>by
  simp only [bx,Bool.and_eq_true] at h
  exact .cons (aR.bO k r h.1) (aC.bO k rs h.2)
end
theorem aR.fix {b:Addr} {H H':Hp} {x:V} {d:PyData} (r:aR H x d) (hb:bt H b) (f:Fix b H H') (n:dq d=true):aR H' x d :=
 r.bO (fun p xs e=>f p _ e (hb.j8 e)) n
theorem aR.same {H H':Hp} {x:V} {d:PyData} (r:aR H x d) (f:ah H H') (n:dq d=true):aR H' x d :=
 r.bO (fun p xs e=>f p _ e) n
theorem aC.fix {b:Addr} {H H':Hp} {xs:List V} {ds:List PyData} (r:aC H xs ds) (hb:bt H b) (f:Fix b H H') (n:bx ds=true):aC H' xs ds :=
 r.bO (fun p xs e=>f p _ e (hb.j8 e)) n
theorem aC.same {H H':Hp} {xs:List V} {ds:List PyData} (r:aC H xs ds) (f:ah H H') (n:bx ds=true):aC H' xs ds :=
 r.bO (fun p xs e=>f p _ e) n
theorem aC.put {H:Hp} {xs ys:List V} {ds:List PyData} {l:Addr} {o:HO} (r:aC H xs ds) (hl:H l=some (.lst ys)) (n:bx ds=true):aC (upd H l o) xs ds :=
 r.bO (fun p zs e=>by rw [ae (bF e hl (by intro z;cases z))];exact e) n
theorem aC.app {H:Hp} {x:V} {d:PyData}:∀ {xs:List V} {ds:List PyData},aC H xs ds->aR H x d->aC H (xs ++ [x]) (ds ++ [d])
 | _,_,.nil,q=>.cons q .nil
 | _,_,.cons r rs,q=>.cons r (aC.app rs q)
theorem aC.len {H:Hp}:∀ {xs:List V} {ds:List PyData},aC H xs ds->xs.length=ds.length
 | _,_,.nil=>rfl
 | _,_,.cons _ rs=>by simp [aC.len rs]
theorem fI (d:aT):dq (cq d)=true:=by cases d <;> rfl
theorem eX (e:End):dq (kc e)=true:=by cases e <;> rfl
theorem aZ:∀ ds:List aT,bx (ds.map cq)=true
 | []=>rfl
 | d :: ds=>by show (dq (cq d) && bx (ds.map cq))=true;rw [fI,aZ ds];rfl
theorem ft (p:Piece):dq (cQ p)=true:=by
 show (bx (p.1.map cq) && (dq (kc p.2) && true))=true
 rw [aZ,eX];rfl
theorem aO:∀ ps:List Piece,bx (ps.map cQ)=true
 | []=>rfl
 | p :: ps=>by show (dq (cQ p) && bx (ps.map cQ))=true;rw [ft,aO ps];rfl
theorem fJ (ps:List Piece):dq (eD ps)=true:=aO ps
structure cE (H:Hp) (b l:Addr) (xs:List Str):Prop where
 at_:H l=some (.lst (xs.map V.str))
 ne:l ≠ b
 jS:xs ≠ []
 jE:xs.length<=1000
 ok:∀ x ∈ xs,cu x
theorem cE.fix {H H':Hp} {b l:Addr} {xs:List Str} (h:cE H b l xs) (f:Fix b H H'):cE H' b l xs:=⟨f l _ h.at_ h.ne,h.ne,h.jS,h.jE,h.ok⟩
theorem cE.pos {H:Hp} {b l:Addr} {xs:List Str} (h:cE H b l xs):0 < ((xs.map V.str).length:Int)/\((xs.map V.str).length:Int) < 1073741824:=by
 have h1:=h.jS
 have h2:=h.jE
 have h3:0 < xs.length:=by cases xs with | nil=>exact absurd rfl h1 | cons _ _=>simp
 rw [List.length_map]
 omega
def jf:Sp:=fun vs H Q _=>∃ (b:Addr),vs = [.ref b]/\bt H b/\∀ l xs H',cE H' b l xs->xs.length<=4->bt H' b->Fix b H H'->Q (.ref l) H'
def gm:Sp:=fun vs H Q _=>∃ (b:Addr),vs = [.ref b]/\bt H b/\∀ n H',gh n->bt H' b->Fix b H H'->Q (.int n) H'
def iR:Sp:=fun vs H Q _=>∃ (b l:Addr) (xs:List Str),vs = [.ref b,.ref l]/\bt H b/\cE H b l xs/\∀ v d H',aR H' v (cq d)->dI xs d->bt H' b->Fix b H H'->Q v H'
def iS:Sp:=fun vs H Q _=>∃ (b l:Addr) (xs:List Str) (c:Nat),vs = [.ref b,.ref l,.int c]/\bt H b/\cE H b l xs/\0 < c/\c < 1073741824/\∀ v e H',aR H' v (kc e)->jR xs c e->bt H' b->Fix b H H'->Q v H'
def ke:Sp:=fun vs H Q _=>∃ (b:Addr) (c m:Nat),vs = [.ref b,.int c,.int m]/\bt H b/\0 < c/\c<=1000/\m<=1000/\∀ v xs ps H',aR H' v (eD ps)->ps.length=c->d5 xs m ps->((∀ x ∈ xs,cu x)/\xs.length<=4)->bt H' b->Fix b H H'->Q v H'
def jg:Sp:=fun vs H Q _=>∃ (b:Addr) (m:Nat),vs = [.ref b,.int m]/\bt H b/\0 < m/\m<=1000/\∀ (n:Nat) H',0 < n->n<=max m 4->bt H' b->Fix b H H'->Q (.int n) H'
def fU:Str := "abcdefghijklmnopqrstuvwxyz"
theorem kf:fU.cps.toList=(List.range 26).map (· + 97):=by decide +kernel
theorem hJ:fU.length<=sizeLine:=by decide +kernel
theorem iT {r:Int} (h0:0<=r) (h1:r < 26):∃ c,dE fU.cps.toList r=some c/\97<=c/\c<=122:=by
 have hl:fU.cps.toList.length=26:=by rw [kf];simp
 obtain⟨c,hc,hm⟩:=mr (xs:=fU.cps.toList) h0 (by rw [hl];exact h1)
 refine⟨c,hc,?_⟩
 rw [kf] at hm
 obtain⟨k,hk,rfl⟩:=List.mem_map.mp hm
 have:=List.mem_range.mp hk
 omega
theorem iy {xs:List Str} {r:Int} (h0:0<=r) (h1:r < ((xs.map V.str).length:Int)):∃ x,dE (xs.map V.str) r=some (V.str x)/\x ∈ xs:=by
 obtain⟨v,hv,hm⟩:=mr h0 h1
 obtain⟨x,hx,rfl⟩:=List.mem_map.mp hm
 exact⟨x,hv,hx⟩
theorem nV {σ : L2.St} {H:Hp} {Q:Bool->Hp->Prop} (h:Q true H):qL σ H Q:=h
theorem cm {i:Nat} {v:V} {σ : L2.St} {H:Hp} {Q:L2.St->Hp->Prop} (h:Q (σ.set i (some v)) H):iJ i v σ H Q:=h
section
variable {κ : Type} [DecidableEq κ]
def bW (kvs:List (κ × V)) (k:κ):Option V:=(kvs.find? fun kv=>decide (kv.1=k)).map (·.2)
def putK (kvs:List (κ × V)) (k:κ) (v:V):List (κ × V) :=
 if (kvs.any fun kv=>decide (kv.1=k))=true then kvs.map (fun kv=>if kv.1=k then (kv.1,v) else kv) else kvs ++ [(k,v)]
theorem bQ {p:κ × V} {r:List (κ × V)} {k:κ} (e:p.1=k):bW (p :: r) k=some p.2:=by simp [bW,List.find?_cons,e]
theorem bR {p:κ × V} {r:List (κ × V)} {k:κ} (e:¬ p.1=k):bW (p :: r) k=bW r k:=by simp [bW,List.find?_cons,e]
theorem gn (k:κ):∀ kvs:List (κ × V),(kvs.any fun kv=>decide (kv.1=k))=(bW kvs k).isSome
 | []=>rfl
 | p :: r=>by
  rw [List.any_cons]
  by_cases e:p.1=k
  ·simp only [bQ e,decide_eq_true e,Bool.true_or,Option.isSome_some]
  ·rw [bR e,decide_eq_false e,Bool.false_or];exact gn k r
theorem kg (k j:κ) (y:V):∀ kvs:List (κ × V),bW (kvs.map fun kv=>if kv.1=k then (kv.1,y) else kv) j=(bW kvs j).map fun x=>if j=k then y else x
 | []=>rfl
 | p :: r=>by
  have ih:=kg k j y r
  rw [List.map_cons]
  by_cases h:p.1=k
  ·rw [if_pos h]
   by_cases e:p.1=j
   ·rw [bQ (p:=(p.1,y)) e,bQ e,Option.map_some,if_pos (e.symm.trans h)]
   ·rw [bR (p:=(p.1,y)) e,bR e,ih]
  ·rw [if_neg h]
   by_cases e:p.1=j
   ·rw [bQ (p:=p) e,bQ e,Option.map_some,if_neg (fun z=>h (e.trans z))]
   ·rw [bR (p:=p) e,bR e,ih]
theorem jF (k j:κ) (y:V):∀ kvs:List (κ × V),bW kvs k=none->bW (kvs ++ [(k,y)]) j=if j=k then some y else bW kvs j
 | [],_=>by
  by_cases e:k=j
  ·rw [if_pos e.symm];exact bQ (p:=(k,y)) e
  ·rw [if_neg (fun z=>e z.symm)];exact bR (p:=(k,y)) e
 | p :: r,hn=>by
  rw [List.cons_append]
  have hk:¬ p.1=k:=fun z=>by rw [bQ z] at hn;cases hn
  rw [bR hk] at hn
  have ih:=jF k j y r hn
  by_cases e:p.1=j
  ·rw [bQ e,bQ e,if_neg (fun z=>hk (e.trans z))]
  ·rw [bR e,bR e,ih]
theorem nW (kvs:List (κ × V)) (k j:κ) (y:V):bW (putK kvs k y) j=if j=k then some y else bW kvs j:=by
 unfold putK
 by_cases a:(kvs.any fun kv=>decide (kv.1=k))=true
 ·rw [if_pos a,kg]
  rw [gn] at a
  by_cases e:j=k
  ·obtain⟨x,hx⟩:=Option.isSome_iff_exists.mp a
   rw [if_pos e,e,hx,Option.map_some,if_pos rfl]
  ·rw [if_neg e]
   cases bW kvs j with
   | none=>rfl
   | some x=>rw [Option.map_some,if_neg e]
 ·rw [if_neg a]
  refine jF k j y kvs ?_
  rw [gn] at a
  cases q:bW kvs k with
  | none=>rfl
  | some x=>rw [q] at a;exact (a rfl).elim
theorem cw (kvs:List (κ × V)) (k:κ) (v:V):(putK kvs k v).length<=kvs.length+1:=by
 unfold putK
 split
 ·rw [List.length_map];omega
 ·rw [List.length_append,List.length_cons,List.length_nil];omega
theorem gI.gS {o:Option V} {u:Option Value} (r:gI o u):o.isSome=u.isSome:=by
 cases o with
 | none=>cases u with
  | none=>rfl
  | some _=>exact (show False from r).elim
 | some _=>cases u with
  | none=>exact (show False from r).elim
  | some _=>rfl
theorem gI.getD {o:Option V} {u:Option Value} {d:V} {d':Value} (r:gI o u) (rd:RelV d d'):RelV (o.getD d) (u.getD d'):=by
 cases o with
 | none=>cases u with
  | none=>exact rd
  | some _=>exact (show False from r).elim
 | some _=>cases u with
  | none=>exact (show False from r).elim
  | some _=>exact r
theorem KV.val {kvs:List (κ × V)} {vs:List (κ × Value)} (r:KV kvs vs) (k:κ):gI (bW kvs k) (valueAt vs k):=by
 unfold KV at r
 induction r with
 | nil=>exact True.intro
 | @cons p q ps qs h t ih =>
  obtain⟨h1,h2⟩:=h
  by_cases e:p.1=k
  ·have e':q.1=k:=h1.symm.trans e
   have b:valueAt (q :: qs) k=some q.2:=by simp [valueAt,List.find?_cons,e']
   rw [bQ e,b];exact h2
  ·have e':¬ q.1=k:=fun z=>e (h1.trans z)
   have b:valueAt (q :: qs) k=valueAt qs k:=by simp [valueAt,List.find?_cons,e']
   rw [bR e,b];exact ih
theorem KV.any {kvs:List (κ × V)} {vs:List (κ × Value)} (r:KV kvs vs) (k:κ):(kvs.any fun kv=>decide (kv.1=k))=vs.any fun kv=>decide (kv.1=k):=by
 unfold KV at r
 induction r with
 | nil=>rfl
 | cons h t ih=>rw [List.any_cons,List.any_cons,ih,h.1]
theorem KV.nX {kvs:List (κ × V)} {vs:List (κ × Value)} (r:KV kvs vs) (k:κ) {y:V} {u:Value} (ry:RelV y u) :
  KV (kvs.map fun kv=>if kv.1=k then (kv.1,y) else kv) (vs.map fun kv=>if kv.1=k then (kv.1,u) else kv):=by
 unfold KV at r ⊢
 induction r with
 | nil=>exact .nil
 | @cons p q ps qs h t ih =>
  rw [List.map_cons,List.map_cons]
  refine .cons ?_ ih
  obtain⟨h1,h2⟩:=h
  by_cases e:p.1=k
  ·rw [if_pos e,if_pos (h1.symm.trans e)];exact⟨h1,ry⟩
  ·rw [if_neg e,if_neg (fun z=>e (h1.trans z))];exact⟨h1,h2⟩
theorem KV.put {kvs:List (κ × V)} {vs:List (κ × Value)} (r:KV kvs vs) (k:κ) {y:V} {u:Value} (ry:RelV y u):KV (putK kvs k y) (stored vs k u):=by
 unfold putK stored
 rw [r.any k]
 by_cases e:(vs.any fun kv=>decide (kv.1=k))=true
 ·rw [if_pos e,if_pos e];exact r.nX k ry
 ·rw [if_neg e,if_neg e];exact Paired.snoc r ⟨rfl,ry⟩
theorem KV.keys {kvs:List (κ × V)} {vs:List (κ × Value)} (r:KV kvs vs):kvs.map (·.1)=vs.map (·.1):=by
 unfold KV at r
 induction r with
 | nil=>rfl
 | cons h t ih=>rw [List.map_cons,List.map_cons,ih,h.1]
theorem KV.length {kvs:List (κ × V)} {vs:List (κ × Value)} (r:KV kvs vs):kvs.length=vs.length:=Paired.length r
end
theorem hU {P:Program} {w:World} {k:Key} {u:Value} (r:RelV (kV k) u):(aJ P w).is k u=true:=by
 cases k with
 | inl i=>obtain⟨t,e⟩:=(show ∃ t,u=Value.int i t from r);subst e;exact kQ P w i t
 | inr x=>obtain⟨t,e⟩:=(show ∃ t,u=Value.str x t from r);subst e;exact kR P w x t
theorem jG {P:Program} {w:World}:∀ {ks:List Key} {us:List Value},Vals (ks.map kV) us->ItemsAre (aJ P w) ks us
 | [],_,r=>by rw [List.map_nil] at r;cases r;exact .nil
 | k :: ks,_,r=>by
  rw [List.map_cons] at r
  cases r with
  | cons h t=>exact .cons (hU h) (jG t)
abbrev KT (H:Hp):List (List Key × V)->List (List Key × Addr × Value)->Prop:=Paired fun p q=>p.1=q.1/\H q.2.1=some (.tup (p.1.map kV))/\RelV p.2 q.2.2
theorem KT.val {H:Hp} {kvs:List (List Key × V)} {xs:List (List Key × Addr × Value)} (r:KT H kvs xs) (k:List Key):gI (bW kvs k) ((atKey xs k).map (·.2)):=by
 induction r with
 | nil=>exact True.intro
 | @cons p q ps qs h t ih =>
  obtain⟨h1,_,h2⟩:=h
  by_cases e:p.1=k
  ·have e':q.1=k:=h1.symm.trans e
   have b:atKey (q :: qs) k=some q.2:=by simp [atKey,List.find?_cons,e']
   rw [bQ e,b];exact h2
  ·have e':¬ q.1=k:=fun z=>e (h1.trans z)
   have b:atKey (q :: qs) k=atKey qs k:=by simp [atKey,List.find?_cons,e']
   rw [bR e,b];exact ih
theorem KT.nX {H:Hp} {kvs:List (List Key × V)} {xs:List (List Key × Addr × Value)} (r:KT H kvs xs) (k:List Key) {y:V} {u:Value} (ry:RelV y u) :
  KT H (kvs.map fun kv=>if kv.1=k then (kv.1,y) else kv) (xs.map (putAt k u)):=by
 induction r with
 | nil=>exact .nil
 | @cons p q ps qs h t ih =>
  rw [List.map_cons,List.map_cons]
  refine .cons ?_ ih
  obtain⟨h1,h2,h3⟩:=h
  unfold putAt
  by_cases e:p.1=k
  ·rw [if_pos e,if_pos (h1.symm.trans e)];exact⟨h1,h2,ry⟩
  ·rw [if_neg e,if_neg (fun z=>e (h1.trans z))];exact⟨h1,h2,h3⟩
theorem KT.put {H:Hp} {kvs:List (List Key × V)} {xs:List (List Key × Addr × Value)} (r:KT H kvs xs) (k:List Key) {b:Addr} {y:V} {u:Value} (hb:H b=some (.tup (k.map kV))) (ry:RelV y u) :
  KT H (putK kvs k y) (storedH xs k b u):=by
 have e:(kvs.any fun kv=>decide (kv.1=k))=(atKey xs k).isSome:=by
  rw [gn,(r.val k).gS,Option.isSome_map]
 unfold putK storedH
 rw [e]
 by_cases q:(atKey xs k).isSome=true
 ·rw [if_pos q,if_pos q];exact r.nX k ry
 ·rw [if_neg q,if_neg q];exact Paired.snoc r ⟨rfl,hb,ry⟩
theorem KT.keeps {H H':Hp} {kvs:List (List Key × V)} {xs:List (List Key × Addr × Value)} (r:KT H kvs xs) (ht:∀ b ys,H b=some (.tup ys)->H' b=some (.tup ys)):KT H' kvs xs :=
 Paired.nA r fun _ _ z=>⟨z.1,ht _ _ z.2.1,z.2.2⟩
section
variable {P:Program} {w:World} {H:Hp} {h:Heap} {a:Addr}
theorem oV {u:HO} (ok:cc P w H h) (e:Rd H a u):bh P w H h a u:=e.ok ok
theorem iU {kvs:List (Key × V)} (ok:cc P w H h) (e:Rd H a (.dK kvs)):kvs.length<=sizeLine/\(a == sysModules)=false/\∃ vs,KV kvs vs/\h.DictOf (aJ P w) a vs :=
 show bh P w H h a (.dK kvs) from oV ok e
theorem iV {kvs:List (Key × V)} (ok:cc P w H h) (e:H a=some (.dK kvs)):kvs.length<=sizeLine/\(a == sysModules)=false/\∃ vs,KV kvs vs/\h.DictOf (aJ P w) a vs:=iU ok (.inl e)
theorem iW {ks:List Key} (ok:cc P w H h) (e:H a=some (.tup (ks.map kV))):(tupleKind (aJ P w)).is h ks a:=by
 obtain⟨_,its,r,o,h1,h2,n,h3⟩:=(show bh P w H h a (.tup (ks.map kV)) from ok a _ e)
 exact⟨o,its.toArray,n,h1,h2,h3.1,by simpa using jG r⟩
theorem jT {kvs:List (List Key × V)} (ok:cc P w H h) (e:Rd H a (.dT kvs)):kvs.length<=sizeLine/\(a == sysModules)=false /\
  ∃ xs,KT H kvs xs/\h.DictOfH (tupleKind (aJ P w)) a xs:=by
 obtain⟨z,y,xs,r,o,es,ep,h1,h2,h3,h4,h5⟩:=(show bh P w H h a (.dT kvs) from oV ok e)
 refine⟨z,y,xs,r,o,es,ep,h1,h2,h3,h4,fun x hx=>?_,h5⟩
 have all:∀ {l:List (List Key × V)} {m:List (List Key × Addr × Value)},KT H l m->∀ x ∈ m,(tupleKind (aJ P w)).is h x.1 x.2.1:=by
  intro l m q
  induction q with
  | nil=>intro x hx;exact nomatch hx
  | @cons p q ps qs hq t ih =>
   intro x hx
   rcases List.mem_cons.mp hx with e | hx
   ·subst e
    exact iW ok (by rw [<-hq.1];exact hq.2.1)
   ·exact ih x hx
 exact all r x hx
theorem rX {kvs:List (List Key × V)} (ok:cc P w H h) (e:H a=some (.dT kvs)):kvs.length<=sizeLine/\(a == sysModules)=false /\
  ∃ xs,KT H kvs xs/\h.DictOfH (tupleKind (aJ P w)) a xs:=jT ok (.inl e)
end
def eS (H:Hp) (a:Addr) (y:V) (r:Option V):Prop :=
 (∃ kvs k,Rd H a (.dK kvs)/\y=kV k/\r=bW kvs k)\/∃ kvs k b,Rd H a (.dT kvs)/\y=.ref b/\H b=some (.tup (k.map kV))/\r=bW kvs k
def gU (H:Hp) (a:Addr) (y v:V) (H':Hp):Prop :=
 (∃ kvs k,H a=some (.dK kvs)/\y=kV k/\kvs.length < sizeLine/\H' = upd H a (.dK (putK kvs k v))) \/
 ∃ kvs k b,H a=some (.dT kvs)/\y=.ref b/\H b=some (.tup (k.map kV))/\kvs.length < sizeLine/\H' = upd H a (.dT (putK kvs k v))
theorem eS.k {H:Hp} {a:Addr} {kvs:List (Key × V)} {k:Key} (e:H a=some (.dK kvs)):eS H a (kV k) (bW kvs k):=.inl ⟨kvs,k,.inl e,rfl,rfl⟩
theorem gU.k {H:Hp} {a:Addr} {kvs:List (Key × V)} {k:Key} {v:V} (e:H a=some (.dK kvs)) (hl:kvs.length < sizeLine):gU H a (kV k) v (upd H a (.dK (putK kvs k v))):=.inl ⟨kvs,k,e,rfl,hl,rfl⟩
section
variable {X:Cx} {pins:List (Addr × Obj)} {σ : St} {H:Hp} {s:Shared} {a:Addr} {y v:V} {u r:Value} {o:Option V} {A:Around} {E:Value->Shared->Prop}
theorem Inv.big (I:Inv X pins σ H s):sysModules < s.heap.objs.size:=by
 have h:mainGlobals < s.heap.objs.size:=(I.mod.glob.keeps I.bk).lt
 exact Nat.lt_trans (by decide) h
theorem pC {Q:Value->Shared->Prop} (hu:A.units+1 < cLine) (I:Inv X pins σ H s) (g:eS H a y o) (ry:RelV y u) (h:∀ s',Inv X pins σ H s'->Q (.bool (!o.isSome)) s') :
  wpAny (model X.prog X.w) A (compareOp .NotIn u (.ref a)) Q E s:=by
 rcases g with ⟨kvs,k,e,ey,l⟩ | ⟨kvs,k,b,e,ey,eb,l⟩
 ·subst ey
  obtain⟨z,hd,vs,rel,dd⟩:=iU I.av e
  refine wpAny_notIn_of (hU ry) hd dd.mapOf ?_
  rw [<-(rel.val k).gS,<-l]
  exact h _ (I.tok _)
 ·subst ey
  cases (show u=Value.ref b from ry)
  obtain⟨z,hd,xs,rel,dd⟩:=jT I.av e
  refine wpAny_notIn_heap (tupleKind_room_in1 hu) (iW I.av eb) hd dd ?_
  have q:=(rel.val k).gS
  rw [Option.isSome_map] at q
  rw [<-q,<-l]
  exact h _ (I.tok _)
theorem hV {h':Heap} {t':Nat} {ob:HO} (I:Inv X pins σ H s) (mu:mK (H a)) (hs:Heap.SameBut a s.heap h') (he:∃ q,h'.get? a=some q) (new:bh X.prog X.w (upd H a ob) h' a ob) :
  Inv X pins σ (upd H a ob) { s with heap:=h',toks:=t' } :=
 I.write (x:=a) (e:=a) mu (.inl rfl) (fun b q hb z=>(hs.2 b hb).trans z) he new
theorem fV {P:Program} {w:World} {H':Hp} {h':Heap} {kvs:List (Key × V)} {vs:List (Key × Value)} (z:kvs.length<=sizeLine) (hd:(a == sysModules)=false) (rel:KV kvs vs) (dd:h'.DictOf (aJ P w) a vs) :
  bh P w H' h' a (.dK kvs):=⟨z,hd,vs,rel,dd⟩
theorem m4 {H':Hp} {Q:Unit->Shared->Prop} (hu:A.units+1 < cLine) (I:Inv X pins σ H s) (g:gU H a y v H') (ry:RelV y u) (rv:RelV v r) (h:∀ s',Inv X pins σ H' s'->Q () s') :
  wpAny (model X.prog X.w) A (setItem (.ref a) u r) Q E s:=by
 rcases g with ⟨kvs,k,e,ey,l,eH⟩ | ⟨kvs,k,b,e,ey,eb,l,eH⟩
 ·subst ey eH
  obtain⟨z,hd,vs,rel,dd⟩:=iV I.av e
  have hz:vs.length<=sizeLine:=by rw [<-rel.length];exact z
  have hl:(putK kvs k v).length<=sizeLine:=by have:=cw kvs k v;omega
  refine wpAny_setItem_pairs (hsz:=hz) (hU ry) dd fun h' dd' hs=>h _ ?_
  have he:∃ q,h'.get? a=some q:=let ⟨q,_,_,hq,_⟩:=dd';⟨q,hq⟩
  exact hV I (by rw [e];exact True.intro) hs he (fV hl hd (rel.put k rv) dd')
 ·subst ey eH
  cases (show u=Value.ref b from ry)
  obtain⟨z,hd,xs,rel,dd⟩:=rX I.av e
  have hz:xs.length<=sizeLine:=by rw [<-Paired.length rel];exact z
  have hl:(putK kvs k v).length<=sizeLine:=by have:=cw kvs k v;omega
  refine wpAny_setItem_heap (hsz:=hz) (tupleKind_room_in1 hu) (iW I.av eb) dd fun h' dd' hs=>h _ ?_
  obtain⟨q,es,ep,hq,h2,h3,h4,_,h5⟩:=dd'
  refine hV I (by rw [e];exact True.intro) hs ⟨q,hq⟩ ⟨hl,hd,_,(rel.put k eb rv).keeps fun c ys ec=>?_,q,es,ep,hq,h2,h3,h4,h5⟩
  rw [ae (bF ec e (fun z=>nomatch z))]
  exact ec
end
section
variable {X:Cx} {pins:List (Addr × Obj)} {σ : St} {H:Hp} {s:Shared} {a:Addr} {kvs:List (Key × V)} {k:Key} {u:Value} {A:Around} {E:Value->Shared->Prop}
end
def qP (i:Expr):Prop:=∀ ov iv,subscripted i false ov iv=operate [ov,iv] (getItem ov iv)
theorem pD {prog:Program} {w:World} {A:Around} {E:Value->Shared->Prop} {s:Shared} {env:Env} {value slice:Expr} {pos:Pos} {T id:String} {Q:Value->Shared->Prop}
  (hl:typeLookup (.type T) "__getitem__" = pure (some (.builtin id))) (hs:qP slice)
  (h:wpAny (model prog w) A (eval value env) (fun o s₁=>wpAny (model prog w) A (eval slice env) (fun i s₂=>s₂.TypeIs o T/\wpAny (model prog w) A (getItem o i) Q E s₂) E s₁) E s) :
  wpAny (model prog w) A (eval (.Subscript value slice pos) env) Q E s:=by
 refine Subscript_ (wpAny_mono h (fun o s₁ h₁=>wpAny_mono h₁ (fun i s₂ h₂=>?_) fun _ _ x=>x) fun _ _ x=>x)
 obtain⟨hT,h₂⟩:=h₂
 unfold subscriptTail
 refine wpAny_bind ?_
 rw [getitemInPython_of_ne hT.not_modules]
 refine wpAny_bind (wpAny_specialOf hT hl ?_)
 have fin:wpAny (model prog w) A (subscripted slice false o i) (fun r s₃=>wpAny (model prog w) A (letTemporaryGo value o r >>= fun _=>pure r) Q E s₃) E s₂:=by
  rw [hs o i]
  exact wpAny_operating (wpAny_mono h₂ (fun r s₃ h₃=>wpAny_bind (wpAny_letTemporaryGo (wpAny_pure h₃))) fun _ _ x=>x)
 first
  | exact wpAny_pure (wpAny_bind fin)
  | exact wpAny_bind (wpAny_pure (wpAny_bind fin))
  | exact wpAny_bind fin
def pE (ty td:TE):TE:=fun σ H Q=>ty σ H fun y H1=>td σ H1 fun x H2=>∃ a o,x=.ref a/\eS H2 a y o/\Q (.bl (!o.isSome)) H2
def rY (td ty tv:TE):TS:=fun D σ H=>tv σ H fun v H1=>td σ H1 fun x H2=>ty σ H2 fun y H3=>∃ a H4,x=.ref a/\gU H3 a y v H4/\D.nx σ H4
section
variable {X:Cx} {o i e value:Expr} {pos pos' tpos:Pos} {td ty tv:TE}
theorem m5 (hu:X.A.units+1 < cLine) (hi:PE X i ty) (ho:PE X o td):PC X .NotIn i o (pE ty td):=by
 intro pins s σ H Q I h
 refine aA (hi pins s σ H _ I h) fun iv s1 ⟨y,H1,I1,ry,q1⟩=>aA (ho pins s1 σ H1 _ I1 q1) fun u s2 ⟨x,H2,I2,rx,a,ov,ex,g,q2⟩=>?_
 subst ex
 obtain rfl:u=Value.ref a:=rx
 exact pC hu I2 g ry fun s3 I3=>⟨.bl (!ov.isSome),H2,I3,rfl,q2⟩
theorem jh (hu:X.A.units+1 < cLine) (ho:PE X o td) (hi:PE X i ty) (hv:PE X value tv) (hs:swapsWith value (some (.Subscript o i pos')) pos.line X.env=pure false) :
  PS X (.Assign [.Subscript o i pos'] value pos) (rY td ty tv):=by
 intro pins s σ H D I h
 refine wpAny_Assign_Subscript (aA (hv pins s σ H _ I h) fun r s1 ⟨v,H1,I1,rv,q1⟩=>aA (ho pins s1 σ H1 _ I1 q1) fun u s2 ⟨x,H2,I2,rx,q2⟩=>aA (hi pins s2 σ H2 _ I2 q2) fun iv s3 ⟨y,H3,I3,ry,a,H4,ex,g,q3⟩=>?_) hs
 subst ex
 obtain rfl:u=Value.ref a:=rx
 exact m4 hu I3 g ry rv fun s4 I4=>⟨σ,H4,I4,q3⟩
end
theorem kh {P:Program} {w:World} {H:Hp} (h:Heap) (hb:sysModules < h.objs.size):bh P w H (h.push { cls:=.type "dict",data:=.dict #[] }) h.objs.size (.dK []) :=
 ⟨Nat.zero_le _,beq_eq_false_iff_ne.mpr (Ne.symm (Nat.ne_of_lt hb)),[],.nil,Heap.DictOf.new h⟩
def qQ:TE:=fun _ H Q=>∀ p,H p=none->Q (.ref p) (upd H p (.dK []))
section
variable {X:Cx} {pos:Pos}
theorem nY:PE X (.Dict [] [] pos) qQ:=fun pins s σ H Q I h =>
 wpAny_Dict_empty ⟨.ref s.heap.objs.size,_,I.laid (a:=s.heap.objs.size) (o:=.dK []) (t':=s.toks) (fun _ _ q=>Heap.get?_push_of_some _ q) (Nat.le_refl _) (kh s.heap I.big),rfl,h _ (I.av.fresh (Nat.le_refl _))⟩
end
def ki:List (TE × TE)->St->Hp->(List (V × V)->Hp->Prop)->Prop
 | [],_,H,Q=>Q [] H
 | (tk,tv) :: r,σ,H,Q=>tk σ H fun x H1=>tv σ H1 fun y H2=>ki r σ H2 fun ps H3=>Q ((x,y) :: ps) H3
abbrev VV:List (V × V)->List (Value × Value)->Prop:=Paired fun p q=>RelV p.1 q.1/\RelV p.2 q.2
def oW (X:Cx) (pos:Pos) (keys:List (Option Expr)) (values:List Expr) (trs:List (TE × TE)):Prop :=
 ∀ (pins:List (Addr × Obj)) (s:Shared) (σ : St) (H:Hp) (Q:List (V × V)->Hp->Prop),Inv X pins σ H s->ki trs σ H Q ->
  wpAny (model X.prog X.w) X.A (evalPairs (pairTrees keys values X.env pos)) (fun vs s'=>∃ ps H',Inv X pins σ H' s'/\VV ps vs/\Q ps H') X.xe s
theorem pF {X:Cx} {pos:Pos}:oW X pos [] [] []:=fun pins s σ H Q I h=>pairTrees_nil_walk ⟨[],H,I,.nil,h⟩
theorem kj {X:Cx} {pos:Pos} {k v:Expr} {ks:List (Option Expr)} {vs:List Expr} {tk tv:TE} {trs:List (TE × TE)} (hk:PE X k tk) (hv:PE X v tv) (hr:oW X pos ks vs trs) :
  oW X pos (some k :: ks) (v :: vs) ((tk,tv) :: trs):=fun pins s σ H Q I h =>
 pairTrees_cons_walk (aA (hk pins s σ H _ I h) fun u s1 ⟨x,H1,I1,rx,q1⟩=>aA (hv pins s1 σ H1 _ I1 q1) fun w2 s2 ⟨y,H2,I2,ry,q2⟩ =>
  aA (hr pins s2 σ H2 _ I2 q2) fun ws s3 ⟨ps,H3,I3,rel,q3⟩=>⟨(x,y) :: ps,H3,I3,.cons ⟨rx,ry⟩ rel,q3⟩)
def dr (kvs more:List (Key × V)):List (Key × V):=more.foldl (fun acc kv=>putK acc kv.1 kv.2) kvs
theorem KV.merge:∀ {more:List (Key × V)} {rs:List (Key × Value)} {kvs:List (Key × V)} {vs:List (Key × Value)},KV more rs->KV kvs vs->KV (dr kvs more) (merged vs rs):=by
 intro more rs kvs vs r
 unfold KV at r
 induction r generalizing kvs vs with
 | nil=>intro q;exact q
 | @cons p q ps qs h t ih =>
  intro r0
  have e:KV (putK kvs p.1 p.2) (stored vs q.1 q.2):=by
   have:=r0.put p.1 h.2
   rw [<-h.1];exact this
  exact ih e
theorem gD:∀ (more kvs:List (Key × V)),(dr kvs more).length<=kvs.length+more.length
 | [],kvs=>by show kvs.length<=kvs.length+0;omega
 | p :: r,kvs=>by
  have h1:=gD r (putK kvs p.1 p.2)
  have h2:=cw kvs p.1 p.2
  show (dr (putK kvs p.1 p.2) r).length<=_
  rw [List.length_cons];omega
theorem iX {P:Program} {w:World}:∀ {kvs:List (Key × V)} {ws:List (Value × Value)},VV (kvs.map fun kv=>(kV kv.1,kv.2)) ws->∃ rs,Carries (aJ P w) ws rs/\KV kvs rs
 | [],_,r=>by rw [List.map_nil] at r;cases r;exact⟨[],True.intro,.nil⟩
 | p :: kvs,_,r=>by
  rw [List.map_cons] at r
  cases r with
  | @cons a b as bs h t =>
   obtain⟨rs,c,q⟩:=iX (P:=P) (w:=w) t
   obtain⟨b1,b2⟩:=b
   exact⟨(p.1,b2) :: rs,⟨hU h.1,rfl,c⟩,.cons ⟨rfl,h.2⟩ q⟩
def rZ (trs:List (TE × TE)):TE:=fun σ H Q=>∀ p,H p=none->ki trs σ (upd H p (.dK [])) fun ps H2=>H2 p=some (.dK [])/\∃ kvs:List (Key × V),ps=kvs.map (fun kv=>(kV kv.1,kv.2))/\kvs.length<=15/\Q (.ref p) (upd H2 p (.dK (dr [] kvs)))
theorem pG {X:Cx} {pos:Pos} {keys:List (Option Expr)} {values:List Expr} {trs:List (TE × TE)} (h:oW X pos keys values trs) (hall:keys.all (·.isSome)=true) (hl:keys.length=values.length) (h0:keys ≠ [])
  (h15:keys.length<=15):PE X (.Dict keys values pos) (rZ trs):=by
 intro pins s σ H Q I q
 have hn:=I.av.fresh (Nat.le_refl s.heap.objs.size)
 have I1:=I.laid (a:=s.heap.objs.size) (o:=.dK []) (h':=s.heap.push { cls:=.type "dict",data:=.dict #[] }) (t':=s.toks) (fun _ _ q=>Heap.get?_push_of_some _ q) (Nat.le_refl _) (kh s.heap I.big)
 refine wpAny_Dict_walk (knd:=aJ X.prog X.w) hall hl h0 h15 (aA (h pins _ σ _ _ I1 (q _ hn)) fun ws s2 ⟨ps,H2,I2,rel,e,kvs,ep,lk,q2⟩=>?_)
 subst ep
 obtain⟨rs,c,rk⟩:=iX (P:=X.prog) (w:=X.w) rel
 obtain⟨z,hd,vs0,r0,dd⟩:=iV I2.av e
 cases r0
 refine⟨rs,c,dd,fun h' dd' hs=>⟨.ref s.heap.objs.size,_,?_,rfl,q2⟩⟩
 have hz:(dr [] kvs).length<=sizeLine:=by
  have h1:=gD kvs []
  rw [List.length_nil] at h1
  rw [sizeLine_eq];omega
 have he:∃ q,h'.get? s.heap.objs.size=some q:=let ⟨q,_,_,hq,_⟩:=dd';⟨q,hq⟩
 exact hV I2 (by rw [e];exact True.intro) hs he (fV hz hd (rk.merge .nil) dd')
structure M2 (X:Cx) (o:Expr) (m:Str) (apos:Pos) (e f:Expr) (cpos:Pos):Prop where
 base:attributeBase o m X.env (eval o X.env)=eval o X.env
 jE:((backTo cpos (starEach [e,f] X.env)).all (fun x=>!x.1) && (backToKw cpos (keywordEach [] X.env)).all (fun x=>x.1.isSome)
  && decide (([e,f]:List Expr).length+([]:List Keyword).length+(if ([]:List Keyword).isEmpty then 0 else 1) < 30))=true
 line:(apos.endLine == cpos.line)=true
 trees:backTo cpos (starEach [e,f] X.env) = [(false,eval e X.env),(false,eval f X.env)]
def sy (H:Hp) (a:Addr):Prop:=(∃ kvs,Rd H a (.dK kvs))\/∃ kvs,Rd H a (.dT kvs)
theorem qR {X:Cx} {pins:List (Addr × Obj)} {σ : St} {H:Hp} {s:Shared} {a:Addr} (I:Inv X pins σ H s) (d:sy H a) :
  s.TypeIs (.ref a) "dict" /\ (∀ b,Value.ref a=.ref b->∃ ob,s.heap.get? b=some ob/\ob.dict=none)/\(a == sysModules)=false:=by
 rcases d with ⟨kvs,e⟩ | ⟨kvs,e⟩
 ·obtain⟨_,hd,vs,_,dd⟩:=iU I.av e
  refine⟨dd.typeIs,fun b q=>?_,hd⟩
  cases q
  obtain⟨ob,_,_,h1,h2,_⟩:=dd
  exact⟨ob,h1,h2.2.1⟩
 ·obtain⟨_,hd,xs,_,dd⟩:=jT I.av e
  refine⟨dd.typeIs,fun b q=>?_,hd⟩
  cases q
  obtain⟨ob,_,_,h1,h2,_⟩:=dd
  exact⟨ob,h1,h2.2.1⟩
section
variable {X:Cx} {pins:List (Addr × Obj)} {σ : St} {H:Hp} {s:Shared} {a:Addr} {y d:V} {u r:Value} {o:Option V} {A:Around} {E:Value->Shared->Prop}
theorem qS {Q:Value->Shared->Prop} (hu:A.units+1 < cLine) (I:Inv X pins σ H s) (g:eS H a y o) (ry:RelV y u) (rd:RelV d r) (h:∀ w' s',Inv X pins σ H s'->RelV (o.getD d) w'->Q w' s') :
  wpAny (model X.prog X.w) A (call (.builtin "dict.get") [.ref a,u,r]) Q E s:=by
 rcases g with ⟨kvs,k,e,ey,l⟩ | ⟨kvs,k,b,e,ey,eb,l⟩
 ·subst ey
  obtain⟨z,hd,vs,rel,dd⟩:=iU I.av e
  refine call_meetsIn PySem.F.slot_dict_get dd.typeIs PySem.F.entry_dict_get (PySem.F.args_dict_get_3 _ _ _) (meets_dict_get_default (aJ X.prog X.w) a (hU ry) hd r) ⟨_,dd.mapOf,h _ _ (I.tok _) ?_⟩
  rw [l]
  exact (rel.val k).getD rd
 ·subst ey
  cases (show u=Value.ref b from ry)
  obtain⟨z,hd,xs,rel,dd⟩:=jT I.av e
  refine call_meetsIn PySem.F.slot_dict_get dd.typeIs PySem.F.entry_dict_get (PySem.F.args_dict_get_3 _ _ _) (meetsH_dict_get_default (tupleKind (aJ X.prog X.w)) a b hd r) ⟨tupleKind_room_in1 hu,k,xs,iW I.av eb,dd,h _ _ (I.tok _) ?_⟩
  rw [l]
  exact (rel.val k).getD rd
end
section
variable {X:Cx} {o e f:Expr} {apos cpos:Pos} {td ty tx:TE}
end
section
variable {X:Cx} {pins:List (Addr × Obj)} {σ : St} {H:Hp} {s:Shared} {a:Addr} {kvs:List (Key × V)} {A:Around} {E:Value->Shared->Prop}
end
section
variable {X:Cx} {pins:List (Addr × Obj)} {σ : St} {H:Hp} {s:Shared} {a:Addr} {y:V} {u:Value} {A:Around} {E:Value->Shared->Prop}
end
section
variable {X:Cx}
end
section
variable {κ : Type} [DecidableEq κ]
end
theorem aR.cU {H:Hp} {v:V} {ds:List PyData} (h:aR H v (.tuple ds)):∃ p xs,v=.ref p/\H p=some (.tup xs)/\aC H xs ds:=by
 cases h with
 | tup e r=>exact⟨_,_,rfl,e,r⟩
theorem aR.int_inv {H:Hp} {v:V} {i:Int} (h:aR H v (.int i)):v=.int i:=by cases h;rfl
theorem aR.str_inv {H:Hp} {v:V} {x:Str} (h:aR H v (.str x)):v=.str x:=by cases h;rfl
theorem aC.cons_inv {H:Hp} {xs:List V} {d:PyData} {ds:List PyData} (h:aC H xs (d :: ds)):∃ x r,xs=x :: r/\aR H x d/\aC H r ds:=by
 cases h with
 | cons a b=>exact⟨_,_,rfl,a,b⟩
theorem aC.nil_inv {H:Hp} {xs:List V} (h:aC H xs []):xs = []:=by cases h;rfl
theorem aC.get {H:Hp}:∀ {xs:List V} {ds:List PyData} {i:Nat} {d:PyData},aC H xs ds->ds[i]? = some d->∃ x,xs[i]? = some x/\aR H x d
 | _,_,_,_,.nil,e=>by simp at e
 | _,_,0,_,.cons r _,e=>by
  simp at e
  subst e
  exact⟨_,rfl,r⟩
 | _,_,i+1,d,.cons _ t,e=>by
  obtain⟨x,h1,h2⟩:=aC.get (i:=i) (d:=d) t (by simpa using e)
  exact⟨x,by simpa using h1,h2⟩
def jU:aT->List V
 | .put x n=>[.str "put",.str x,.int n]
 | .copy x y=>[.str "copy",.str x,.str y]
 | .add x n=>[.str "add",.str x,.int n]
 | .read x=>[.str "read",.str x]
 | .tell x=>[.str "tell",.str x]
def fK:End->List V
 | .stop=>[.str "stop"]
 | .go p=>[.str "go",.int p]
 | .d4 b x n p q=>[.str (wT b),.str x,.int n,.int p,.int q]
theorem lN {H:Hp} {v:V} {d:aT} (h:aR H v (cq d)):∃ p,v=.ref p/\H p=some (.tup (jU d)):=by
  cases d <;> (
    obtain⟨p,xs,rfl,e,r⟩:=aR.cU h
    obtain⟨x1,r1,rfl,h1,r⟩:=r.cons_inv
    obtain⟨x2,r2,rfl,h2,r⟩:=r.cons_inv
    first
      | (obtain⟨x3,r3,rfl,h3,r⟩:=r.cons_inv
         have z:=r.nil_inv
         subst z
         refine⟨p,rfl,?_⟩
         first
           | rw [e,h1.str_inv,h2.str_inv,h3.int_inv];rfl
           | rw [e,h1.str_inv,h2.str_inv,h3.str_inv];rfl)
      | (have z:=r.nil_inv
         subst z
         refine⟨p,rfl,?_⟩
         rw [e,h1.str_inv,h2.str_inv];rfl))
theorem qT {H:Hp} {v:V} {e:End} (h:aR H v (kc e)):∃ p,v=.ref p/\H p=some (.tup (fK e)):=by
 cases e with
 | stop =>
  obtain⟨p,xs,rfl,e,r⟩:=aR.cU h
  obtain⟨x1,r1,rfl,h1,r⟩:=r.cons_inv
  have z:=r.nil_inv
  subst z
  exact⟨p,rfl,by rw [e,h1.str_inv];rfl⟩
 | go q =>
  obtain⟨p,xs,rfl,e,r⟩:=aR.cU h
  obtain⟨x1,r1,rfl,h1,r⟩:=r.cons_inv
  obtain⟨x2,r2,rfl,h2,r⟩:=r.cons_inv
  have z:=r.nil_inv
  subst z
  exact⟨p,rfl,by rw [e,h1.str_inv,h2.int_inv];rfl⟩
 | d4 b x n q q' =>
  obtain⟨p,xs,rfl,e,r⟩:=aR.cU h
  obtain⟨x1,r1,rfl,h1,r⟩:=r.cons_inv
  obtain⟨x2,r2,rfl,h2,r⟩:=r.cons_inv
  obtain⟨x3,r3,rfl,h3,r⟩:=r.cons_inv
  obtain⟨x4,r4,rfl,h4,r⟩:=r.cons_inv
  obtain⟨x5,r5,rfl,h5,r⟩:=r.cons_inv
  have z:=r.nil_inv
  subst z
  exact⟨p,rfl,by rw [e,h1.str_inv,h2.str_inv,h3.int_inv,h4.int_inv,h5.int_inv];rfl⟩
theorem gr {H:Hp} {v:V} {ps:List Piece} {i:Nat} {ds:List aT} {e:End} (h:aR H v (eD ps)) (hi:ps[i]? = some (ds,e)) :
  ∃ p xs pc da ea vs,v=.ref p/\H p=some (.tup xs)/\xs.length=ps.length/\xs[i]? = some (.ref pc)/\H pc=some (.tup [.ref da,.ref ea])/\H da=some (.tup vs)/\aC H vs (ds.map cq)/\H ea=some (.tup (fK e)):=by
 obtain⟨p,xs,rfl,e1,r⟩:=aR.cU h
 have hl:=r.len
 obtain⟨x,hx,rx⟩:=r.get (i:=i) (d:=cQ (ds,e)) (by rw [List.getElem?_map,hi];rfl)
 obtain⟨pc,ys,rfl,e2,r2⟩:=aR.cU rx
 obtain⟨y1,t1,rfl,q1,r2⟩:=r2.cons_inv
 obtain⟨y2,t2,rfl,q2,r2⟩:=r2.cons_inv
 have z:=r2.nil_inv
 subst z
 obtain⟨da,vs,rfl,e3,r3⟩:=aR.cU q1
 obtain⟨ea,rfl,e4⟩:=qT q2
 exact⟨p,xs,pc,da,ea,vs,rfl,e1,by rw [hl,List.length_map],hx,e2,e3,r3,e4⟩
theorem aB {n:Nat} (h:n<=1000000):n < sizeLine:=Nat.lt_of_le_of_lt h (by decide)
theorem aM {c:Bool} {A B:Prop} (hc:c=false) (h:B):if c=true then A else B:=by subst hc;exact de h
theorem bH {c:Bool} {A B:Prop} (hc:c=true) (h:A):if c=true then A else B:=by subst hc;exact fH h
def pH (td ty tx:TE):TE:=fun σ H Q=>td σ H fun x H1=>∃ a,x=.ref a/\sy H1 a/\ty σ H1 fun y H2=>tx σ H2 fun z H3=>∃ o v,eS H3 a y o/\o.getD z=v/\Q v H3
theorem eO {X:Cx} {o e f:Expr} {apos cpos:Pos} {td ty tx:TE} (hu:X.A.units+1 < cLine) (ho:PE X o td) (he:PE X e ty) (hf:PE X f tx) (m:M2 X o "get" apos e f cpos):PE X (.Call (.Attribute o "get" apos) [e,f] [] cpos) (pH td ty tx):=by
 intro pins s σ H Q I h
 refine wpAny_Call_method m.base m.jE m.line PySem.F.plainAttrs_dict PySem.F.slot_dict_get PySem.F.type_dict_get (aA (ho pins s σ H _ I h) fun u s1 ⟨x,H1,I1,rx,a,ex,d,q1⟩=>?_)
 subst ex
 obtain rfl:u=Value.ref a:=rx
 obtain⟨t1,t2,_⟩:=qR I1 d
 refine⟨t1,t2,?_⟩
 rw [m.trees]
 refine Calls.callWith_builtin rfl (Calls.evalArgs_plain (Calls.spliced_cons (aA (he pins s1 σ H1 _ I1 q1) fun iv s2 ⟨y,H2,I2,ry,q2⟩ =>
  Calls.spliced_cons (aA (hf pins s2 σ H2 _ I2 q2) fun fv s3 ⟨z,H3,I3,rz,ov,v,g,ev,q3⟩=>Calls.spliced_nil ?_))))
 exact qS hu I3 g ry rz fun w' s4 I4 rw'=>⟨v,H3,I4,by rw [<-ev];exact rw',q3⟩
structure RS where
 tZ:Nat
 place:Nat
 w:Str->Int
 taken:Nat
 told:List Int
 word:Str
 t6:List Nat
def iY (ps:List Piece):Prop:=∀ p ∈ ps,match p.2 with
 | .stop=>True
 | .go q=>q < ps.length
 | .d4 _ _ _ q r=>q < ps.length/\r < ps.length
theorem d5.km {xs:List Str} {m:Nat} {ps:List Piece} (h:d5 xs m ps):iY ps:=fun p hp=>by
 have:=h.ends p hp
 cases e:p.2 with
 | stop=>exact True.intro
 | go q=>rw [e] at this;exact this
 | d4 b x n q r=>rw [e] at this;exact⟨this.2.2.1,this.2.2.2⟩
theorem ah.put {H H':Hp} {l:Addr} {o:HO} (s:ah H H') (n:H l=none):ah H (upd H' l o):=fun c u e=>by rw [ae (aG e n)];exact s c u e
section
variable {X:Cx} {C:Addr} {m x:Str} {k:Nat} {ps:List Str} {sp:Sp} {oe e:Expr} {es:List Expr} {ta:TE} {t:TA} {p pos apos:Pos}
end
section
variable {a0 a1 a2 a3 a4 a5 a6 a7 z:V}
end
section
variable {C:Addr} {H H':Hp} {p pl d nl sl:Addr} {plv:V} {nums:List Int} {S:RS} {m:Nat}
end
end L2
namespace HT
open PySem PyProof.Rows PySem.Spec
section
variable {prog:Program} {w:World} {A:Around} {E:Value->Shared->Prop} {s:Shared}
theorem ia {t sl:Addr} {items:Array Value} {vl vu:Value} {lo hi:Option Int} {Q:Value->Shared->Prop} (ht:IsTup s.heap t items) (hs:s.heap.IsSliceOf sl vl vu .none) (pl:IsPart vl lo) (pu:IsPart vu hi)
  (hw:aS items.size 0 lo=0/\aS items.size items.size hi=items.size) (h:Q (.ref t) s):wpAny (model prog w) A (getItem (.ref t) (.ref sl)) Q E s:=by
 obtain⟨os,hos,hcs,hds⟩:=id hs
 have hTs:s.TypeIs (.ref sl) "slice" := ⟨os,hos,hcs⟩
 unfold getItem
 try with_reducible refine wpAny_holding ?_
 first | refine wpAny_bind (wpAny_pure ?_) | skip
 refine wpAny_bind (wpAny_sequenceKey ht.typeIs (by decide) ?_)
 refine wpAny_bind (wpAny_callSpecial?_slot (name:=Str.ofString "__getitem__") ht.typeIs PyProof.Rows.slot_tuple_getitem
  (wpAny_call_entry PyProof.Rows.slot_tuple_getitem ht.typeIs entry_tuple_getitem ?_ (args_tuple_getitem _ _)))
 show wpAny _ _ (Builtin.Tuple.tupleItemsOf (.ref t) >>= _) _ _ s
 refine wpAny_bind (tupleItemsOf_ ht ?_)
 refine wpAny_bind (wpAny_typeOf hTs ?_)
 rw [if_pos (by decide)]
 refine wpAny_bind (fg hs pl pu ?_)
 have hno:((((aS items.size 0 lo:Nat):Int) == 0 && (1:Int) == 1 && (aS items.size items.size hi - aS items.size 0 lo) == items.size)=true):=by
  rw [hw.1,hw.2]
  simp
 show wpAny _ _ (if (((aS items.size 0 lo:Nat):Int) == 0 && (1:Int) == 1 && (aS items.size items.size hi - aS items.size 0 lo) == items.size)=true then _ else _) _ _ s
 rw [if_pos hno]
 refine wpAny_bind ?_
 unfold Builtin.Tuple.tupleIsExact
 refine wpAny_bind (wpAny_typeOf ht.typeIs (wpAny_pure ?_))
 rw [if_pos (by decide)]
 refine wpAny_bind (wpAny_rule ?_)
 first
  | exact wpAny_pure ⟨_,rfl,wpAny_pure h⟩
  | exact wpAny_bind (wpAny_pure (wpAny_pure ⟨_,rfl,wpAny_pure h⟩))
  | exact wpAny_pure (wpAny_pure ⟨_,rfl,wpAny_pure h⟩)
end
end HT
namespace L2
open PySem PySem.Spec PyProof.Rows
section
variable {X:Cx}
def r6 (K:PySem.W.Frag):V->Option Int->Option Int->Hp->VK->Prop:=fun x lo hi H Q=>∃ a xs,x=.ref a/\aw K H a xs /\
 ((HT.aS xs.length 0 lo=0/\HT.aS xs.length xs.length hi=xs.length)->Q (.ref a) H)/\(¬ (HT.aS xs.length 0 lo=0/\HT.aS xs.length xs.length hi=xs.length)->∀ p,H p=none->Q (.ref p) (upd H p (.tup (gP xs lo hi))))
theorem pI:qA X (r6 X.K):=by
 intro pins s σ H x v vl vu lo hi sl Q I rx hs pl pu h
 obtain⟨a,xs,rfl,hx,q1,q2⟩:=h
 by_cases hw:HT.aS xs.length 0 lo=0/\HT.aS xs.length xs.length hi=xs.length
 ·cases rx
  obtain⟨its,r,ht,hz⟩:=I.tuple hx
  have hlen:its.toArray.size=xs.length:=by rw [List.size_toArray];exact r.length.symm
  refine⟨"tuple",_,PyProof.Rows.slot_tuple_getitem.lookup,ht.typeIs,?_⟩
  exact HT.ia ht hs pl pu (by rw [hlen];exact hw) ⟨.ref a,H,I,rfl,q1 hw⟩
 ·exact mT pins s σ H (.ref a) v vl vu lo hi sl Q I rx hs pl pu ⟨a,xs,rfl,hx,hw,q2 hw⟩
end
theorem ij {P:Program} {w:World} {x:Str} {v:Value} (h:(aJ P w).is (Sum.inr x) v=true):∃ t,v=.str x t:=by
 cases v with
 | str y t =>
  have:y=x:=by simpa [aJ,fz,Value.isStrOf] using h
  exact⟨t,by rw [this]⟩
 | _=>simp [aJ,fz,Value.isStrOf] at h
theorem iZ:∀ {vs:List Value} {ks:List Str},vs.length=ks.length->(∀ (j:Nat) (v:Value) (x:Str),vs[j]? = some v->ks[j]? = some x->∃ t,v=.str x t)->StrsAre vs ks
 | [],[],_,_=>.nil
 | v :: vs,x :: ks,hl,h=>by
  obtain⟨t,rfl⟩:=h 0 v x rfl rfl
  exact .cons x t (iZ (by simpa using hl) fun j v' x' h1 h2=>h (j+1) v' x' (by simpa using h1) (by simpa using h2))
 | [],_ :: _,hl,_=>by simp at hl
 | _ :: _,[],hl,_=>by simp at hl
section
variable {prog:Program} {w:World} {A:Around} {E:Value->Shared->Prop} {s:Shared}
open PySem.Calls PySem.W in
theorem gather {T:String} {r d:Addr} {n:Nat} {P:Nat->Value->Prop} {OK:Heap->Prop} {G:List Value->Shared->Prop} (src:KdlSrc prog w T r d n P OK) (calm:A.handled=none) (ok:OK s.heap) (jE:n<=sizeLine)
  (fin:∀ (g:Heap) (tk:Nat) (got:Array Value),(∀ b o,s.heap.get? b=some o->g.get? b=some o)->ItemsOf P got n->s.heap.objs.size<=g.objs.size->G got.toList { s with heap:=g,toks:=tk }) :
  wpAny (model prog w) A (collect (.ref r)) G E s:=by
 obtain⟨lt1,lt2⟩:=src.there _ ok
 unfold collect
 refine wpAny_bind (wpAny_runValue (codeAny_builtin entry_proto_collect' ?_))
 rw [Around.under_plainId PySem.F.plain_proto_collect _]
 show wpAny _ A.in1 (newList [] >>= fun z=>again (.builtin "list.__iadd__" ⟨[z,.ref r],[]⟩)) _ _ s
 refine wpAny_bind (wpAny_newObj_type (wpAny_pure ⟨plainId_quiet PySem.F.plain_list_iadd _,codeAny_builtin entry_list_iadd' ?_⟩))
 rw [Around.under_plainId PySem.F.plain_list_iadd _]
 show wpAny _ A.in1 (Builtin.List.listExtendWith (.ref s.heap.objs.size) (.ref r) (.ref s.heap.objs.size)) _ _ _
 have made:(s.heap.push { cls:=.type "list",data:=.seq ([]:List Value).toArray }).get? s.heap.objs.size=some { cls:=.type "list",data:=.seq #[] }:=Heap.get?_push_size _ rfl
 have run:=kdl_extend (A:=A) (s:={ s with heap:=s.heap.push { cls:=.type "list",data:=.seq ([]:List Value).toArray } })
  (R:=fun (z:Result) (t:Shared)=>∃ (g:Heap) (tk:Nat) (got:Array Value) (c:Nat),z=.ok (.ret (.ref s.heap.objs.size))/\t = { s with heap:=g,toks:=tk } /\
   (∀ b o,s.heap.get? b=some o->g.get? b=some o)/\g.get? s.heap.objs.size=some { cls:=.type "list",dict:=none,data:=.seq got c,slots:=#[] }/\ItemsOf P got n)
  src calm (src.keep _ _ ok fun b _ o e=>Heap.get?_push_of_some _ e) s.heap.objs.size (Nat.ne_of_gt lt1) (Nat.ne_of_gt lt2) (.ref s.heap.objs.size) 0 made
  (fun g tk got c kept at_ its=>⟨g,tk,got,c,rfl,rfl,fun b o e=>kept b o (Nat.ne_of_lt (Heap.lt_size e)) (Heap.get?_push_of_some _ e),at_,its⟩) jE
 refine wpAny_mono run (fun z t x=>?_) fun z t ⟨_,_,_,_,bad,_⟩=>by cases bad
 cases z with
 | done f =>
  obtain⟨g,tk,got,c,e,rfl,kept,at_,its⟩:=x
  cases e
  show wpAny _ A (load s.heap.objs.size >>= _) _ _ _
  exact wpAny_bind (wpAny_load at_ (wpAny_pure (fin g tk got kept its (Nat.le_of_lt (Heap.lt_size at_)))))
 | again more =>
  refine⟨x.1,codeAny_mono x.2 fun z' t' ⟨g,tk,got,c,e1,e2,kept,at_,its⟩=>?_⟩
  subst e1 e2
  show wpAny _ A (load s.heap.objs.size >>= _) _ _ _
  exact wpAny_bind (wpAny_load at_ (wpAny_pure (fin g tk got kept its (Nat.le_of_lt (Heap.lt_size at_)))))
theorem kn {a:Addr} {kvs:List (Key × Value)} {ks:List Str} {Q:Value->Shared->Prop} (hh:A.handled=none) (lo:(a == sysModules)=false) (dd:s.heap.DictOf (aJ prog w) a kvs)
  (hk:kvs.map (·.1)=ks.map Sum.inr) (h64:ks.length < 64)
  (h:∀ (h':Heap) (tk:Nat) (D:Addr) (out:Array Value) (ss':List Str) (e:Nat),(∀ b o,s.heap.get? b=some o->h'.get? b=some o)->s.heap.objs.size<=D->h'.get? D=some { cls:=.type "list",data:=.seq out e } ->
   StrsAre out.toList ss'->ss'.Perm ks->sortedS ss' = true->Q (.ref D) { s with heap:=h',toks:=tk }) :
  wpAny (model prog w) A (call (.builtin "sorted") [.ref a]) Q E s:=by
 refine Calls.call_function_entry kind_sorted plain_sorted entry_sorted (args_sorted1 _) ?_
 unfold Builtin.«sorted»
 refine wpAny_bind (m:=checkCount "sorted" 1 1 _) (wpAny_pure ?_)
 obtain⟨ep,hat⟩:=dd.dictAt
 have hlk:kvs.length=ks.length:=by have:=congrArg List.length hk;simpa using this
 have hs:sizeLine=16777216\/64<=sizeLine:=.inr (by decide)
 have hz:kvs.length<=sizeLine:=by rw [hlk];exact Nat.le_trans (Nat.le_of_lt h64) (by decide)
 refine wpAny_bind (gather (A:=A.in1) (PySem.W.kdl_dict (knd:=aJ prog w) (kvs:=kvs) (ep:=ep) lo) hh hat hz fun h' tk acc hkeep hacc hsz=>?_)
 have hl:acc.toList.length=ks.length:=by rw [Array.length_toList,hacc.1,hlk]
 have hS:StrsAre acc.toList ks:=iZ hl fun j v x h1 h2=>by
  obtain⟨k,y,e1,e2⟩:=hacc.2 j v (by rw [<-Array.getElem?_toList];exact h1)
  have e3:(kvs.map (·.1))[j]? = some k:=by rw [List.getElem?_map,e1];rfl
  rw [hk,List.getElem?_map,h2] at e3
  cases (Option.some.inj e3)
  exact ij e2
 refine wpAny_bind (wpAny_newList ?_ (by rw [hl];exact Nat.le_trans (Nat.le_of_lt h64) (by decide)))
 have hoL:(h'.push (seqObj "list" acc.toList.toArray 0)).get? h'.objs.size=some (seqObj "list" acc.toList.toArray 0):=Heap.get?_push_size _ rfl
 refine wpAny_bind (wpAny_holding (wpAny_call_entry slot_list_sort ⟨_,hoL,rfl⟩ entry_list_sort (list_sort_treeK strKind_oneLt hoL hS.keysOf (fun v₁ v₂ rest e=>keyKind_strs (by rw [<-e];exact hS)) (by rw [hl];exact h64) fun st' a1 a2=>⟨_,rfl,?_⟩) (args_list_sort _)))
 obtain⟨ss',b1,b2,b3⟩:=sorted_out_str hS a1 a2
 obtain⟨e,he⟩:=sortedHeap_at (out:=(arrOf st').map (·.2)) hoL
 refine wpAny_pure ⟨_,rfl,h _ tk _ _ ss' e (fun b o ho=>?_) hsz he b1 b2 b3⟩
 have h1:=hkeep b o ho
 have hlt:=Heap.lt_size h1
 rw [sortedHeap_old (Nat.ne_of_lt hlt) (by rw [size_push'];exact Nat.lt_succ_of_lt hlt)]
 exact Heap.get?_push_of_some _ h1
end
theorem ji:∀ {us:List Value} {ys:List Str},StrsAre us ys->Vals (ys.map V.str) us
 | _,_,.nil=>.nil
 | _,_,.cons x t r=>.cons ⟨t,rfl⟩ (ji r)
section
variable {X:Cx}
theorem ko (hc:X.calm=true):eB X (.builtin "sorted") (fun vs H Q=>∃ (a:Addr) (kvs:List (Key × V)) (ks:List Str),vs = [.ref a]/\H a=some (.dK kvs)/\kvs.map (·.1)=ks.map Sum.inr/\ks.length < 64 /\
  ∀ (l:Addr) (ss:List Str),ss.Perm ks->sortedS ss=true->H l=none->Q (.ref l) (upd H l (.lst (ss.map V.str)))):=by
 intro pins s σ H xs us Q I r h
 obtain⟨a,kvs,ks,rfl,ha,hk,h64,q⟩:=h
 obtain⟨u,rfl,ru⟩:=vals1 r
 cases (show u=Value.ref a from ru)
 obtain⟨z,hd,vs,rel,dd⟩:=iV I.av ha
 refine kn (I.ok.hd hc) hd dd (by rw [<-rel.keys];exact hk) h64 fun h' tk D out ss' e hkeep hD he hS hp hs=>?_
 have hv:Vals (ss'.map V.str) out.toList:=ji hS
 refine⟨.ref D,_,I.laid (t':=tk) (o:=.lst (ss'.map V.str)) hkeep hD (show bh X.prog X.w _ h' _ (.lst (ss'.map V.str)) from ⟨?_,out.toList,e,hv,by simpa using he⟩),rfl,q D ss' hp hs (I.av.fresh hD)⟩
 rw [List.length_map,hp.length_eq]
 exact Nat.le_trans (Nat.le_of_lt h64) (by decide)
end
section
variable {X:Cx}
end
theorem gW:bootBuiltins "sorted" = some (.builtin "sorted"):=PyProof.Rows.boot_sorted
def hX:aT->Str
 | .put x _=>x
 | .copy x _=>x
 | .add x _=>x
 | .read x=>x
 | .tell x=>x
theorem nZ (dd:aT):dE (jU dd) 1=some (.str (hX dd)):=by cases dd <;> exact eU
theorem bt.put {H:Hp} {b p:Addr} {o:HO} (h:bt H b) (n:b ≠ p):bt (upd H p o) b:=by
 obtain⟨x,y,e,z⟩:=h
 exact⟨x,y,by rw [ae n];exact e,z⟩
section
variable {X:Cx}
end
section
variable {a0 a1 z:V}
end
section
variable {C D:Addr} {H H':Hp} {wp p pl d nl sl:Addr} {plv:V} {nums:List Int} {S:RS} {m:Nat}
end
section
variable (C D:Addr)
end
section
variable {C D:Addr} {H H':Hp} {wp p pl d nl sl st d2 tl bl np:Addr} {plv:V} {nums nums':List Int} {S S':RS} {m m':Nat}
end
section
variable (C D:Addr)
end
section
variable {C D:Addr} {H0 H H1 H2:Hp} {wp p pl d nl sl st st' d2 tl bl np b:Addr} {plv:V} {nums more:List Int} {S S':RS} {m m':Nat}
end
section
variable {X:Cx}
end
section
variable {ps:List Piece} {nums more:List Int} {S S0:RS} {m n:Nat}
end
section
variable {ps:List Piece} {nums more:List Int} {S:RS} {m n:Nat}
end
inductive Call where
 | hand (ns:List Int)
 | go (n:Nat)
structure qU where
 S:RS
 nums:List Int
 m:Nat
structure WA where
 wp:Addr
 p:Addr
 pl:Addr
 d:Addr
 nl:Addr
 sl:Addr
section
variable {C D:Addr} {H H' H0:Hp} {x y:WA} {pv pv':V} {s s':qU} {c:Addr} {o:HO}
end
section
variable (C D:Addr)
end
section
variable {C D:Addr} {H0 H H1:Hp} {w0 w1 w2:WA} {wl cl nb:Addr} {plv ov:V} {x0 x1 x2 x':qU} {n0 n1 n':List Int} {vs:List V} {cs:List Call}
end
section
variable {prog:Program} {w:World} {A:Around} {E:Value->Shared->Prop} {s:Shared}
theorem i3 {j t:Addr} {n:Nat} {its:Array Value} {x:Value} {Q:Value->Shared->Prop} (hj:s.heap.IsTupleIter j t n) (ht:s.heap.IsTuple t its) (hx:its[n]? = some x)
  (hQ:∀ g,g.IsTupleIter j t (n+1)->Heap.SameBut j s.heap g->Q x { s with heap:=g }):wpAny (model prog w) A (Builtin.SmallTypes.nextOf (.ref j)) Q E s:=by
 obtain⟨ob,eo,ec,ed⟩:=id hj
 obtain⟨ot,et,_,k,ek⟩:=ht
 unfold Builtin.SmallTypes.nextOf
 refine wpAny_bind (wpAny_callSpecial?_slot (name:=Str.ofString "__next__") hj.typeIs F.slot_tuple_iterator_next (wpAny_call_entry F.slot_tuple_iterator_next hj.typeIs F.entry_tuple_iterator_next ?_ (F.args_tuple_iterator_next_1 _)))
 show wpAny _ _ (field (.ref j) 0 >>= _) _ _ s
 refine wpAny_bind (wpAny_field eo ed (x:=.ref t) rfl ?_)
 show wpAny _ _ (if (Value.ref t == Value.none)=true then _ else _) _ _ s
 refine (if_neg (c:=(Value.ref t == Value.none)=true) Bool.false_ne_true) ▸ ?_
 show wpAny _ _ (field (.ref j) 1 >>= _) _ _ s
 refine wpAny_bind (wpAny_field eo ed (x:=.int n 0) rfl (wpAny_bind (wpAny_seqItems et ek ?_)))
 simp only [hx,Int.toNat_natCast]
 refine wpAny_bind (wpAny_setField eo ed (by simp) (wpAny_pure ⟨x,rfl,wpAny_pure (hQ _ ⟨_,Heap.get?_update_self _ eo (Obj.isFreed_of_fields (Obj.data_mapFields ed _)),(Obj.cls_mapFields ..).trans ec,?_⟩ (Heap.SameBut.update ..))⟩))
 rw [Obj.data_mapFields ed];simp [rawInt]
theorem jj {j t:Addr} {n:Nat} {its:Array Value} {Q:Value->Shared->Prop} (ha:A.handled=none) (hj:s.heap.IsTupleIter j t n) (ht:s.heap.IsTuple t its) (hx:its[n]? = none)
    (hE:∀ g e,Heap.ExtBut j s.heap g->(∃ o,g.get? e=some o/\o.cls=.type "StopIteration")->E (.ref e) { s with heap:=g }):wpAny (model prog w) A (Builtin.SmallTypes.nextOf (.ref j)) Q E s:=by
  obtain⟨ob,eo,ec,ed⟩:=id hj
  obtain⟨ot,et,_,k,ek⟩:=ht
  unfold Builtin.SmallTypes.nextOf
  refine wpAny_bind (wpAny_callSpecial?_slot (name:=Str.ofString "__next__") hj.typeIs F.slot_tuple_iterator_next (wpAny_call_entry F.slot_tuple_iterator_next hj.typeIs F.entry_tuple_iterator_next ?_ (F.args_tuple_iterator_next_1 _)))
  show wpAny _ _ (field (.ref j) 0 >>= _) _ _ s
  refine wpAny_bind (wpAny_field eo ed (x:=.ref t) rfl ?_)
  show wpAny _ _ (if (Value.ref t == Value.none)=true then _ else _) _ _ s
  refine (if_neg (c:=(Value.ref t == Value.none)=true) Bool.false_ne_true) ▸ ?_
  show wpAny _ _ (field (.ref j) 1 >>= _) _ _ s
  refine wpAny_bind (wpAny_field eo ed (x:=.int n 0) rfl (wpAny_bind (wpAny_seqItems et ek ?_)))
  simp only [hx,Int.toNat_natCast]
  refine wpAny_bind (wpAny_rule (wpAny_bind (wpAny_setField eo ed (by simp) ?_)))
  show wpAny _ _ (newExc (.type "StopIteration") [] >>= fun _=>_) _ _ _
  refine wpAny_bind ?_
  simp only [newTuple,newExc]
  refine wpAny_bind (wpAny_newObj_type (wpAny_bind (m:=firstArgMember _ _) (wpAny_of_eq (a:=Value.none) (by first | rfl | (simp only [firstArgMember];rfl)) (wpAny_newObj_type ?_ (by size_fits)))) (by size_fits))
  simp only [raiseNew]
  refine wpAny_bind (wpAny_handled (by
    first | rw [show A.in1.handled=none from ha] | rw [ha]
    exact wpAny_bind (wpAny_pure (wpAny_throw (hE _ _ (((Heap.SameBut.update ..).extBut.push _).push _) ⟨_,Heap.get?_push_size _ rfl,rfl⟩)))))
structure lO (z p q j k a b:Addr):Prop where
 pz:p ≠ z
 qz:q ≠ z
 jz:j ≠ z
 kz:k ≠ z
 pq:p ≠ q
 pj:p ≠ j
 pk:p ≠ k
 qj:q ≠ j
 qk:q ≠ k
 jk:j ≠ k
 az:a ≠ z
 aq:a ≠ q
 aj:a ≠ j
 ak:a ≠ k
 bz:b ≠ z
 bq:b ≠ q
 bj:b ≠ j
 bk:b ≠ k
theorem dQ {h g:Heap} {a:Addr} {xs:Array Value} (x:h.IsTuple a xs) (k:∀ o,h.get? a=some o->g.get? a=some o):g.IsTuple a xs:=by
 obtain⟨o,e,r⟩:=x
 exact⟨o,k o e,r⟩
theorem pJ {z p q j k a b:Addr} {m n:Nat} {xs ys:Array Value} {x y u v:Value} {Q:Value->Shared->Prop} (D:lO z p q j k a b)
  (gz:IsZip s.heap z p q .none) (gp:IsPair s.heap p (.ref j) (.ref k)) (gq:IsPair s.heap q u v)
  (gj:s.heap.IsTupleIter j a m) (gk:s.heap.IsTupleIter k b n) (ga:s.heap.IsTuple a xs) (gb:s.heap.IsTuple b ys) (hx:xs[m]? = some x) (hy:ys[n]? = some y)
  (hQ:∀ g,IsZip g z p q (rawInt s.heap.objs.size)->IsPair g q x y->g.IsTupleIter j a (m+1)->g.IsTupleIter k b (n+1)->IsPair g s.heap.objs.size x y->g.objs.size=s.heap.objs.size+1 ->
   (∀ c o,c ≠ z->c ≠ q->c ≠ j->c ≠ k->s.heap.get? c=some o->g.get? c=some o)->Q (.ref s.heap.objs.size) { s with heap:=g }) :
  wpAny (model prog w) A (Builtin.«zip.__next__» ⟨[.ref z],[]⟩) (fun fin s'=>∃ v,fin=.done (.ret v)/\Q v s') E s:=by
 show wpAny _ _ (field (.ref z) 2 >>= fun _=>_) _ _ _
 refine wpAny_bind (wpAny_field gz rfl (x:=.bool false) rfl ?_)
 show wpAny _ _ (field (.ref z) 3 >>= fun _=>_) _ _ _
 refine wpAny_bind (wpAny_field gz rfl (x:=.ref p) rfl (wpAny_bind (wpAny_seqItems gp rfl ?_)))
 show wpAny _ _ (Builtin.SmallTypes.ownedTupleIsFree (.ref z) >>= fun _=>_) _ _ _
 refine wpAny_bind ?_
 unfold Builtin.SmallTypes.ownedTupleIsFree
 refine wpAny_bind (wpAny_field gz rfl (x:=.none) rfl (wpAny_pure ?_))
 simp only [if_true]
 refine wpAny_bind (wpAny_rule (wpAny_bind (wpAny_field gz rfl (x:=.ref q) rfl (wpAny_bind (wpAny_setField_rec gz (by simp) fun g1 gz1 t1=>?_)))))
 replace gz1:IsZip g1 z p q .ellipsis:=gz1
 refine wpAny_bind ?_
 simp only [List.forIn_cons,List.forIn_nil,List.zipIdx_cons,List.zipIdx_nil]
 refine wpAny_bind (wpAny_bind (wpAny_onRaise ?_))
 show wpAny _ _ (Builtin.SmallTypes.nextOf (.ref j) >>= fun _=>_) _ _ _
 refine wpAny_bind (i3 (gj.extBut t1.extBut D.jz) (dQ ga fun o e=>t1.extBut _ _ D.az e) hx fun g2 gj2 t2=>wpAny_pure ?_)
 have gq2:IsPair g2 q u v:=t2.extBut _ _ D.qj (t1.extBut _ _ D.qz gq)
 refine wpAny_bind (wpAny_seqItems gq2 rfl (wpAny_bind (wpAny_updateSeq_pair gq2 fun g3 gq3 t3=>?_)))
 replace gq3:IsPair g3 q x v:=gq3
 refine wpAny_bind (wpAny_letGo (wpAny_pure (wpAny_bind (wpAny_bind (wpAny_onRaise ?_)))))
 show wpAny _ _ (Builtin.SmallTypes.nextOf (.ref k) >>= fun _=>_) _ _ _
 refine wpAny_bind (i3 (((gk.extBut t1.extBut D.kz).extBut t2.extBut D.jk.symm).extBut t3.extBut D.qk.symm) (dQ gb fun o e=>t3.extBut _ _ D.bq (t2.extBut _ _ D.bj (t1.extBut _ _ D.bz e))) hy fun g4 gk4 t4=>wpAny_pure ?_)
 have gq4:IsPair g4 q x v:=t4.extBut _ _ D.qk gq3
 refine wpAny_bind (wpAny_seqItems gq4 rfl (wpAny_bind (wpAny_updateSeq_pair gq4 fun g5 gq5 t5=>?_)))
 replace gq5:IsPair g5 q x y:=gq5
 refine wpAny_bind (wpAny_letGo (wpAny_pure (wpAny_pure (wpAny_bind (wpAny_seqItems gq5 rfl (wpAny_bind (wpAny_newTuple ?_)))))))
 have ez:g5.objs.size=s.heap.objs.size:=by rw [t5.1,t4.1,t3.1,t2.1,t1.1]
 have gz5:IsZip g5 z p q .ellipsis:=t5.extBut _ _ D.qz.symm (t4.extBut _ _ D.kz.symm (t3.extBut _ _ D.qz.symm (t2.extBut _ _ D.jz.symm gz1)))
 have k5:∀ c o,c ≠ z->c ≠ q->c ≠ j->c ≠ k->s.heap.get? c=some o->g5.get? c=some o:=fun c o c1 c2 c3 c4 e=>t5.extBut _ _ c2 (t4.extBut _ _ c4 (t3.extBut _ _ c2 (t2.extBut _ _ c3 (t1.extBut _ _ c1 e))))
 have gj5:g5.IsTupleIter j a (m+1):=((gj2.extBut t3.extBut D.qj.symm).extBut t4.extBut D.jk).extBut t5.extBut D.qj.symm
 have gk5:g5.IsTupleIter k b (n+1):=gk4.extBut t5.extBut D.qk.symm
 have lz:z < g5.objs.size:=Heap.lt_size gz5
 show wpAny _ _ (Builtin.SmallTypes.ownedTupleHandOut (.ref z) (.ref g5.objs.size) >>= fun _=>_) _ _ _
 refine wpAny_bind ?_
 unfold Builtin.SmallTypes.ownedTupleHandOut
 have gz6:IsZip (g5.push { cls:=.type "tuple",data:=.seq #[x,y] }) z p q .ellipsis:=Heap.get?_push_of_some _ gz5
 refine wpAny_bind (wpAny_setField_rec gz6 (by simp) fun g7 gz7 t7=>?_)
 replace gz7:IsZip g7 z p q (rawInt g5.objs.size):=gz7
 refine wpAny_setField_rec gz7 (by simp) fun g8 gz8 t8=>?_
 replace gz8:IsZip g8 z p q (rawInt g5.objs.size):=gz8
 have up:∀ c o,c ≠ z->g5.get? c=some o->g8.get? c=some o:=fun c o c1 e=>t8.extBut _ _ c1 (t7.extBut _ _ c1 (Heap.get?_push_of_some _ e))
 have gT:IsPair g8 g5.objs.size x y:=t8.extBut _ _ (Nat.ne_of_gt lz) (t7.extBut _ _ (Nat.ne_of_gt lz) (Heap.get?_push_size _ rfl))
 have e8:g8.objs.size=g5.objs.size+1:=by rw [t8.1,t7.1,Heap.size_push]
 rw [ez] at gz8 gT e8
 refine wpAny_pure ⟨_,rfl,?_⟩
 show Q (.ref g5.objs.size) _
 rw [ez]
 refine hQ g8 gz8 (up _ _ D.qz gq5) ?_ ?_ gT e8 fun c o c1 c2 c3 c4 e=>up c o c1 (k5 c o c1 c2 c3 c4 e)
 ·obtain⟨o,e,r⟩:=gj5
  exact⟨o,up _ _ D.jz e,r⟩
 ·obtain⟨o,e,r⟩:=gk5
  exact⟨o,up _ _ D.kz e,r⟩
theorem qV {z p q j k a b:Addr} {m n:Nat} {xs ys:Array Value} {u v:Value} {Q:Fin->Shared->Prop} (ha:A.handled=none) (D:lO z p q j k a b)
  (gz:IsZip s.heap z p q .none) (gp:IsPair s.heap p (.ref j) (.ref k)) (gq:IsPair s.heap q u v)
  (gj:s.heap.IsTupleIter j a m) (gk:s.heap.IsTupleIter k b n) (ga:s.heap.IsTuple a xs) (gb:s.heap.IsTuple b ys) (hend:xs[m]? = none\/ys[n]? = none)
  (hE:∀ g e,(∀ c o,c ≠ z->c ≠ q->c ≠ j->c ≠ k->s.heap.get? c=some o->g.get? c=some o)->(∃ o,g.get? e=some o/\o.cls=.type "StopIteration")->E (.ref e) { s with heap:=g }) :
  wpAny (model prog w) A (Builtin.«zip.__next__» ⟨[.ref z],[]⟩) Q E s:=by
 show wpAny _ _ (field (.ref z) 2 >>= fun _=>_) _ _ _
 refine wpAny_bind (wpAny_field gz rfl (x:=.bool false) rfl ?_)
 show wpAny _ _ (field (.ref z) 3 >>= fun _=>_) _ _ _
 refine wpAny_bind (wpAny_field gz rfl (x:=.ref p) rfl (wpAny_bind (wpAny_seqItems gp rfl ?_)))
 show wpAny _ _ (Builtin.SmallTypes.ownedTupleIsFree (.ref z) >>= fun _=>_) _ _ _
 refine wpAny_bind ?_
 unfold Builtin.SmallTypes.ownedTupleIsFree
 refine wpAny_bind (wpAny_field gz rfl (x:=.none) rfl (wpAny_pure ?_))
 simp only [if_true]
 refine wpAny_bind (wpAny_rule (wpAny_bind (wpAny_field gz rfl (x:=.ref q) rfl (wpAny_bind (wpAny_setField_rec gz (by simp) fun g1 gz1 t1=>?_)))))
 replace gz1:IsZip g1 z p q .ellipsis:=gz1
 refine wpAny_bind ?_
 simp only [List.forIn_cons,List.forIn_nil,List.zipIdx_cons,List.zipIdx_nil]
 refine wpAny_bind (wpAny_bind (wpAny_onRaise ?_))
 show wpAny _ _ (Builtin.SmallTypes.nextOf (.ref j) >>= fun _=>_) _ _ _
 cases hx:xs[m]? with
 | none =>
  refine wpAny_bind (jj ha (gj.extBut t1.extBut D.jz) (dQ ga fun o e=>t1.extBut _ _ D.az e) hx fun g2 e t2 he=>?_)
  obtain⟨oe,eoe,ce⟩:=he
  have gz2:IsZip g2 z p q .ellipsis:=t2 _ _ D.jz.symm gz1
  have ne:e ≠ z:=fun x=>by subst x;rw [gz2] at eoe;cases eoe;simp at ce
  exact wpAny_setField_rec gz2 (by simp) fun g3 _ t3=>hE g3 e (fun c o c1 _ c3 _ x=>t3.extBut _ _ c1 (t2 _ _ c3 (t1.extBut _ _ c1 x))) ⟨oe,t3.extBut _ _ ne eoe,ce⟩
 | some x =>
  have hy:ys[n]? = none:=hend.elim (fun h=>by rw [hx] at h;cases h) id
  refine wpAny_bind (i3 (gj.extBut t1.extBut D.jz) (dQ ga fun o e=>t1.extBut _ _ D.az e) hx fun g2 gj2 t2=>wpAny_pure ?_)
  have gq2:IsPair g2 q u v:=t2.extBut _ _ D.qj (t1.extBut _ _ D.qz gq)
  refine wpAny_bind (wpAny_seqItems gq2 rfl (wpAny_bind (wpAny_updateSeq_pair gq2 fun g3 gq3 t3=>?_)))
  refine wpAny_bind (wpAny_letGo (wpAny_pure (wpAny_bind (wpAny_bind (wpAny_onRaise ?_)))))
  show wpAny _ _ (Builtin.SmallTypes.nextOf (.ref k) >>= fun _=>_) _ _ _
  refine wpAny_bind (jj ha (((gk.extBut t1.extBut D.kz).extBut t2.extBut D.jk.symm).extBut t3.extBut D.qk.symm) (dQ gb fun o e=>t3.extBut _ _ D.bq (t2.extBut _ _ D.bj (t1.extBut _ _ D.bz e))) hy fun g4 e t4 he=>?_)
  obtain⟨oe,eoe,ce⟩:=he
  have gz4:IsZip g4 z p q .ellipsis:=t4 _ _ D.kz.symm (t3.extBut _ _ D.qz.symm (t2.extBut _ _ D.jz.symm gz1))
  have ne:e ≠ z:=fun x=>by subst x;rw [gz4] at eoe;cases eoe;simp at ce
  exact wpAny_setField_rec gz4 (by simp) fun g5 _ t5=>hE g5 e (fun c o c1 c2 c3 c4 x=>t5.extBut _ _ c1 (t4 _ _ c4 (t3.extBut _ _ c2 (t2.extBut _ _ c3 (t1.extBut _ _ c1 x))))) ⟨oe,t5.extBut _ _ ne eoe,ce⟩
theorem pK {z p q j k a b:Addr} {m n:Nat} {xs ys:Array Value} {x y u v:Value} {Q:Option Value->Shared->Prop} (D:lO z p q j k a b)
  (gz:IsZip s.heap z p q .none) (gp:IsPair s.heap p (.ref j) (.ref k)) (gq:IsPair s.heap q u v)
  (gj:s.heap.IsTupleIter j a m) (gk:s.heap.IsTupleIter k b n) (ga:s.heap.IsTuple a xs) (gb:s.heap.IsTuple b ys) (hx:xs[m]? = some x) (hy:ys[n]? = some y)
  (hQ:∀ g,IsZip g z p q (rawInt s.heap.objs.size)->IsPair g q x y->g.IsTupleIter j a (m+1)->g.IsTupleIter k b (n+1)->IsPair g s.heap.objs.size x y->g.objs.size=s.heap.objs.size+1 ->
   (∀ c o,c ≠ z->c ≠ q->c ≠ j->c ≠ k->s.heap.get? c=some o->g.get? c=some o)->Q (some (.ref s.heap.objs.size)) { s with heap:=g }) :
  wpAny (model prog w) A (pyNext (.ref z)) Q E s:=by
 have ty:s.TypeIs (.ref z) "zip" := ⟨_,gz,rfl⟩
 unfold pyNext
 exact wpAny_bind (wpAny_attempt (wpAny_callSpecial?_slot (name:=Str.ofString "__next__") ty F.slot_zip_next (wpAny_call_entry F.slot_zip_next ty F.entry_zip_next
   (pJ D gz gp gq gj gk ga gb hx hy fun g a1 a2 a3 a4 a5 a6 a7=>wpAny_pure (hQ g a1 a2 a3 a4 a5 a6 a7)) (F.args_zip_next_1 _))))
theorem pL {z p q j k a b:Addr} {m n:Nat} {xs ys:Array Value} {u v:Value} {Q:Option Value->Shared->Prop} (ha:A.handled=none) (D:lO z p q j k a b)
  (gz:IsZip s.heap z p q .none) (gp:IsPair s.heap p (.ref j) (.ref k)) (gq:IsPair s.heap q u v)
  (gj:s.heap.IsTupleIter j a m) (gk:s.heap.IsTupleIter k b n) (ga:s.heap.IsTuple a xs) (gb:s.heap.IsTuple b ys) (hend:xs[m]? = none\/ys[n]? = none)
  (hQ:∀ g,(∀ c o,c ≠ z->c ≠ q->c ≠ j->c ≠ k->s.heap.get? c=some o->g.get? c=some o)->Q none { s with heap:=g }):wpAny (model prog w) A (pyNext (.ref z)) Q E s:=by
 have ty:s.TypeIs (.ref z) "zip" := ⟨_,gz,rfl⟩
 unfold pyNext
 refine wpAny_bind (wpAny_attempt (wpAny_callSpecial?_slot (name:=Str.ofString "__next__") ty F.slot_zip_next (wpAny_call_entry F.slot_zip_next ty F.entry_zip_next
   (qV ha D gz gp gq gj gk ga gb hend fun g e hk he=>?_) (F.args_zip_next_1 _))))
 obtain⟨o,eo,ec⟩:=he
 exact wpAny_bind (wpAny_isInstance (T := "StopIteration") (b:=true) ⟨o,eo,ec⟩ isSubtype_stop (wpAny_pure (hQ _ hk)))
abbrev m6 (h:Heap) (a:Addr):Heap:=h.push { cls:=.type "tuple_iterator",data:=.fields #[.ref a,.int 0 0] }
abbrev oX (h:Heap) (a b:Addr):Heap:=(m6 h a).push { cls:=.type "tuple_iterator",data:=.fields #[.ref b,.int 0 0] }
abbrev oY (h:Heap) (a b:Addr):Heap:=(oX h a b).push { cls:=.type "tuple",data:=.seq #[.ref h.objs.size,.ref (m6 h a).objs.size] }
abbrev oZ (h:Heap) (a b:Addr):Heap:=(oY h a b).push { cls:=.type "tuple",data:=.seq #[.none,.none] }
abbrev lP (h:Heap) (a b:Addr):Heap:=(oZ h a b).push { cls:=.type "zip",data:=.fields #[.none,.bool false,.bool false,.ref (oX h a b).objs.size,.ref (oY h a b).objs.size] }
theorem qW (a b:Addr) (xs ys:Array Value):Meets (Builtin.«zip.__new__» ⟨[.type "zip",.ref a,.ref b],[]⟩) (fun _ R s=>s.heap.IsTuple a xs/\s.heap.IsTuple b ys /\
   R (.ok (.ret (.ref (oZ s.heap a b).objs.size))) { s with heap:=lP s.heap a b }) :=
 .of_wp fun P w' A' R' s' hh=>by
  obtain⟨hp,g,d,tk,os⟩:=s'
  obtain⟨ga,gb,hh⟩:=hh
  have hsub:=sub_zip
  have la:Heap.IsTuple (Shared.heap ⟨hp,g,d,tk,os⟩) a xs:=ga
  have lb:Heap.IsTuple (Shared.heap ⟨m6 hp a,g,d,tk,os⟩) b ys:=dQ gb fun o e=>Heap.get?_push_of_some _ e
  wp_walk using wpAny_pyIter_tuple la,wpAny_pyIter_tuple lb
  exact⟨_,rfl,hh⟩
theorem pM {a b:Addr} {xs ys:Array Value} {Q:Value->Shared->Prop} (ga:s.heap.IsTuple a xs) (gb:s.heap.IsTuple b ys)
  (h:∀ g,IsZip g (s.heap.objs.size+4) (s.heap.objs.size+2) (s.heap.objs.size+3) .none->IsPair g (s.heap.objs.size+2) (.ref s.heap.objs.size) (.ref (s.heap.objs.size+1)) ->
   IsPair g (s.heap.objs.size+3) .none .none->g.IsTupleIter s.heap.objs.size a 0->g.IsTupleIter (s.heap.objs.size+1) b 0 ->
   (∀ c o,s.heap.get? c=some o->g.get? c=some o)->Q (.ref (s.heap.objs.size+4)) { s with heap:=g }) :
  wpAny (model prog w) A (call (.type "zip") [.ref a,.ref b]) Q E s:=by
 refine callType_new F.called_zip (by decide) (F.typeCall_zip_2 _ _) (F.newCall_zip_2 _ _) (fun obj=>F.args_object_init_3 obj _ _) F.entry_zip_new (qW a b xs ys) ⟨ga,gb,?_⟩
 have z1:(m6 s.heap a).objs.size=s.heap.objs.size+1:=Heap.size_push ..
 have z2:(oX s.heap a b).objs.size=s.heap.objs.size+2:=by rw [Heap.size_push,z1]
 have z3:(oY s.heap a b).objs.size=s.heap.objs.size+3:=by rw [Heap.size_push,z2]
 have z4:(oZ s.heap a b).objs.size=s.heap.objs.size+4:=by rw [Heap.size_push,z3]
 have up:∀ {h:Heap} {c:Addr} {o o':Obj},h.get? c=some o->(h.push o').get? c=some o:=fun e=>Heap.get?_push_of_some _ e
 have q5:(lP s.heap a b).get? (oZ s.heap a b).objs.size=some _:=Heap.get?_push_size _ rfl
 have q4:(lP s.heap a b).get? (oY s.heap a b).objs.size=some _:=up (Heap.get?_push_size _ rfl)
 have q3:(lP s.heap a b).get? (oX s.heap a b).objs.size=some _:=up (up (Heap.get?_push_size _ rfl))
 have q2:(lP s.heap a b).get? (m6 s.heap a).objs.size=some _:=up (up (up (Heap.get?_push_size _ rfl)))
 have q1:(lP s.heap a b).get? s.heap.objs.size=some _:=up (up (up (up (Heap.get?_push_size _ rfl))))
 show _/\_
 rw [z2,z3,z4] at q5
 rw [z1,z2] at q3
 rw [z3] at q4
 rw [z1] at q2
 rw [z4]
 exact⟨⟨_,q5,rfl⟩,h _ q5 q3 q4 ⟨_,q1,rfl,rfl⟩ ⟨_,q2,rfl,rfl⟩ fun c o x=>up (up (up (up (up x))))⟩
end
section
variable {X:Cx} {pins:List (Addr × Obj)} {σ : List (Option V)} {H H':Hp} {s:Shared} {h':Heap}
theorem Inv.fW {t':Nat} {fp:List Addr} (I:Inv X pins σ H s) (k:∀ b o,b ∉ fp->s.heap.get? b=some o->h'.get? b=some o) (f:∀ b ∈ fp,dc X pins H b):Inv X pins σ H { s with heap:=h',toks:=t' }:=by
 have nit:∀ b u,H b=some u->b ∉ fp:=fun b u e z=>by rw [(f b z).1] at e;cases e
 refine I.step (g':=s.gens) (d':=s.drawn) (ch:=fp) (fun b hb=>?_) (fun b o _ _ hc e _=>k b o hc e) (fun b o _ _ hc e _=>⟨o.slots,k b o hc e⟩) (fun _ _ _ _ n=>n)
  (fun b o hc e=>⟨o,k b o hc e⟩) (fun _ _ e=>e) (fun _ _ _ e=>e) (fun b ps e=>⟨#[],by rw [e];simp⟩) (fun m hm=>?_) (fun b u e=>?_) I.bare
 ·obtain⟨f0,f1,f2,f3,f4,f5⟩:=f b hb
  exact⟨f3,f1,f4,f5⟩
 ·obtain⟨o,es,ep,ho,r⟩:=hm
  exact⟨o,es,ep,k _ o (fun z=>(f _ z).2.1 rfl) ho,r⟩
 ·refine (I.av b u e).iw (fun c v hc q=>k c v ?_ q) (fun _ q=>q) fun _ _ q=>q
  rcases hc with z | z
  ·rw [z];exact nit b u e
  ·exact nit c _ z
def o1 (K:PySem.W.Frag) (a b:Addr):It :=
 ⟨fun i H=>∃ xs ys x y,aw K H a xs/\aw K H b ys/\xs[i]? = some x/\ys[i]? = some y,
  fun i H v H'=>∃ t x y,v=.ref t/\H t=none/\H' = upd H t (.tup [x,y])/\∀ xs ys,aw K H a xs->aw K H b ys->xs[i]? = some x/\ys[i]? = some y,
  fun i H=>∃ xs ys,aw K H a xs/\aw K H b ys/\(xs.length<=i\/ys.length<=i)⟩
theorem n4 {P:Program} {w:World} {K:PySem.W.Frag} {elts:List Expr} {kk:Nat} {pos:Pos} (a b z p q j k:Addr) (D:lO z p q j k a b) :
    Turn P w K (.Tuple elts kk pos) (o1 K a b) [z,p,q,j,k] z (fun i h=>IsZip h z p q .none/\IsPair h p (.ref j) (.ref k)/\(∃ u v,IsPair h q u v)/\h.IsTupleIter j a i/\h.IsTupleIter k b i) where
  mem:=by simp
  obj:=fun i h st c hc=>by
    obtain⟨gz,gp,⟨u,v,gq⟩,⟨oj,ej,cj,dj⟩,⟨ok,ek,ck,dk⟩⟩:=st
    simp only [List.mem_cons,List.not_mem_nil,or_false] at hc
    rcases hc with rfl | rfl | rfl | rfl | rfl
    · exact⟨_,gz,fun v e=>by cases e⟩
    · exact⟨_,gp,fun v e=>by cases e⟩
    · exact⟨_,gq,fun v e=>by cases e⟩
    · exact⟨oj,ej,fun v e=>by rw [dj] at e;cases e⟩
    · exact⟨ok,ek,fun v e=>by rw [dk] at e;cases e⟩
  keep:=fun i h g st kp=>by
    obtain⟨gz,gp,⟨u,v,gq⟩,⟨oj,ej,rj⟩,⟨ok,ek,rk⟩⟩:=st
    exact⟨kp z (by simp) _ gz,kp p (by simp) _ gp,⟨u,v,kp q (by simp) _ gq⟩,⟨oj,kp j (by simp) _ ej,rj⟩,⟨ok,kp k (by simp) _ ek,rk⟩⟩
  item:=by
    intro X hP hw hK hc i pins s σ H E I hf st hg
    subst hP hw hK
    obtain⟨gz,gp,⟨u,v,gq⟩,gj,gk⟩:=st
    obtain⟨xs,ys,x,y,ha,hb,hx,hy⟩:=hg
    obtain⟨is,ra,pa,_⟩:=I.tuple ha
    obtain⟨js,rb,pb,_⟩:=I.tuple hb
    obtain⟨xv,hxv,rx⟩:=ra.get hx
    obtain⟨yv,hyv,ry⟩:=rb.get hy
    have sz:∀ c ∈ [z,p,q,j,k],c ≠ s.heap.objs.size:=fun c hc e=>by
      subst e
      simp only [List.mem_cons,List.not_mem_nil,or_false] at hc
      rcases hc with e | e | e | e | e
      · exact absurd (Heap.lt_size gz) (by rw [<-e];exact Nat.lt_irrefl _)
      · exact absurd (Heap.lt_size gp) (by rw [<-e];exact Nat.lt_irrefl _)
      · exact absurd (Heap.lt_size gq) (by rw [<-e];exact Nat.lt_irrefl _)
      · obtain⟨oj,ej,_⟩:=gj
        exact absurd (Heap.lt_size ej) (by rw [<-e];exact Nat.lt_irrefl _)
      · obtain⟨ok,ek,_⟩:=gk
        exact absurd (Heap.lt_size ek) (by rw [<-e];exact Nat.lt_irrefl _)
    refine pK D gz gp gq gj gk (show s.heap.IsTuple a is.toArray from pa) (show s.heap.IsTuple b js.toArray from pb) (x:=xv) (y:=yv) (by simpa using hxv) (by simpa using hyv) fun g a1 a2 a3 a4 a5 a6 hk=>?_
    refine⟨.ref s.heap.objs.size,rfl,wpAny_letOwnedTupleGo_zip a1 fun g' gz' sb=>?_⟩
    have fr:=I.av.fresh (a:=s.heap.objs.size) (Nat.le_refl _)
    have I1:Inv X pins σ (upd H s.heap.objs.size (.tup [x,y])) { s with heap:=s.heap.push { cls:=.type "tuple",data:=.seq #[xv,yv] },toks:=s.toks } :=
      I.laid (fun _ _ e=>Heap.get?_push_of_some _ e) (Nat.le_refl _) ⟨by show 2<=sizeLine;decide,[xv,yv],.cons rx (.cons ry .nil),by first | exact IsTup.new _ _ | exact⟨_,Heap.get?_push_size _ rfl,rfl,_,rfl,rfl⟩⟩
    have f1:∀ c ∈ [z,p,q,j,k],dc X pins (upd H s.heap.objs.size (.tup [x,y])) c:=fun c hc=>by
      obtain⟨f0,fr'⟩:=hf c hc
      exact⟨by rw [ae (sz c hc)];exact f0,fr'⟩
    have I2:Inv X pins σ (upd H s.heap.objs.size (.tup [x,y])) { s with heap:=g',toks:=s.toks }:=Inv.fW (s:={ s with heap:=s.heap.push { cls:=.type "tuple",data:=.seq #[xv,yv] },toks:=s.toks }) (fp:=[z,p,q,j,k]) (h':=g') (t':=s.toks) I1 (fun c o hc e=>by
      simp only [List.mem_cons,List.not_mem_nil,or_false,not_or] at hc
      refine sb.extBut _ _ hc.1 ?_
      rcases Heap.get?_push_cases e with ⟨rfl,rfl⟩ | e
      · exact a5
      · exact hk c o hc.1 hc.2.2.1 hc.2.2.2.1 hc.2.2.2.2 e) f1
    refine⟨.ref s.heap.objs.size,_,I2,rfl,⟨_,x,y,rfl,fr,rfl,fun xs' ys' h1 h2=>?_⟩,⟨gz',sb.extBut _ _ D.pz (hk _ _ D.pz D.pq D.pj D.pk gp),⟨xv,yv,sb.extBut _ _ D.qz a2⟩,a3.extBut sb.extBut D.jz,a4.extBut sb.extBut D.kz⟩,fun c hc=>(f1 c hc).1⟩
    rw [I.fB h1 ha,I.fB h2 hb]
    exact⟨hx,hy⟩
  done:=by
    intro X hP hw hK hc i pins s σ H E I hf st hg
    subst hP hw hK
    obtain⟨gz,gp,⟨u,v,gq⟩,gj,gk⟩:=st
    obtain⟨xs,ys,ha,hb,hl⟩:=hg
    obtain⟨is,ra,pa,_⟩:=I.tuple ha
    obtain⟨js,rb,pb,_⟩:=I.tuple hb
    have la:=ra.length
    have lb:=rb.length
    have he:is.toArray[i]? = none\/js.toArray[i]? = none:=by
      rcases hl with h | h
      · exact .inl (by simp;omega)
      · exact .inr (by simp;omega)
    exact pL (I.ok.hd hc) D gz gp gq gj gk (show s.heap.IsTuple a is.toArray from pa) (show s.heap.IsTuple b js.toArray from pb) he fun g hk=>⟨rfl,I.fW (fp:=[z,p,q,j,k]) (t':=s.toks) (fun c o hc e=>by
      simp only [List.mem_cons,List.not_mem_nil,or_false,not_or] at hc
      exact hk c o hc.1 hc.2.2.1 hc.2.2.2.1 hc.2.2.2.2 e) hf⟩
  self:=fun _ _ _ _ _ st h=>wpAny_pyIter_zip st.1 h
theorem tU {N a b:Nat} (ha:a < N) (hb:b < N):lO (N+4:Nat) (N+2:Nat) (N+3:Nat) N (N+1:Nat) a b :=
 have ne:∀ {u v:Nat},u < v->¬ (u=v):=fun h e=>by omega
 have ne':∀ {u v:Nat},v < u->¬ (u=v):=fun h e=>by omega
 ⟨ne (by omega),ne (by omega),ne (by omega),ne (by omega),ne (by omega),ne' (by omega),ne' (by omega),ne' (by omega),ne' (by omega),ne (by omega),ne (by omega),ne (by omega),ne (by omega),ne (by omega),ne (by omega),ne (by omega),ne (by omega),ne (by omega)⟩
theorem qX:bootBuiltins "zip" = some (.type "zip"):=by decide +kernel
def tG (K:PySem.W.Frag) (ta:TA):TI:=fun σ H R=>ta σ H fun vs H1=>∃ a b,vs = [.ref a,.ref b]/\(∃ xs,aw K H1 a xs)/\(∃ ys,aw K H1 b ys)/\R (o1 K a b) H1
theorem qY {a b:Expr} {ta:TA} {p pos tp:Pos} {elts:List Expr} {kk:Nat} (hg:Gl X "zip") (hm:X.mg "zip" = none) (ha:PA X [a,b] ta) (hs:starEach [a,b] X.env = [(false,eval a X.env),(false,eval b X.env)]:=by rfl) (hs2:starEach [b] X.env = [(false,eval b X.env)]:=by rfl) :
  PI X (.Tuple elts kk tp) (.Call (.Name "zip" p) [a,b] [] pos) (tG X.K ta):=by
 intro pins s σ H R I h
 refine Call_ (gM I hg hm qX (PyProof.Rows.callWith_type1 (aA (ha pos pins s σ H _ I h) fun us s1 ⟨vs,H1,I1,r1,q1⟩=>?_) (by rw [hs,hs2]) (by rw [hs2];rfl)))
 obtain⟨x,y,e,⟨xs,hx⟩,⟨ys,hy⟩,q⟩:=q1
 subst e
 cases r1 with
 | cons r rr =>
  cases rr with
  | cons r' rr =>
   cases rr
   cases r
   cases r'
   obtain⟨is,rx,px,_⟩:=I1.tuple hx
   obtain⟨js,ry,py,_⟩:=I1.tuple hy
   have lx:x < s1.heap.objs.size:=px.lt
   have ly:y < s1.heap.objs.size:=py.lt
   refine pM (show s1.heap.IsTuple x is.toArray from px) (show s1.heap.IsTuple y js.toArray from py) fun g gz gp gq gj gk up=>?_
   refine wpAny_pyIter_zip gz ?_
   have I2:Inv X pins σ H1 { s1 with heap:=g }:=I1.kept (t':=s1.toks) up
   refine⟨_,[s1.heap.objs.size+4,s1.heap.objs.size+2,s1.heap.objs.size+3,s1.heap.objs.size,s1.heap.objs.size+1],_,o1 X.K x y,H1,rfl,I2,n4 x y _ _ _ _ _ ?_,⟨gz,gp,⟨_,_,gq⟩,gj,gk⟩,fun c hc=>?_,q⟩
   ·exact tU lx ly
   ·have le:s1.heap.objs.size<=c:=by
     simp only [List.mem_cons,List.not_mem_nil,or_false] at hc
     rcases hc with rfl | rfl | rfl | rfl | rfl
     ·exact Nat.le_add_right _ _
     ·exact Nat.le_add_right _ _
     ·exact Nat.le_add_right _ _
     ·exact Nat.le_refl _
     ·exact Nat.le_add_right _ _
    exact I1.fG le (I1.av.fresh le)
theorem qZ {K:PySem.W.Frag} {a b acc:Addr} {xs ys:List V} {n:Nat} {js:List Nat} {g:TG} {ct:TT} {te:TE} {σ : St} {H1:Hp} {Q:VK} (Pv:Nat->List V->St->Hp->Prop) (h0:Pv 0 [] (di n js σ) (upd H1 acc (.lst [])))
  (hl:∀ i zs τ H,i<=min xs.length ys.length->Pv i zs τ H->aw K H a xs/\aw K H b ys/\H acc=some (.lst zs)/\zs.length < sizeLine)
  (hs:∀ i x y zs τ H t,xs[i]? = some x->ys[i]? = some y->H t=none->Pv i zs τ H->g (.ref t) τ (upd H t (.tup [x,y])) fun τ1 H4=>ct τ1 H4 fun b H5=>if b=true then te τ1 H5 fun v H6=>H6 acc=some (.lst zs)/\Pv (i+1) (zs ++ [v]) τ1 (upd H6 acc (.lst (zs ++ [v]))) else Pv (i+1) zs τ1 H5)
  (hd:∀ zs τ H,Pv (min xs.length ys.length) zs τ H->Q (.ref acc) H) :
  lK (o1 K a b) n js g ct te acc σ H1 Q:=by
 refine⟨fun i m zs τ H=>m=min xs.length ys.length - i/\i<=min xs.length ys.length/\Pv i zs τ H,⟨min xs.length ys.length,by simp,Nat.zero_le _,h0⟩,?_⟩
 rintro i m zs τ H ⟨rfl,hi,p⟩
 obtain⟨qa,qb,q2,q3⟩:=hl i zs τ H hi p
 refine⟨q2,q3,?_⟩
 by_cases hlt:i < min xs.length ys.length
 ·have l1:i < xs.length:=by omega
  have l2:i < ys.length:=by omega
  refine .inr ⟨⟨xs,ys,xs[i],ys[i],qa,qb,by simp [l1],by simp [l2]⟩,Pv (i+1),fun zs' τ' H' p'=>⟨min xs.length ys.length - (i+1),by omega,rfl,hlt,p'⟩,fun v H' y=>?_⟩
  obtain⟨t,x,y,rfl,ht,rfl,h⟩:=y
  obtain⟨h1,h2⟩:=h xs ys qa qb
  exact hs i x y zs τ H t h1 h2 ht p
 ·have e:i=min xs.length ys.length:=by omega
  subst e
  refine .inl ⟨⟨xs,ys,qa,qb,?_⟩,hd zs τ H p⟩
  rcases Nat.le_total xs.length ys.length with h | h
  ·exact .inl (by omega)
  ·exact .inr (by omega)
end
structure q9 (K:PySem.W.Frag) (mg:Str->Option Value) (nm:Str) (a:Addr) (D:List (Str × Addr)):Prop where
 tV:mg nm=some (.ref a)
 lk:∃ es ep,K.lookup a=some ⟨.type "dict",none,.dict es ep,#[]⟩/\KTD.Rows (fun d v=>v=Value.ref d) es.toList D
section
variable {prog:Program} {w:World} {A:Around} {E:Value->Shared->Prop} {s:Shared}
theorem n5 {a d:Addr} {o:Obj} {es:Array DictEntry} {ep:Nat} {k:Str} {t:Tok} {D:List (Str × Addr)} {Q:Option Value->Shared->Prop} (ho:s.heap.get? a=some o) (hd:o.data=.dict es ep)
  (hr:KTD.Rows (fun d v=>v=Value.ref d) es.toList D) (ha:KTD.datumAt k D=some d) (q:Q (some (.ref d)) { s with toks:=s.toks+1 }):wpAny (model prog w) A (dictGet a (.str k t)) Q E s:=by
 unfold dictGet
 try with_reducible refine wpAny_holding ?_
 refine wpAny_bind (wpAny_pyHash_str (wpAny_bind (KTD.kt_dictFind_strs (s:={ s with toks:=s.toks+1 }) ho hd (by have:=hr.exact;obtain⟨l⟩:=es;simpa using this) ?_)))
 have hq:Q (findBy (fun k v=>v.isStr k) es k) { s with toks:=s.toks+1 }:=by
  obtain⟨v,hv,rfl⟩:=hr.find_some ha
  have e:findBy (fun k v=>v.isStr k) es k=some (.ref d):=by
   rw [<-hv]
   obtain⟨l⟩:=es
   simp [findBy]
  rw [e]
  exact q
 rw [findBy_of_findIdx?] at hq
 cases hi:es.findIdx? fun e=>e.key.isStr k with
 | some i=>rw [hi] at hq;exact wpAny_bind (wpAny_dictEntries (s:={ s with toks:=s.toks+1 }) ho hd (wpAny_pure hq))
 | none=>rw [hi] at hq;exact wpAny_pure hq
theorem og {a d:Addr} {o:Obj} {es:Array DictEntry} {ep:Nat} {k:Str} {t:Tok} {D:List (Str × Addr)} {Q:Value->Shared->Prop} (ty:s.TypeIs (.ref a) "dict") (ho:s.heap.get? a=some o) (hd:o.data=.dict es ep)
  (hr:KTD.Rows (fun d v=>v=Value.ref d) es.toList D) (ha:KTD.datumAt k D=some d) (q:Q (.ref d) { s with toks:=s.toks+1 }):wpAny (model prog w) A (getItem (.ref a) (.str k t)) Q E s:=by
 unfold getItem
 try with_reducible refine wpAny_holding ?_
 refine wpAny_bind (wpAny_sequenceKey ty (by decide) (wpAny_bind (wpAny_callSpecial?_slot (name:=Str.ofString "__getitem__") ty slot_dict_getitem (wpAny_call_entry slot_dict_getitem ty entry_dict_getitem ?_ (args_dict_getitem _ _)))))
 show wpAny _ _ (dictGet a (.str k t) >>= fun _=>_) _ _ s
 exact wpAny_bind (n5 ho hd hr ha (wpAny_pure ⟨_,rfl,wpAny_pure q⟩))
end
section
variable {X:Cx}
theorem pN {nm:Str} {a:Addr} {D:List (Str × Addr)} {i:Expr} {p pos:Pos} {ty:TE} (G:q9 X.K X.mg nm a D) (hg:Gl X nm) (hi:PE X i ty) (hs:qP i) (hdb:(nm == ("__debug__" : Str))=false:=by decide) :
  PE X (.Subscript (.Name nm p) i pos) (fun σ H Q=>ty σ H fun y H1=>∃ x d,y=.str x/\KTD.datumAt x D=some d/\Q (.ref d) H1):=by
 intro pins s σ H Q I h
 obtain⟨es,ep,hk,hr⟩:=G.lk
 refine pD PySem.F.slot_dict_getitem.lookup hs (aA (o5 (v:=.ref a) hg G.tV rfl hdb pins s σ H (fun x H1=>x=.ref a/\ty σ H1 fun y H1=>∃ x d,y=.str x/\KTD.datumAt x D=some d/\Q (.ref d) H1) I ⟨rfl,h⟩) fun u s1 ⟨x,H1,I1,rx,ex,q1⟩=>?_)
 subst ex
 obtain rfl:u=Value.ref a:=rx
 refine aA (hi pins s1 σ H1 _ I1 q1) fun iv s2 ⟨y,H2,I2,ry,k,d,ey,hd,q2⟩=>?_
 subst ey
 obtain⟨t,rfl⟩:=(show ∃ t,iv=Value.str k t from ry)
 have ho:=I2.jW a _ hk
 exact⟨⟨_,ho,rfl⟩,og ⟨_,ho,rfl⟩ ho rfl hr hd ⟨.ref d,H2,I2.tok _,rfl,q2⟩⟩
end
def pick (w:Str) (xs:List V) (ks:List Str):List V:=((xs.zip ks).filter fun p=>decide (p.2=w)).map (·.1)
def fD (w:Str) (xs:List V) (ks:List Str) (i:Nat):List V:=(((xs.zip ks).take i).filter fun p=>decide (p.2=w)).map (·.1)
theorem mw {w:Str} {xs:List V} {ks:List Str} {i:Nat} {x:V} {k:Str} (hx:xs[i]? = some x) (hk:ks[i]? = some k):fD w xs ks (i+1)=fD w xs ks i++(if k=w then [x] else []):=by
 have hz:(xs.zip ks)[i]? = some (x,k):=by rw [List.getElem?_zip_eq_some];exact⟨hx,hk⟩
 unfold fD
 rw [List.take_add_one,hz,List.filter_append,List.map_append]
 congr 1
 by_cases h:k=w
 ·rw [if_pos h];simp [h]
 ·rw [if_neg h];simp [h]
theorem m7 {w:Str} {xs:List V} {ks:List Str}:fD w xs ks (min xs.length (ks.map V.str).length)=pick w xs ks:=by
 unfold fD pick
 rw [List.length_map,List.take_of_length_le (by rw [List.length_zip];exact Nat.le_refl _)]
theorem m8 {w:Str} {xs:List V} {ks:List Str} {i:Nat}:(fD w xs ks i).length<=i:=by
 unfold fD
 rw [List.length_map]
 exact Nat.le_trans (List.length_filter_le ..) (by rw [List.length_take];exact Nat.min_le_left ..)
theorem aw.same {K:PySem.W.Frag} {H H':Hp} {a:Addr} {xs:List V} (h:aw K H a xs) (s:ah H H'):aw K H' a xs:=by
 rcases h with h | h
 ·rcases h with h | h
  ·exact .inl (.inl (s _ _ h))
  ·obtain⟨b,hb⟩:=h
   exact .inl (.inr ⟨b,s _ _ hb⟩)
 ·exact .inr h
def jl (K:PySem.W.Frag):Sp:=fun vs H Q _=>∃ (t s:Addr) (v0:V) (xs:List V) (ks:List Str) (w:Str),vs = [.ref t,.ref s,.str w]/\H t=some (.tup (v0 :: xs))/\aw K H s (ks.map V.str)/\xs.length<=1000 /\
 ∀ l H',H' l=some (.lst (pick w xs ks))->ah H H'->Q (.ref l) H'
def KTup (K:PySem.W.Frag) (a:Addr) (ks:List Str):Prop:=∃ (o:Obj) (its:Array Value) (n:Nat),K.lookup a=some o/\o.cls=.type "tuple" /\ o.data=.seq its n/\its.size<=sizeLine/\Vals (ks.map V.str) its.toList
structure mx (K:PySem.W.Frag) (mg:Str->Option Value) (aE s0 s1 s2 s3:Addr):Prop where
 tab:q9 K mg "END_PARTS" aE [("stop",s0),("go",s1),("less",s2),("is",s3)]
 q0:KTup K s0 []
 q1:KTup K s1 ["piece"]
 q2:KTup K s2 ["name", "number", "piece", "piece"]
 q3:KTup K s3 ["name", "number", "piece", "piece"]
def aU:End->List Nat
 | .stop=>[]
 | .go p=>[p]
 | .d4 _ _ _ p q=>[p,q]
def kE:End->List Str
 | .stop=>[]
 | .go _=>["piece"]
 | .d4 ..=>["name", "number", "piece", "piece"]
def wE:End->Str
 | .stop => "stop"
 | .go _ => "go"
 | .d4 b ..=>wT b
theorem m9 (e:End):∃ xs,fK e=.str (wE e) :: xs/\xs.length<=1000/\pick "piece" xs (kE e)=(aU e).map fun k=>V.int (k:Nat):=by
 cases e with
 | stop=>exact⟨[],rfl,by decide,rfl⟩
 | go p=>exact⟨_,rfl,by show 1<=1000;decide,by simp [pick,kE,aU]⟩
 | d4 b x n p q =>
  refine⟨_,rfl,by show 4<=1000;decide,?_⟩
  have h1:¬ ("name" : Str) = "piece" := by decide +kernel
  have h2:¬ ("number" : Str) = "piece" := by decide +kernel
  simp [pick,kE,aU,h1,h2]
theorem mx.at_ {K:PySem.W.Frag} {mg:Str->Option Value} {aE s0 s1 s2 s3:Addr} (G:mx K mg aE s0 s1 s2 s3) (e:End):∃ s,KTD.datumAt (wE e) [(("stop" : Str),s0),("go",s1),("less",s2),("is",s3)] = some s/\KTup K s (kE e):=by
 have hit:∀ {k:Str} {d:Addr} {D:List (Str × Addr)},KTD.datumAt k ((k,d) :: D)=some d:=fun {k d D}=>by
  show (if decide (k=k)=true then some d else KTD.datumAt k D)=some d
  rw [if_pos (decide_eq_true rfl)]
 have miss:∀ {k x:Str} {d:Addr} {D:List (Str × Addr)} {o:Option Addr},¬ k=x->KTD.datumAt k D=o->KTD.datumAt k ((x,d) :: D)=o:=fun {k x d D o} h e=>by
  show (if decide (k=x)=true then some d else KTD.datumAt k D)=o
  rw [if_neg (by rw [decide_eq_false h];decide)]
  exact e
 cases e with
 | stop=>exact⟨s0,hit,G.q0⟩
 | go p=>exact⟨s1,miss (show ¬ (("go" : Str) = "stop") by decide +kernel) hit,G.q1⟩
 | d4 b x n p q =>
  cases b with
  | true=>exact⟨s2,miss (show ¬ (("less" : Str) = "stop") by decide +kernel) (miss (show ¬ (("less" : Str) = "go") by decide +kernel) hit),G.q2⟩
  | false=>exact⟨s3,miss (show ¬ (("is" : Str) = "stop") by decide +kernel) (miss (show ¬ (("is" : Str) = "go") by decide +kernel) (miss (show ¬ (("is" : Str) = "less") by decide +kernel) hit)),G.q3⟩
def kq:Sp:=fun vs H Q _=>∃ (ea:Addr) (e:End),vs = [.ref ea]/\H ea=some (.tup (fK e))/\∀ t H',H' t=some (.tup ((aU e).map fun k=>V.int (k:Nat)))->ah H H'->Q (.ref t) H'
end L2
namespace LS
open PySem
open PySem.Spec PyProof.Rows
section
variable {prog:Program} {w:World} {K:Type} [DecidableEq K] {knd:KeyKind prog w K}
variable {A:Around} {E:Value->Shared->Prop} {s:Shared}
variable {a:Addr} {ks:List K} {o:Obj} {es:Array (Int × Value)} {ep:Nat} {t:SetTable} {h h':Heap}
end
section
variable {prog:Program} {w:World} {A:Around} {E:Value->Shared->Prop} {s:Shared}
end
section
variable {prog:Program} {w:World} {K:Type} [DecidableEq K] {knd:KeyKind prog w K}
variable {A:Around} {E:Value->Shared->Prop} {s:Shared} {a:Addr} {ks:List K} {o:Obj} {es:Array (Int × Value)} {ep:Nat} {t:SetTable}
end
section
variable {prog:Program} {w:World} {K:Type} [DecidableEq K] {knd:KeyKind prog w K}
variable {A:Around} {E:Value->Shared->Prop} {s:Shared} {a I:Addr} {ks:List K} {o:Obj} {es:Array (Int × Value)} {ep:Nat} {t:SetTable}
end
open PySem.Calls PySem.W
section
variable {prog:Program} {w:World} {K:Type} [DecidableEq K] {knd:KeyKind prog w K}
variable {A:Around} {E:Value->Shared->Prop} {s:Shared} {a:Addr} {ks:List K} {o:Obj} {es:Array (Int × Value)} {ep:Nat} {t:SetTable}
end
end LS
namespace L2
open PySem PySem.Spec PyProof.Rows LS
section
variable {prog:Program} {w:World} {A:Around} {E:Value->Shared->Prop} {s:Shared} {a:Addr} {ks:List Key} {o:Obj} {es:Array (Int × Value)} {ep:Nat} {t:SetTable}
end
section
variable {X:Cx} {pins:List (Addr × Obj)} {σ : List (Option V)} {H:Hp} {s:Shared}
end
end L2
namespace LS
open PySem PySem.Spec PyProof.Rows L2
section
variable {K:Type} [DecidableEq K]
end
section
variable {prog:Program} {w:World} {A:Around} {E:Value->Shared->Prop} {s:Shared}
end
section
variable {prog:Program} {w:World} {A:Around} {E:Value->Shared->Prop} {s:Shared}
end
end LS
namespace L2
open PySem PySem.Spec PyProof.Rows LS
section
variable {X:Cx}
variable {o e:Expr} {es:List Expr} {to:TE} {t:TA} {name:Str} {apos cpos:Pos} {id:String} {r:V->List V->Hp->VK->Prop}
end
def bf:End->List Str
 | .d4 _ x _ _ _=>[x]
 | _=>[]
def wD:aT->Str
 | .put .. => "put"
 | .copy .. => "copy"
 | .add .. => "add"
 | .read .. => "read"
 | .tell .. => "tell"
end L2
namespace PySem
section
variable {prog:Program} {w:World} {A:Around} {E:Value->Shared->Prop} {s:Shared}
end
end PySem
namespace PySem
section
variable {prog:Program} {w:World} {K:Type} [DecidableEq K] {knd:KeyKind prog w K} {A:Around} {s:Shared}
end
end PySem
namespace L2
open PySem PySem.Spec PyProof.Rows
section
variable {X:Cx}
end
def i4 (a b:Str):Prop:=a.cps.toList<=b.cps.toList
theorem nc {a b c:Str} (h:i4 a b) (g:i4 b c):i4 a c:=List.le_trans h g
theorem oh {a b:Str} (h:i4 a b) (g:i4 b a):a=b:=by
 have e:a.cps.toList=b.cps.toList:=List.le_antisymm h g
 have e2:a.cps=b.cps:=by rw [<-Array.toArray_toList (xs:=a.cps),e,Array.toArray_toList]
 cases a
 cases b
 cases e2
 rfl
theorem jH:∀ (l:List Str) (p:Str),risingS p l=true->(p :: l).Pairwise i4
 | [],p,_=>by simp
 | x :: r,p,h=>by
  have h':(!ltCps x.cps.toList p.cps.toList && risingS x r)=true:=h
  rw [Bool.and_eq_true,Bool.not_eq_true'] at h'
  have h1:i4 p x:=by
   have:=h'.1
   rw [ltCps_eq] at this
   exact of_decide_eq_false this
  have ih:=jH r x h'.2
  refine List.Pairwise.cons (fun y hy=>?_) ih
  rcases List.mem_cons.mp hy with e | hy
  ·rw [e];exact h1
  ·exact nc h1 ((List.pairwise_cons.mp ih).1 y hy)
theorem dU {l:List Str} (h:sortedS l=true):l.Pairwise i4:=by
 cases l with
 | nil=>exact List.Pairwise.nil
 | cons x r=>exact jH r x h
structure ik (ss:List Str):Prop where
 pw:ss.Pairwise i4
 nd:ss.Nodup
theorem ik.tail {x:Str} {r:List Str} (h:ik (x :: r)):ik r:=⟨(List.pairwise_cons.mp h.pw).2,(List.nodup_cons.mp h.nd).2⟩
theorem ik.unique:∀ {l m:List Str},ik l->ik m->(∀ x,x ∈ l ↔ x ∈ m)->l=m
 | [],[],_,_,_=>rfl
 | [],b :: m,_,_,h=>absurd ((h b).mpr (List.mem_cons_self ..)) (by simp)
 | a :: l,[],_,_,h=>absurd ((h a).mp (List.mem_cons_self ..)) (by simp)
 | a :: l,b :: m,hl,hm,h=>by
  have e:a=b:=by
   rcases List.mem_cons.mp ((h a).mp (List.mem_cons_self ..)) with e | h1
   ·exact e
   ·rcases List.mem_cons.mp ((h b).mpr (List.mem_cons_self ..)) with e | h2
    ·exact e.symm
    ·exact oh ((List.pairwise_cons.mp hl.pw).1 b h2) ((List.pairwise_cons.mp hm.pw).1 a h1)
  subst e
  have na:=(List.nodup_cons.mp hl.nd).1
  have nb:=(List.nodup_cons.mp hm.nd).1
  rw [ik.unique hl.tail hm.tail fun x=>⟨fun hx=>?_,fun hx=>?_⟩]
  ·rcases List.mem_cons.mp ((h x).mp (List.mem_cons_of_mem _ hx)) with e | h1
   ·exact absurd (by rw [<-e];exact hx) na
   ·exact h1
  ·rcases List.mem_cons.mp ((h x).mpr (List.mem_cons_of_mem _ hx)) with e | h1
   ·exact absurd (by rw [<-e];exact hx) nb
   ·exact h1
section
variable {X:Cx}
end
section
variable {C D:Addr} {H0 H H1:Hp} {w0 w1:WA} {plv:V} {x0 x1 x':qU}
end
open LS
section
variable {X:Cx}
end
section
variable {a0 a1 z:V}
end
abbrev vN (ms:List Nat):List V:=ms.map fun k=>V.int (k:Nat)
section
variable {C r m d:Addr} {H H':Hp} {ms:List Nat}
end
section
variable (C:Addr)
end
theorem jm:∀ ds:List PyData,(∀ d ∈ ds,d.canLay0=true)->(PyData.tuple ds).canLay0=true
 | [],_=>rfl
 | d :: ds,h=>by
  have ih:=jm ds fun x hx=>h x (List.mem_cons_of_mem _ hx)
  show (d.canLay0 && (PyData.tuple ds).canLay0)=true
  rw [h d (List.mem_cons_self ..),ih]
  rfl
theorem jn {m:Nat}:∀ ds:List PyData,(∀ d ∈ ds,d.depth<=m)->PyData.depthAll ds<=m
 | [],_=>Nat.zero_le _
 | d :: ds,h=>by
  have ih:=jn ds fun x hx=>h x (List.mem_cons_of_mem _ hx)
  have h1:=h d (List.mem_cons_self ..)
  show max d.depth (PyData.depthAll ds)<=m
  omega
structure NF (X:Cx) (a:Addr):Prop where
 none_:∀ o,X.bU.heap.get? a=some o->X.gd a=none->a ∉ X.ex->False
 tup:∀ xs,X.gd a ≠ some (.tup xs)
 cO:∀ o u,X.gd a ≠ some (.cO o u)
 gJ:∀ ps,X.gd a ≠ some (.gJ ps)
section
variable {X:Cx} {pins:List (Addr × Obj)} {σ : L2.St} {H:Hp} {s:Shared} {a:Addr}
theorem Inv.nf {kvs:List (Key × V)} (I:Inv X pins σ H s) (e:H a=some (.dK kvs)):NF X a where
 none_:=fun o h1 h2 h3=>by
  have:=I.base.free a o h1 h2 h3
  rw [e] at this
  cases this
 tup:=fun xs h=>by
  have:=I.base.bO a xs h
  rw [e] at this
  cases this
 cO:=fun o u h=>by
  have:=I.base.eR a o u h
  rw [e] at this
  cases this
 gJ:=fun ps h=>by
  obtain⟨more,this⟩:=I.base.e7 a ps h
  rw [e] at this
  cases this
theorem Inv.swap {u u':HO} (I:Inv X pins σ H s) (nf:NF X a) (e:H a=some u) (no:∀ y,u ≠ .own y) (nt:∀ xs,u ≠ .tup xs) (new:bh X.prog X.w (upd H a u') s.heap a u'):Inv X pins σ (upd H a u') s where
 ok:=I.ok
 os:=I.os
 bare:=I.bare
 base:={
  keep:=I.base.keep
  slot:=I.base.slot
  free:=fun b o h1 h2 h3=>by
   by_cases z:b=a
   ·subst z;exact absurd (nf.none_ o h1 h2 h3) id
   ·rw [ae z];exact I.base.free b o h1 h2 h3
  there:=I.base.there
  bO:=fun b xs h=>by
   have z:b ≠ a:=fun z=>by subst z;exact nf.tup xs h
   rw [ae z];exact I.base.bO b xs h
  eR:=fun b o v h=>by
   have z:b ≠ a:=fun z=>by subst z;exact nf.cO o v h
   rw [ae z];exact I.base.eR b o v h
  e7:=fun b ps h=>by
   have z:b ≠ a:=fun z=>by subst z;exact nf.gJ ps h
   rw [ae z];exact I.base.e7 b ps h }
 loc:=I.loc
 cell:=I.cell
 free:=by rw [ae (fun z=>by have:=I.free;rw [z,e] at this;cases this)];exact I.free
 cK:=fun x c h=>by rw [ae (fun z=>by have:=I.cK x c h;rw [z,e] at this;cases this)];exact I.cK x c h
 pin:=fun p hp=>by
  obtain⟨h1,h2,h3⟩:=I.pin p hp
  exact⟨h1,by rw [ae (fun z=>by rw [z,e] at h2;cases h2)];exact h2,h3⟩
 av:=fun b o h=>by
  by_cases z:b=a
  ·subst z
   rw [aa] at h
   cases h
   exact new
  ·rw [ae z] at h
   refine (I.av b o h).iw (fun _ _ _ q=>q) (fun c q=>?_) fun c xs q=>?_
   ·rw [ae (fun y=>by rw [y,e] at q;exact no _ (Option.some.inj q))];exact q
   ·rw [ae (fun y=>by rw [y,e] at q;exact nt _ (Option.some.inj q))];exact q
 len:=I.len
end
theorem pO {P:Program} {w:World} {k:Key} {v:Value} (h:(aJ P w).is k v=true):RelV (kV k) v:=by
 cases k with
 | inr x=>exact ij h
 | inl i =>
  obtain⟨t,e⟩:=Value.isInt_shape (show Value.isInt i v=true from h)
  exact⟨t,e⟩
def sA (a:Addr) (kvs:List (Key × V)) (ob:Obj):It :=
 ⟨fun i H=>H a=some (.cO ob (.dK kvs))/\i < kvs.length,fun i H x H'=>H' = H/\∃ k v,kvs[i]? = some (k,v)/\x=kV k,fun i H=>H a=some (.cO ob (.dK kvs))/\kvs.length<=i⟩
theorem ng {P:Program} {w:World} {K:PySem.W.Frag} {tg:Expr} {kvs:List (Key × V)} {vs:List (Key × Value)} {ob:Obj} {ep:Nat} (a it:Addr) (hat:∀ h:Heap,h.get? a=some ob->h.DictAt (aJ P w) a vs ep) (rel:KV kvs vs) :
  Turn P w K tg (sA a kvs ob) [it] it (fun i h=>h.IsKeyIter it a i vs.length ep) where
 mem:=by simp
 obj:=fun i h st b hb=>by
  have e:b=it:=by simpa using hb
  subst e
  obtain⟨o,e,c,d⟩:=st
  exact⟨o,e,fun v z=>by rw [d] at z;cases z⟩
 keep:=fun i h h' st k=>st.at fun o e=>k it (by simp) o e
 item:=by
  intro X hP hw hK hc i pins s σ H E I hf st hg
  subst hP hw hK
  obtain⟨ha,hi⟩:=hg
  obtain⟨e0,_⟩:=(show bh X.prog X.w H s.heap a (.cO ob (.dK kvs)) from I.av a _ ha)
  have hvi:i < vs.length:=by rw [<-rel.length];exact hi
  have hx:vs[i]? = some vs[i]:=by simp [hvi]
  generalize vs[i] = p at hx
  obtain⟨k,u⟩:=p
  obtain⟨v,hkv⟩:∃ v,kvs[i]? = some (k,v):=by
   have e1:(vs.map (·.1))[i]? = some k:=by rw [List.getElem?_map,hx];rfl
   rw [<-rel.keys,List.getElem?_map] at e1
   cases e2:kvs[i]? with
   | none=>rw [e2] at e1;cases e1
   | some q =>
    rw [e2] at e1
    obtain⟨k',v⟩:=q
    cases (Option.some.inj e1)
    exact⟨v,rfl⟩
  obtain⟨f0,f1,f2,f3,f4,f5⟩:=hf it (by simp)
  refine wpAny_pyNext_dict_item st (hat _ e0) hx fun key h' hkey st' sb=>?_
  have I1:Inv X pins σ H { s with heap:=h' }:=I.turned (t':=s.toks) (fun b o hb e=>(sb.2 b hb).trans e) f0 f1 f3 f4 f5
  obtain⟨o,e,c,d⟩:=id st'
  exact⟨key,rfl,jP (s:={ s with heap:=h' }) e c d (by decide) ⟨kV k,H,I1,pO hkey,⟨rfl,k,v,hkv,rfl⟩,st',fun b hb=>(hf b hb).1⟩⟩
 done:=by
  intro X hP hw hK hc i pins s σ H E I hf st hg
  subst hP hw hK
  obtain⟨ha,hi⟩:=hg
  obtain⟨e0,_⟩:=(show bh X.prog X.w H s.heap a (.cO ob (.dK kvs)) from I.av a _ ha)
  obtain⟨f0,f1,f2,f3,f4,f5⟩:=hf it (by simp)
  exact wpAny_pyNext_dict_end (I.ok.hd hc) st (hat _ e0) (List.getElem?_eq_none (by rw [<-rel.length];exact hi)) fun h' eb=>⟨rfl,I.turned (t':=s.toks) (fun b o hb e=>eb b o hb e) f0 f1 f3 f4 f5⟩
 self:=fun _ _ _ _ _ st h=>wpAny_pyIter_keyiter st h
section
variable {X:Cx}
def sd (i:Nat) (X:Cx):TI:=fun σ H R=>∃ v,σ[i]? = some (some v)/\∃ a kvs,v=.ref a/\H a=some (.dK kvs)/\∀ ob,NF X a->R (sA a kvs ob) (upd H a (.cO ob (.dK kvs)))
theorem pP {tg l:Expr} {i:Nat} (hl:PE X l (lW i)):PI X tg l (sd i X):=by
 intro pins s σ H R I h
 obtain⟨v0,hv0,a,kvs,rfl,ha,q⟩:=h
 refine aA (hl pins s σ H (fun x H1=>x=.ref a/\H1=H) I ⟨_,hv0,rfl,rfl⟩) fun v s1 ⟨x,H1,I1,r1,e1,e2⟩=>?_
 subst e1 e2
 cases r1
 have nf:=I1.nf ha
 obtain⟨z,hd,vs,rel,dd⟩:=iV I1.av ha
 obtain⟨ep,ob,es,ho,rest⟩:=dd.dictAt
 have I2:Inv X pins σ (upd H1 a (.cO ob (.dK kvs))) s1:=I1.swap nf ha (fun _ h=>nomatch h) (fun _ h=>nomatch h) ⟨ho,fV z hd rel ⟨ob,es,ep,ho,rest⟩⟩
 refine wpAny_pyIter_dict hd ⟨ob,es,ho,rest⟩ ?_
 refine⟨s1.heap.objs.size,[s1.heap.objs.size],_,_,_,rfl,I2.kept (t':=s1.toks) fun b o e=>Heap.get?_push_of_some _ e,ng a _ (fun h e=>⟨ob,es,e,rest⟩) rel,⟨_,Heap.get?_push_size _ rfl,rfl,rfl⟩,fun b hb=>?_,q ob nf⟩
 have e:b=s1.heap.objs.size:=by simpa using hb
 subst e
 exact I2.fG (Nat.le_refl _) (I2.av.fresh (Nat.le_refl _))
theorem tH {pins:List (Addr × Obj)} {σ : L2.St} {H:Hp} {s:Shared} {a:Addr} {ob:Obj} {kvs:List (Key × V)} (I:Inv X pins σ H s) (nf:NF X a) (e:H a=some (.cO ob (.dK kvs))):Inv X pins σ (upd H a (.dK kvs)) s:=by
 obtain⟨z,hd,vs,rel,dd⟩:=iU I.av (.inr ⟨ob,e⟩)
 exact I.swap nf e (fun _ h=>nomatch h) (fun _ h=>nomatch h) (fV z hd rel dd)
end
abbrev E2 (elt t1 i1:Expr) (f1:List Expr) (t2 i2:Expr) (f2:List Expr) (scope:Scope) (pos:Pos):Expr:=.ListComp elt [⟨t1,i1,f1,0⟩,⟨t2,i2,f2,0⟩] scope pos
def kr (e i2:Expr) (acc:Value) (env:Env):Sem Unit:=do
 let x <-eval i2 env
 standAt i2.pos
 let x <-foldedSetIterable i2 env x
 let _ <-runOwn (.compStart e 1 (<-holding [x] (pyIter x)) acc env) env
def sC (elt:Expr) (acc:Value) (env:Env):Sem Unit:=do let _ <-call (.builtin "list.append") [acc,<-eval elt env]
def i5 (e:Expr) (d:Nat) (ip:Pos) (target:Expr) (ifs:List Expr) (em:Sem Unit) (it acc:Value) (env:Env):Sem Fin:=do
 standAt ip
 match <-pyNext it with
 | none=>pure (.done .next)
 | some v =>
  letOwnedTupleGo target it v
  assign target env v
  let mut ok:=true
  for c in ifs do
   if ok then ok <-isTrue c env (eval c env)
  if ok then
   em
  again (.compLoop e d it acc env)
theorem jL (elt t1 i1:Expr) (f1:List Expr) (t2 i2:Expr) (f2:List Expr) (scope:Scope) (pos:Pos) (it acc:Value) (env:Env) :
  compTurn (E2 elt t1 i1 f1 t2 i2 f2 scope pos) 0 it acc env=i5 (E2 elt t1 i1 f1 t2 i2 f2 scope pos) 0 i1.pos t1 f1 (kr (E2 elt t1 i1 f1 t2 i2 f2 scope pos) i2 acc env) it acc env:=by
 unfold i5 kr
 simp only [bind_assoc,pure_bind]
 rfl
theorem jM (elt t1 i1:Expr) (f1:List Expr) (t2 i2:Expr) (f2:List Expr) (scope:Scope) (pos:Pos) (it acc:Value) (env:Env) :
  compTurn (E2 elt t1 i1 f1 t2 i2 f2 scope pos) 1 it acc env=i5 (E2 elt t1 i1 f1 t2 i2 f2 scope pos) 1 i2.pos t2 f2 (sC elt acc env) it acc env:=by rfl
theorem ei {prog:Program} {w:World} {A:Around} {R:Result->Shared->Prop} {s:Shared} {e:Expr} {d:Nat} {ip:Pos} {target:Expr} {ifs:List Expr} {em:Sem Unit} {it acc:Value} {env:Env} (I:Nat->Shared->Prop)
  (heq:compTurn e d it acc env=i5 e d ip target ifs em it acc env) (hq:(Code.compLoop e d it acc env).quiet=true) (hA:A.under (.compLoop e d it acc env)=A)
  (hden:(model prog w).den (.compLoop e d it acc env)=(compTurn e d it acc env).onRaise (fun x=>do noteFrame x env;theTreesLotGoes x))
  (turn:∀ n s,I n s->wpAny (model prog w) A (pyNext it) (fun r s₁=>match r with
   | none=>R (.ok .next) s₁
   | some v=>wpAny (model prog w) A (letOwnedTupleGo target it v) (fun _ s₁'=>wpAny (model prog w) A (assign target env v) (fun _ s₂ =>
     wpAny (model prog w) A (forIn ifs true fun c r=>if r=true then do let ok <-isTrue c env (eval c env);pure (ForInStep.yield ok) else pure (ForInStep.yield r)) (fun ok s₃ =>
      if ok=true then wpAny (model prog w) A em (fun _ s₅=>∃ m,m < n/\I m s₅) (fun _ _=>False) s₃
      else ∃ m,m < n/\I m s₃) (fun _ _=>False) s₂) (fun _ _=>False) s₁') (fun _ _=>False) s₁) (fun _ _=>False) s)
  (n:Nat) (h:I n s) :
  codeAny (model prog w) A (.compLoop e d it acc env) R s:=by
 refine codeAny_loop hq I (fun n s hI=>?_) n h
 rw [hden,hA]
 refine wpAny_noted ?_
 rw [heq]
 unfold i5
 refine wpAny_bind (wpAny_standAt (wpAny_bind (wpAny_mono (turn n s hI) (fun r s₁ h₁=>?_) fun _ _ h'=>h'.elim)))
 cases r with
 | none=>exact wpAny_pure h₁
 | some v =>
  refine wpAny_bind (wpAny_mono h₁ (fun _ s₁' h₁'=>?_) fun _ _ h'=>h'.elim)
  refine wpAny_bind (wpAny_mono h₁' (fun _ s₂ h₂=>wpAny_bind (wpAny_mono h₂ (fun ok s₃ h₃=>?_) fun _ _ h'=>h'.elim)) fun _ _ h'=>h'.elim)
  cases ok with
  | false=>exact wpAny_pure ⟨rfl,h₃⟩
  | true=>exact wpAny_bind (wpAny_mono h₃ (fun _ s₅ h₅=>wpAny_pure ⟨rfl,h₅⟩) fun _ _ h'=>h'.elim)
theorem fL {prog:Program} {w:World} {A:Around} {R:Result->Shared->Prop} {s:Shared} {elt t1 i1:Expr} {f1:List Expr} {t2 i2:Expr} {f2:List Expr} {scope:Scope} {pos:Pos} {it acc:Value} {env:Env}
  (h0:codeAny (model prog w) A (.compLoop (E2 elt t1 i1 f1 t2 i2 f2 scope pos) 1 it acc env) R s)
  (h:wpAny (model prog w) A (pyIter it) (fun it' s'=>codeAny (model prog w) A (.compLoop (E2 elt t1 i1 f1 t2 i2 f2 scope pos) 1 it' acc env) R s')
   (notedBy (model prog w) A env fun x s'=>R (.error x) s') s) :
  codeAny (model prog w) A (.compStart (E2 elt t1 i1 f1 t2 i2 f2 scope pos) 1 it acc env) R s:=by
 refine codeAny_of_tree ?_
 show wpAny _ _ ((compStart (E2 elt t1 i1 f1 t2 i2 f2 scope pos) 1 it acc env).onRaise (fun x=>do noteFrame x env;standAt theWindowsPlace)) _ _ s
 refine wpAny_notedAt ?_
 unfold compStart
 show wpAny _ _ (ask >>= _) _ _ s
 refine wpAny_bind (wpAny_askSetting (wpAny_ite ?_))
 split
 ·first
   | exact wpAny_bind (wpAny_pure (wpAny_pure (And.intro rfl h0)))
   | exact wpAny_pure (And.intro rfl h0)
 ·first
   | exact wpAny_bind (wpAny_rule (wpAny_bind (wpAny_standAt (wpAny_bind (wpAny_mono h (fun it' s' h'=>wpAny_pure (And.intro rfl h')) fun _ _ x=>x)))))
   | (refine wpAny_bind (wpAny_rule ?_);show wpAny _ _ (standAt i2.pos >>= _) _ _ s;exact wpAny_bind (wpAny_standAt (wpAny_bind (wpAny_mono h (fun it' s' h'=>wpAny_pure (And.intro rfl h')) fun _ _ x=>x))))
abbrev TM:=Addr->List V->St->Hp->(List V->St->Hp->Prop)->Prop
def tW (wi:TI) (g:TG) (ct:TT) (te:TE):TM:=fun acc ys0 τ0 H Q=>wi τ0 H fun J H1=>∃ W:Nat->Nat->List V->St->Hp->Prop,(∃ m,W 0 m ys0 τ0 H1)/\∀ i m ys τ H2,W i m ys τ H2->H2 acc=some (.lst ys)/\ys.length < sizeLine /\
  ((J.stop i H2/\Q ys τ H2)\/(J.go i H2/\∃ N:List V->St->Hp->Prop,(∀ ys' τ' H',N ys' τ' H'->∃ m',m' < m/\W (i+1) m' ys' τ' H')/\∀ x H3,J.ie i H2 x H3->g x τ H3 fun τ1 H4=>ct τ1 H4 fun b H5 =>
   if b=true then te τ1 H5 fun y H6=>H6 acc=some (.lst ys)/\N (ys ++ [y]) τ1 (upd H6 acc (.lst (ys ++ [y]))) else N ys τ1 H5))
def PM (X:Cx) (acc:Addr) (em:Sem Unit) (tm:TM):Prop :=
 ∀ (pins:List (Addr × Obj)) (s:Shared) (τ : St) (H:Hp) (ys:List V) (Q:List V->St->Hp->Prop),Inv X pins τ H s->tm acc ys τ H Q ->
  wpAny (model X.prog X.w) X.A em (fun _ s'=>∃ ys' τ' H',Inv X pins τ' H' s'/\Q ys' τ' H') X.xe s
section
variable {X:Cx} {pos:Pos}
theorem rf {elt t1 i1:Expr} {f1:List Expr} {t2 i2:Expr} {f2:List Expr} {scope:Scope} {acc:Addr} {wi:TI} {g:TG} {ct:TT} {te:TE} (hc:X.calm=true) (hx:X.xe=fun _ _=>False)
  (hi:PI X t2 i2 wi) (hg:PG X t2 g) (hct:gR X f2 ct) (hte:PE X elt te) (hs:∀ x,foldedSetIterable i2 X.env x=pure x:=by intro _;rfl) :
  PM X acc (kr (E2 elt t1 i1 f1 t2 i2 f2 scope pos) i2 (.ref acc) X.env) (tW wi g ct te):=by
 intro pins s τ H ys Q I h
 unfold kr
 refine wpAny_bind (aA (hi pins s τ H _ I h) fun v s1 h1=>wpAny_bind (wpAny_standAt (wpAny_bind (wpAny_of_eq (hs v) (wpAny_bind (wpAny_holding (aA h1 fun itv s2 h2=>?_)))))))
 obtain⟨it,fp,tn,J,H2,e,I2,T,st2,f2',W,⟨m0,w0⟩,turn⟩:=h2
 subst e
 have stat:∀ {H':Hp},(∀ b ∈ fp,H' b=none)->∀ b ∈ fp,dc X pins H' b:=fun hn b hb=>⟨hn b hb,(f2' b hb).2⟩
 have loop:codeAny (model X.prog X.w) X.A (.compLoop (E2 elt t1 i1 f1 t2 i2 f2 scope pos) 1 (.ref it) (.ref acc) X.env)
   (fun r s'=>match r with | .ok _=>(∃ ys' τ' H',Inv X pins τ' H' s'/\Q ys' τ' H') | .error _=>False) s2:=by
  refine ei (fun n s'=>∃ i ys τ H',Inv X pins τ H' s'/\tn i s'.heap/\(∀ b ∈ fp,H' b=none)/\W i n ys τ H') (jM ..) rfl rfl rfl ?_ m0 ⟨0,ys,τ,H2,I2,st2,fun b hb=>(f2' b hb).1,w0⟩
  rintro n s3 ⟨i,ys,τ,H3,I3,st3,fr3,w3⟩
  obtain⟨ha,hl,turn'⟩:=turn i n ys τ H3 w3
  rcases turn' with ⟨stop,q⟩ | ⟨go,N,hN,step⟩
  ·refine wpAny_mono (T.done X rfl rfl rfl hc i pins s3 τ H3 (fun _ _=>False) I3 (stat fr3) st3 stop) (fun r s4 hr4=>?_) fun _ _ z=>z
   obtain⟨hr,I4⟩:=hr4
   subst hr
   exact⟨ys,τ,H3,I4,q⟩
  ·refine wpAny_mono (T.item X rfl rfl rfl hc i pins s3 τ H3 (fun _ _=>False) I3 (stat fr3) st3 go) (fun r s4 hr4=>?_) fun _ _ z=>z
   obtain⟨u,hr,h4⟩:=hr4
   subst hr
   refine wpAny_mono h4 (fun _ s5 ⟨x,H5,I5,r5,y5,st5,fr5⟩=>?_) fun _ _ z=>z
   have I5':=I5.pinned (stat fr5) (T.obj _ _ st5)
   have keepT:∀ {σ7:St} {H7:Hp} {s7:Shared},Inv X (pins++eG fp s5.heap) σ7 H7 s7->tn (i+1) s7.heap/\∀ b ∈ fp,H7 b=none:=fun {σ7 H7 s7} I7=>by
    refine⟨T.keep _ _ _ st5 fun b hb o e=>(I7.pin (b,o) (List.mem_append_right _ (List.mem_append_right _ (bG hb e)))).1,fun b hb=>?_⟩
    obtain⟨o,e,d⟩:=T.obj _ _ st5 b hb
    exact (I7.pin (b,o) (List.mem_append_right _ (List.mem_append_right _ (bG hb e)))).2.1
   refine wpAny_mono (hg _ s5 τ H5 x u _ I5' r5 (step x H5 y5)) (fun _ s6 ⟨τ6,H6,I6,q6⟩=>?_) (fun _ _ z=>by rw [hx] at z;exact z)
   refine wpAny_mono (hct _ s6 τ6 H6 _ I6 q6) (fun ok s7 ⟨H7,I7,q7⟩=>?_) (fun _ _ z=>by rw [hx] at z;exact z)
   cases ok with
   | false =>
    have q7':N ys τ6 H7:=by rw [if_neg (by simp)] at q7;exact q7
    rw [if_neg (by simp)]
    obtain⟨m',hm,w7⟩:=hN _ _ _ q7'
    exact⟨m',hm,i+1,ys,τ6,H7,I7.cf,(keepT I7).1,(keepT I7).2,w7⟩
   | true =>
    rw [if_pos rfl] at q7 ⊢
    unfold sC
    refine wpAny_bind (wpAny_mono (hte _ s7 τ6 H7 _ I7 q7) (fun v s8 ⟨y,H8,I8,r8,ha8,n8⟩=>?_) (fun _ _ z=>by rw [hx] at z;exact z))
    refine wpAny_bind (wpAny_mono (bX (X:=X) _ s8 τ6 H8 (.ref acc) [y] (.ref acc) [v] (fun _ H9=>H9=upd H8 acc (.lst (ys ++ [y]))) I8 rfl (.cons r8 .nil) ⟨_,ys,y,rfl,rfl,ha8,hl,rfl⟩) (fun _ s9 ⟨_,H9,I9,_,e9⟩=>wpAny_pure ?_) (fun _ _ z=>by rw [hx] at z;exact z))
    subst e9
    obtain⟨m',hm,w8⟩:=hN _ _ _ n8
    exact⟨m',hm,i+1,_,τ6,_,I9.cf,(keepT I9).1,(keepT I9).2,w8⟩
 refine wpAny_bind (wpAny_runOwn (codeAny_mono (fL loop (T.self _ 0 _ _ _ st2 loop)) fun r s' q=>?_))
 cases r with
 | ok f=>exact wpAny_pure q
 | error e=>exact q.elim
end
def tJ (i0:Nat) (g:TG) (ct:TT) (te:TE):TM:=fun acc ys0 τ0 H Q=>∃ v,τ0[i0]? = some (some v)/\∃ a kvs,v=.ref a/\H a=some (.dK kvs)/\∀ ob,∃ Pv:Nat->List V->St->Hp->Prop,Pv 0 ys0 τ0 (upd H a (.cO ob (.dK kvs))) /\
 (∀ j ys τ H2,j<=kvs.length->Pv j ys τ H2->H2 a=some (.cO ob (.dK kvs))/\H2 acc=some (.lst ys)/\ys.length < sizeLine) /\
 (∀ j k u ys τ H2,kvs[j]? = some (k,u)->Pv j ys τ H2->g (kV k) τ H2 fun τ1 H4=>ct τ1 H4 fun b H5=>if b=true then te τ1 H5 fun y H6=>H6 acc=some (.lst ys)/\Pv (j+1) (ys ++ [y]) τ1 (upd H6 acc (.lst (ys ++ [y]))) else Pv (j+1) ys τ1 H5) /\
 (∀ ys τ H2,Pv kvs.length ys τ H2->Q ys τ (upd H2 a (.dK kvs)))
section
variable {X:Cx} {pos:Pos}
theorem pQ {elt t1 i1:Expr} {f1:List Expr} {t2 i2:Expr} {f2:List Expr} {scope:Scope} {acc:Addr} {i0:Nat} {g:TG} {ct:TT} {te:TE} (hc:X.calm=true) (hx:X.xe=fun _ _=>False)
  (hi:PE X i2 (lW i0)) (hg:PG X t2 g) (hct:gR X f2 ct) (hte:PE X elt te) (hs:∀ x,foldedSetIterable i2 X.env x=pure x:=by intro _;rfl) :
  PM X acc (kr (E2 elt t1 i1 f1 t2 i2 f2 scope pos) i2 (.ref acc) X.env) (tJ i0 g ct te):=by
 intro pins s τ0 H ys0 Q I h
 obtain⟨v,hv,a,kvs,rfl,ha,h⟩:=h
 have nf:=I.nf ha
 refine aA (rf hc hx (pP hi) hg hct hte hs pins s τ0 H ys0 (fun ys τ H2=>∃ ob,H2 a=some (.cO ob (.dK kvs))/\Q ys τ (upd H2 a (.dK kvs))) I ?_) fun _ s' ⟨ys,τ,H2,I2,ob,e,q⟩=>⟨ys,τ,_,tH I2 nf e,q⟩
 refine⟨_,hv,a,kvs,rfl,ha,fun ob _=>?_⟩
 obtain⟨Pv,p0,pf,ps,pe⟩:=h ob
 refine⟨fun j m ys τ H2=>m=kvs.length - j/\j<=kvs.length/\Pv j ys τ H2,⟨kvs.length,by simp,Nat.zero_le _,p0⟩,?_⟩
 rintro j m ys τ H2 ⟨rfl,hj,p⟩
 obtain⟨h1,h2,h3⟩:=pf j ys τ H2 hj p
 refine⟨h2,h3,?_⟩
 by_cases hlt:j < kvs.length
 ·refine .inr ⟨⟨h1,hlt⟩,Pv (j+1),fun ys' τ' H' p'=>⟨kvs.length - (j+1),by omega,rfl,hlt,p'⟩,fun x H' y=>?_⟩
  obtain⟨e1,k,u,e2,e3⟩:=y
  subst e1 e3
  exact ps j k u ys τ _ e2 p
 ·have e:j=kvs.length:=by omega
  subst e
  exact .inl ⟨⟨h1,Nat.le_refl _⟩,ob,h1,pe ys τ H2 p⟩
end
def rg (J:It) (n:Nat) (js:List Nat) (g:TG) (ct:TT) (tm:TM) (acc:Addr) (σ : St) (H1:Hp) (Q:VK):Prop :=
 ∃ W:Nat->Nat->List V->St->Hp->Prop,(∃ m,W 0 m [] (di n js σ) (upd H1 acc (.lst [])))/\∀ i m ys τ H2,W i m ys τ H2 ->
  ((J.stop i H2/\Q (.ref acc) H2)\/(J.go i H2/\∃ N:List V->St->Hp->Prop,(∀ ys' τ' H',N ys' τ' H'->∃ m',m' < m/\W (i+1) m' ys' τ' H')/\∀ x H3,J.ie i H2 x H3->g x τ H3 fun τ1 H4=>ct τ1 H4 fun b H5 =>
   if b=true then tm acc ys τ1 H5 N else N ys τ1 H5))
def tX (n:Nat) (js:List Nat) (wi:TI) (g:TG) (ct:TT) (tm:TM):TE:=fun σ H Q=>wi σ H fun J H1=>∀ acc,H1 acc=none->rg J n js g ct tm acc σ H1 Q
section
variable {X:Cx} {pos:Pos}
theorem pR {pins:List (Addr × Obj)} {σ : St} {H:Hp} {s:Shared} {E:Value->Shared->Prop} {tg elt iter:Expr} {ifs:List Expr} {t2 i2:Expr} {f2:List Expr} {scope:Scope} {g:TG} {ct:TT} {tm:TM} {ts fr:List Str} {js:List Nat}
    {it:Addr} {fp:List Addr} {tn:Nat->Heap->Prop} {J:It} {Q:VK} {RR:Value->Addr->Result->Shared->Prop}
    (hc:X.calm=true) (hkind:scope.kind=.function) (hcell:∀ y ∈ scope.names,y.2 ≠ .cell) (hfree:∀ y ∈ scope.names,y.2=.free->X.env.kindOf y.1=some .cell\/X.env.kindOf y.1=some .free)
    (hfr:dn X scope fr js) (htg:∀ C fp s₁ H₁,PG (bc X scope C (ts++fr) fp s₁ H₁) tg g) (hct:∀ C fp s₁ H₁,gR (bc X scope C (ts++fr) fp s₁ H₁) ifs ct) (htm:∀ C fp s₁ H₁ acc,PM (bc X scope C (ts++fr) fp s₁ H₁) acc (kr (E2 elt tg iter ifs t2 i2 f2 scope pos) i2 (.ref acc) (bc X scope C (ts++fr) fp s₁ H₁).env) tm)
    (I:Inv X pins σ H s) (T:Turn X.prog X.w X.K tg J fp it tn) (st:tn 0 s.heap) (hfp:∀ b ∈ fp,dc X pins H b)
    (h:∀ acc,H acc=none->rg J ts.length js g ct tm acc σ H Q)
    (hRR:∀ acc C H' s' m,Inv X pins σ H' s'->s'.heap.Ns C m->H' C=none->s.heap.objs.size<=C->Q (.ref acc) H'->RR (.ref acc) C (.ok .next) s') :
    wpAny (model X.prog X.w) X.A (newList []) (fun acc s₃=>wpAny (model X.prog X.w) X.A (newFunctionEnv scope X.env.globals (dH X.env.cells scope.names []) [] X.env.qual none .none (some X.env)) (fun cenv s₄ =>
      codeAny (model X.prog X.w) X.A (.compStart (E2 elt tg iter ifs t2 i2 f2 scope pos) 0 (.ref it) acc { cenv with scope:=relabel scope X.env }) (RR acc cenv.locals) s₄) E s₃) E s:=by
  have hf:∀ y ∈ scope.names,y.2=.free->∃ c,X.env.cells.lookup y.1=some c:=fun y hy e=>I.ok.has y.1 (hfree y hy e)
  have ag:∀ x c,(dH X.env.cells scope.names []).lookup x=some c->X.env.cells.lookup x=some c:=eM scope.names [] hf fun x c e=>by simp at e
  have hlt:∀ b ∈ fp,b < s.heap.objs.size:=fun b hb=>by
    obtain⟨o,e,_⟩:=T.obj _ _ st b hb
    exact Heap.lt_size e
  refine wpAny_newObj_type (wpAny_newFunctionEnv hcell (by intro y hy;simp at hy) (fun h₁ hns₁ hsb₁=>?_) hkind)
  dsimp only at hns₁ hsb₁ ⊢
  generalize hH2:s.heap.push { cls:=.type "list",dict:=none,data:=.seq ([]:List Value).toArray }=G2 at hns₁ hsb₁ ⊢
  have hC:G2.objs.size=s.heap.objs.size+1:=by rw [<-hH2,Heap.size_push]
  have hDC:s.heap.objs.size ≠ G2.objs.size:=by rw [hC];exact Nat.ne_of_lt (Nat.lt_succ_self _)
  have hCle:s.heap.objs.size<=G2.objs.size:=by rw [hC];exact Nat.le_succ _
  have below:∀ b,b < s.heap.objs.size->b ≠ G2.objs.size/\b ≠ s.heap.objs.size:=fun b hb=>⟨by rw [hC];exact Nat.ne_of_lt (Nat.lt_succ_of_lt hb),Nat.ne_of_lt hb⟩
  have old:∀ b o,s.heap.get? b=some o->h₁.get? b=some o:=fun b o e=>hsb₁.extBut b o (below b (Heap.lt_size e)).1 (Heap.get?_push_of_some _ (hH2 ▸ Heap.get?_push_of_some _ e))
  have hacc:h₁.get? s.heap.objs.size=some { cls:=.type "list",data:=.seq ([]:List Value).toArray }:=hsb₁.extBut _ _ hDC (Heap.get?_push_of_some _ (hH2 ▸ Heap.get?_push_size _ rfl))
  have nD:H s.heap.objs.size=none:=I.av.fresh (Nat.le_refl _)
  have nC:H G2.objs.size=none:=I.av.fresh hCle
  obtain⟨W,⟨m0,w0⟩,turn⟩:=h s.heap.objs.size nD
  generalize hXb:bc X scope G2.objs.size (ts++fr) fp s H=Xb
  have Ib:∀ tk,Inv Xb [] (di ts.length js σ) (upd H s.heap.objs.size (.lst [])) { s with heap:=h₁,toks:=tk }:=by
    intro tk
    subst hXb
    refine⟨j9 I hkind hcell hf hCle hfp hlt,rfl,I.bare,Un.laid old (Nat.le_refl _) nD,⟨_,hns₁,fun i x v e1 e2 e3=>?_⟩,fun x c e=>?_,?_,fun x c e=>?_,fun p hp=>absurd (show p ∈ ([]:List (Addr × Obj)) from hp) (by simp),I.av.laid old (Nat.le_refl _) ⟨by show 0<=sizeLine;decide,[],_,.nil,hacc⟩,?_⟩
    · have hi:ts.length<=i:=by
        refine Nat.le_of_not_lt fun hi=>?_
        unfold di at e2
        rw [List.getElem?_append_left (by simpa using hi),List.getElem?_replicate] at e2
        split at e2 <;> cases e2
      have e1':fr[i - ts.length]? = some x:=by
        have e1'':(ts++fr)[i]? = some x:=e1
        rw [List.getElem?_append_right hi] at e1''
        exact e1''
      unfold di at e2
      rw [List.getElem?_append_right (by simpa using hi),List.length_replicate,List.getElem?_map] at e2
      cases ej:js[i - ts.length]? with
      | none=>rw [ej] at e2;cases e2
      | some j =>
        rw [ej] at e2
        have e2':σ.getD j none=some v:=by simpa using e2
        obtain⟨q1,q2,q3⟩:=hfr.get e1' ej
        have e2'':σ[j]? = some (some v):=by
          rw [List.getD_eq_getElem?_getD] at e2'
          cases ez:σ[j]? with
          | none=>rw [ez] at e2';cases e2'
          | some z=>rw [ez] at e2';rw [show z=some v from e2']
        obtain⟨m,hn,hl⟩:=I.loc
        obtain⟨u,r,l⟩:=hl j x v q1 e2'' (by
          rcases q2 with q2 | q2
          · exact .inr (.inl q2)
          · exact .inr (.inr q2))
        refine⟨u,r,.inr ⟨d3 q3,?_⟩⟩
        rcases l with ⟨l,_⟩ | ⟨_,c,lc,lv⟩
        · rcases q2 with q2 | q2 <;> (rw [l] at q2;cases q2)
        · obtain⟨c',hc'⟩:=fT (cells:=X.env.cells) scope.names [] (.inl (PySem.mem_of_lookup q3))
          have:=ag x c' hc'
          rw [lc] at this
          cases this
          obtain⟨o,ho,hd⟩:=lv
          exact⟨c,hc',o,old _ _ ho,hd⟩
    · obtain⟨v,o,ho,hd⟩:=I.cell x c (ag x c e)
      exact⟨v,o,old _ _ ho,hd⟩
    · show upd H s.heap.objs.size (.lst []) G2.objs.size=none
      rw [ae hDC.symm];exact nC
    · obtain⟨v,o,ho,hd⟩:=I.cell x c (ag x c e)
      rw [ae (Nat.ne_of_lt (Heap.lt_size ho))]
      exact I.cK x c (ag x c e)
    · show (di ts.length js σ).length=(ts++fr).length
      unfold di
      rw [List.length_append,List.length_replicate,List.length_map,List.length_append,hfr.len]
  have fpB:∀ {H':Hp},(∀ b ∈ fp,H' b=none)->∀ b ∈ fp,dc Xb [] H' b:=fun {H'} hn b hb=>by
    subst hXb
    obtain⟨h1,h2,h3,h4,h5,h6⟩:=hfp b hb
    refine⟨hn b hb,(below b (hlt b hb)).1,fun z=>?_,.inl hb,fun x c e=>h5 x c (ag x c e),fun p hp=>absurd (show p ∈ ([]:List (Addr × Obj)) from hp) (by simp)⟩
    rcases List.mem_cons.mp (I.fP b z) with z | z
    · exact h2 z
    · exact h3 z
  have fin:∀ {τ : St} {H':Hp} {s':Shared},Inv Xb [] τ H' s'->Q (.ref s.heap.objs.size) H'->RR (.ref s.heap.objs.size) G2.objs.size (.ok .next) s':=fun {τ H' s'} Jb q=>by
    subst hXb
    obtain⟨m,hn,_⟩:=Jb.loc
    refine hRR _ _ H' s' m (I.lV (ch:=fp) Jb.os Jb.base Jb.av Jb.bare fun b hb=>?_) hn Jb.free hCle q
    obtain⟨h1,h2,h3,h4,h5,h6⟩:=hfp b hb
    exact⟨h4,h2,h5,h6⟩
  have loop:∀ tk,codeAny (model X.prog X.w) X.A (.compLoop (E2 elt tg iter ifs t2 i2 f2 scope pos) 0 (.ref it) (.ref s.heap.objs.size) (compEnvC scope (dH X.env.cells scope.names []) G2.objs.size X.env))
        (RR (.ref s.heap.objs.size) G2.objs.size) { s with heap:=h₁,toks:=tk }:=by
    intro tk
    refine ei (fun n s'=>∃ i ys τ H',Inv Xb [] τ H' s'/\tn i s'.heap/\(∀ b ∈ fp,H' b=none)/\W i n ys τ H') (jL ..) rfl rfl rfl ?_ m0 ⟨0,[],_,_,Ib tk,T.keep _ _ _ st fun b hb o e=>old b o e,fun b hb=>?_,w0⟩
    · rintro n s3 ⟨i,ys,τ,H3,I3,st3,fr3,w3⟩
      have htg':=htg G2.objs.size fp s H
      have hct':=hct G2.objs.size fp s H
      have htm':=htm G2.objs.size fp s H s.heap.objs.size
      rw [hXb] at htg' hct' htm'
      have eP:Xb.prog=X.prog:=by subst hXb;rfl
      have ew:Xb.w=X.w:=by subst hXb;rfl
      have eK:Xb.K=X.K:=by subst hXb;rfl
      have eA:Xb.A=X.A:=by subst hXb;rfl
      have ec:Xb.calm=true:=by subst hXb;exact hc
      have ee:Xb.env=compEnvC scope (dH X.env.cells scope.names []) G2.objs.size X.env:=by subst hXb;rfl
      have ex:Xb.xe=fun _ _=>False:=by subst hXb;rfl
      rw [<-eP,<-ew,<-eA,<-ee]
      have turn':=turn i n ys τ H3 w3
      rcases turn' with ⟨stop,q⟩ | ⟨go,N,hN,step⟩
      · have hd:=T.done Xb eP ew eK ec i [] s3 τ H3 (fun _ _=>False) I3 (fpB fr3) st3 stop
        rw [<-eP,<-ew] at hd
        refine wpAny_mono hd (fun r s4 hr4=>?_) fun _ _ z=>z
        obtain⟨hr,I4⟩:=hr4
        subst hr
        exact fin I4 q
      · have hd:=T.item Xb eP ew eK ec i [] s3 τ H3 (fun _ _=>False) I3 (fpB fr3) st3 go
        rw [<-eP,<-ew] at hd
        refine wpAny_mono hd (fun r s4 hr4=>?_) fun _ _ z=>z
        obtain⟨u,hr,h4⟩:=hr4
        subst hr
        refine wpAny_mono h4 (fun _ s5 ⟨x,H5,I5,r5,y5,st5,fr5⟩=>?_) fun _ _ z=>z
        have I5':=I5.pinned (fpB fr5) (T.obj _ _ st5)
        have keepT:∀ {σ7:St} {H7:Hp} {s7:Shared},Inv Xb ([] ++ eG fp s5.heap) σ7 H7 s7->tn (i+1) s7.heap/\∀ b ∈ fp,H7 b=none:=fun {σ7 H7 s7} I7=>by
          refine⟨T.keep _ _ _ st5 fun b hb o e=>(I7.pin (b,o) (List.mem_append_right _ (List.mem_append_right _ (bG hb e)))).1,fun b hb=>?_⟩
          obtain⟨o,e,d⟩:=T.obj _ _ st5 b hb
          exact (I7.pin (b,o) (List.mem_append_right _ (List.mem_append_right _ (bG hb e)))).2.1
        refine wpAny_mono (htg' _ s5 τ H5 x u _ I5' r5 (step x H5 y5)) (fun _ s6 ⟨τ6,H6,I6,q6⟩=>?_) (fun _ _ z=>by rw [ex] at z;exact z)
        refine wpAny_mono (hct' _ s6 τ6 H6 _ I6 q6) (fun ok s7 ⟨H7,I7,q7⟩=>?_) (fun _ _ z=>by rw [ex] at z;exact z)
        cases ok with
        | false =>
          have q7':N ys τ6 H7:=by rw [if_neg (by simp)] at q7;exact q7
          rw [if_neg (by simp)]
          obtain⟨m',hm,w7⟩:=hN _ _ _ q7'
          exact⟨m',hm,i+1,ys,τ6,H7,I7.cf,(keepT I7).1,(keepT I7).2,w7⟩
        | true =>
          rw [if_pos rfl] at q7 ⊢
          refine wpAny_mono (htm' _ s7 τ6 H7 ys _ I7 q7) (fun _ s8 ⟨ys8,τ8,H8,I8,n8⟩=>?_) (fun _ _ z=>by rw [ex] at z;exact z)
          obtain⟨m',hm,w8⟩:=hN _ _ _ n8
          exact⟨m',hm,i+1,_,τ8,_,I8.cf,(keepT I8).1,(keepT I8).2,w8⟩
    · rw [ae (Nat.ne_of_lt (hlt b hb))]
      exact (hfp b hb).1
  exact codeAny_compStart_list (loop _) (T.self _ 0 _ _ _ (T.keep _ _ _ st fun b hb o e=>old b o e) (loop _))
theorem nh {tg elt iter:Expr} {ifs:List Expr} {t2 i2:Expr} {f2:List Expr} {scope:Scope} {wi:TI} {g:TG} {ct:TT} {tm:TM} {i:Nat} {y:Str} {py spos:Pos} (ts fr:List Str) (js:List Nat)
  (hsw:swapsWith (E2 elt tg iter ifs t2 i2 f2 scope pos) (some (.Name y py)) spos.line X.env=pure true) (hN:X.N.Nodup) (hi0:X.N[i]? = some y) (hx:X.env.scope.names.lookup y=some .local)
  (hc:X.calm=true) (hi:PI X tg iter wi) (hkind:scope.kind=.function) (hcell:∀ y ∈ scope.names,y.2 ≠ .cell) (hnames:∀ y ∈ scope.names,y.2=.local->scope.names.lookup y.1=some .local)
  (hfree0:∀ y ∈ scope.names,y.2=.free->y.1 ∈ fr) (hfr:dn X scope fr js)
  (htg:∀ C fp s₁ H₁,PG (bc X scope C (ts++fr) fp s₁ H₁) tg g) (hct:∀ C fp s₁ H₁,gR (bc X scope C (ts++fr) fp s₁ H₁) ifs ct) (htm:∀ C fp s₁ H₁ acc,PM (bc X scope C (ts++fr) fp s₁ H₁) acc (kr (E2 elt tg iter ifs t2 i2 f2 scope pos) i2 (.ref acc) (bc X scope C (ts++fr) fp s₁ H₁).env) tm)
  (hs:∀ x,foldedSetIterable iter X.env x=pure x:=by intro _;rfl):PS X (.Assign [.Name y py] (E2 elt tg iter ifs t2 i2 f2 scope pos) spos) (lX (tX ts.length js wi g ct tm) (iJ i)):=by
 have hfree:∀ y ∈ scope.names,y.2=.free->X.env.kindOf y.1=some .cell\/X.env.kindOf y.1=some .free:=fun y hy e=>hfr.mem (hfree0 y hy e)
 intro pins s σ H D I h
 rw [exec_Assign_Name_used _ _ _ _ hsw]
 refine wpAny_bind (wpAny_standAt (wpAny_bind ?_))
 show wpAny _ X.A (do let _ <-comprehension (E2 elt tg iter ifs t2 i2 f2 scope pos) scope X.env _ (newList []) false (eval iter X.env) (some (assign (.Name y py) X.env))) _ _ s
 refine wpAny_bind (wpAny_mono (wpAny_comprehension_free (use:=some (assign (.Name y py) X.env)) (Q:=fun _ s'=>SP X pins D .next s') rfl hs (eW fun y hy e=>I.ok.has y.1 (hfree y hy e)) hkind hnames
  (aA (hi pins s σ H _ I h) fun xv s1 h1=>aA h1 fun itv s2 h2=>?_)) (fun _ s' hq=>wpAny_pure (wpAny_pure hq)) fun _ _ e=>e)
 obtain⟨it,fp,tn,J,H2,e,I2,T,st2,f2,hW⟩:=h2
 subst e
 refine pR (Q:=fun v H'=>D.nx (σ.set i (some v)) H') (RR:=fun acc C=>compPost (model X.prog X.w) X.A X.xe (some (assign (.Name y py) X.env)) (fun _ s'=>SP X pins D .next s') acc C) hc hkind hcell hfree hfr htg hct htm I2 T st2 f2 hW ?_
 intro acc C H' s' m I' hn hC hle q
 show wpAny _ X.A (assign (.Name y py) X.env (.ref acc)) _ _ _
 refine wpAny_assign_Name (gL I' hN hi0 (.inl hx) (v:=.ref acc) rfl (fun s'' I'' hch=>?_) (.inr hx))
 obtain⟨h1,h2,h3,h4,h5,h6⟩:=I2.fG (H':=H') hle hC
 obtain⟨a,hsb,ha⟩:=hch
 refine⟨m,hn.sameBut hsb ?_,fun h' hsb'=>⟨_,H',I2.iP I'' hC hle hsb',q⟩⟩
 rcases ha with ha | ha
 ·rw [ha];exact h2
 ·exact fun z=>h5 y a ha z.symm
end
def rh (J:It) (n:Nat) (js:List Nat) (g:TG) (ct:TT) (tk tv:TE) (acc:Addr) (σ : St) (H1:Hp) (Q:VK):Prop :=
 ∃ W:Nat->Nat->List (Key × V)->St->Hp->Prop,(∃ m,W 0 m [] (di n js σ) (upd H1 acc (.dK [])))/\∀ i m ys τ H2,W i m ys τ H2->H2 acc=some (.dK ys)/\ys.length < sizeLine /\
  ((J.stop i H2/\Q (.ref acc) H2)\/(J.go i H2/\∃ N:List (Key × V)->St->Hp->Prop,(∀ ys' τ' H',N ys' τ' H'->∃ m',m' < m/\W (i+1) m' ys' τ' H')/\∀ x H3,J.ie i H2 x H3->g x τ H3 fun τ1 H4=>ct τ1 H4 fun b H5 =>
   if b=true then tk τ1 H5 fun x1 H6=>tv τ1 H6 fun y H7=>∃ k,x1=kV k/\H7 acc=some (.dK ys)/\N (putK ys k y) τ1 (upd H7 acc (.dK (putK ys k y))) else N ys τ1 H5))
def tY (n:Nat) (js:List Nat) (wi:TI) (g:TG) (ct:TT) (tk tv:TE):TE:=fun σ H Q=>wi σ H fun J H1=>∀ acc,H1 acc=none->rh J n js g ct tk tv acc σ H1 Q
section
variable {X:Cx} {pos:Pos}
theorem gH {prog:Program} {w:World} {A:Around} {R:Result->Shared->Prop} {s:Shared} {kx vx target iter:Expr} {ifs:List Expr} {scope:Scope} {pos:Pos} {it:Value} {D:Addr} {env:Env} (I:Nat->Shared->Prop)
  (turn:∀ n s,I n s->wpAny (model prog w) A (pyNext it) (fun r s₁=>match r with
   | none=>R (.ok .next) s₁
   | some v=>wpAny (model prog w) A (letOwnedTupleGo target it v) (fun _ s₁'=>wpAny (model prog w) A (assign target env v) (fun _ s₂ =>
     wpAny (model prog w) A (forIn ifs true fun c r=>if r=true then do let ok <-isTrue c env (eval c env);pure (ForInStep.yield ok) else pure (ForInStep.yield r)) (fun ok s₃ =>
      if ok=true then wpAny (model prog w) A (eval kx env) (fun kv s₄=>wpAny (model prog w) A (eval vx env) (fun vv s₅ =>
       wpAny (model prog w) A (dictSet D kv vv) (fun _ s₆=>∃ m,m < n/\I m s₆) (fun _ _=>False) s₅) (fun _ _=>False) s₄) (fun _ _=>False) s₃
      else ∃ m,m < n/\I m s₃) (fun _ _=>False) s₂) (fun _ _=>False) s₁') (fun _ _=>False) s₁) (fun _ _=>False) s)
  (n:Nat) (h:I n s) :
  codeAny (model prog w) A (.compLoop (.DictComp kx vx [⟨target,iter,ifs,0⟩] scope pos) 0 it (.ref D) env) R s:=by
 refine codeAny_loop rfl I (fun n s hI=>?_) n h
 show wpAny _ A ((compTurn (.DictComp kx vx [⟨target,iter,ifs,0⟩] scope pos) 0 it (.ref D) env).onRaise (fun x=>do noteFrame x env;theTreesLotGoes x)) _ _ s
 refine wpAny_noted ?_
 rw [compTurn_dict]
 refine wpAny_bind (wpAny_standAt (wpAny_bind (wpAny_mono (turn n s hI) (fun r s₁ h₁=>?_) fun _ _ h'=>h'.elim)))
 cases r with
 | none=>exact wpAny_pure h₁
 | some v =>
  refine wpAny_bind (wpAny_mono h₁ (fun _ s₁' h₁'=>?_) fun _ _ h'=>h'.elim)
  refine wpAny_bind (wpAny_mono h₁' (fun _ s₂ h₂=>wpAny_bind (wpAny_mono h₂ (fun ok s₃ h₃=>?_) fun _ _ h'=>h'.elim)) fun _ _ h'=>h'.elim)
  cases ok with
  | false=>exact wpAny_pure ⟨rfl,h₃⟩
  | true =>
   exact wpAny_bind (wpAny_bind (wpAny_mono h₃ (fun kv s₄ h₄=>wpAny_bind (wpAny_holding (wpAny_mono h₄ (fun vv s₅ h₅=>wpAny_bind (wpAny_standAt (wpAny_holding (wpAny_mono h₅ (fun _ s₆ h₆=>wpAny_pure ⟨rfl,h₆⟩) fun _ _ h'=>h'.elim)))) fun _ _ h'=>h'.elim))) fun _ _ h'=>h'.elim))
theorem pS {pins:List (Addr × Obj)} {σ : St} {H:Hp} {s:Shared} {E:Value->Shared->Prop} {tg kx vx iter:Expr} {ifs:List Expr} {scope:Scope} {g:TG} {ct:TT} {tk tv:TE} {ts fr:List Str} {js:List Nat}
    {it:Addr} {fp:List Addr} {tn:Nat->Heap->Prop} {J:It} {Q:VK} {RR:Value->Addr->Result->Shared->Prop}
    (hc:X.calm=true) (hkind:scope.kind=.function) (hcell:∀ y ∈ scope.names,y.2 ≠ .cell) (hfree:∀ y ∈ scope.names,y.2=.free->X.env.kindOf y.1=some .cell\/X.env.kindOf y.1=some .free)
    (hfr:dn X scope fr js) (htg:∀ C fp s₁ H₁,PG (bc X scope C (ts++fr) fp s₁ H₁) tg g) (hct:∀ C fp s₁ H₁,gR (bc X scope C (ts++fr) fp s₁ H₁) ifs ct) (htk:∀ C fp s₁ H₁,PE (bc X scope C (ts++fr) fp s₁ H₁) kx tk) (htv:∀ C fp s₁ H₁,PE (bc X scope C (ts++fr) fp s₁ H₁) vx tv)
    (I:Inv X pins σ H s) (T:Turn X.prog X.w X.K tg J fp it tn) (st:tn 0 s.heap) (hfp:∀ b ∈ fp,dc X pins H b)
    (h:∀ acc,H acc=none->rh J ts.length js g ct tk tv acc σ H Q)
    (hRR:∀ acc C H' s' m,Inv X pins σ H' s'->s'.heap.Ns C m->H' C=none->s.heap.objs.size<=C->Q (.ref acc) H'->RR (.ref acc) C (.ok .next) s') :
    wpAny (model X.prog X.w) X.A newDict (fun acc s₃=>wpAny (model X.prog X.w) X.A (newFunctionEnv scope X.env.globals (dH X.env.cells scope.names []) [] X.env.qual none .none (some X.env)) (fun cenv s₄ =>
      codeAny (model X.prog X.w) X.A (.compStart (.DictComp kx vx [⟨tg,iter,ifs,0⟩] scope pos) 0 (.ref it) acc { cenv with scope:=relabel scope X.env }) (RR acc cenv.locals) s₄) E s₃) E s:=by
  have hf:∀ y ∈ scope.names,y.2=.free->∃ c,X.env.cells.lookup y.1=some c:=fun y hy e=>I.ok.has y.1 (hfree y hy e)
  have ag:∀ x c,(dH X.env.cells scope.names []).lookup x=some c->X.env.cells.lookup x=some c:=eM scope.names [] hf fun x c e=>by simp at e
  have hlt:∀ b ∈ fp,b < s.heap.objs.size:=fun b hb=>by
    obtain⟨o,e,_⟩:=T.obj _ _ st b hb
    exact Heap.lt_size e
  refine wpAny_newObj_type (wpAny_newFunctionEnv hcell (by intro y hy;simp at hy) (fun h₁ hns₁ hsb₁=>?_) hkind)
  dsimp only at hns₁ hsb₁ ⊢
  have hnew:(s.heap.push { cls:=.type "dict",dict:=none,data:=.dict #[] }).DictOf (aJ X.prog X.w) s.heap.objs.size []:=Heap.DictOf.new s.heap
  generalize hH2:s.heap.push { cls:=.type "dict",dict:=none,data:=.dict #[] }=G2 at hns₁ hsb₁ hnew ⊢
  have hC:G2.objs.size=s.heap.objs.size+1:=by rw [<-hH2,Heap.size_push]
  have hDC:s.heap.objs.size ≠ G2.objs.size:=by rw [hC];exact Nat.ne_of_lt (Nat.lt_succ_self _)
  have hCle:s.heap.objs.size<=G2.objs.size:=by rw [hC];exact Nat.le_succ _
  have below:∀ b,b < s.heap.objs.size->b ≠ G2.objs.size/\b ≠ s.heap.objs.size:=fun b hb=>⟨by rw [hC];exact Nat.ne_of_lt (Nat.lt_succ_of_lt hb),Nat.ne_of_lt hb⟩
  have old:∀ b o,s.heap.get? b=some o->h₁.get? b=some o:=fun b o e=>hsb₁.extBut b o (below b (Heap.lt_size e)).1 (Heap.get?_push_of_some _ (hH2 ▸ Heap.get?_push_of_some _ e))
  have hacc:h₁.DictOf (aJ X.prog X.w) s.heap.objs.size []:=hnew.at fun o e=>hsb₁.extBut _ _ hDC (Heap.get?_push_of_some _ e)
  have nD:H s.heap.objs.size=none:=I.av.fresh (Nat.le_refl _)
  have nC:H G2.objs.size=none:=I.av.fresh hCle
  obtain⟨W,⟨m0,w0⟩,turn⟩:=h s.heap.objs.size nD
  generalize hXb:bc X scope G2.objs.size (ts++fr) fp s H=Xb
  have Ib:∀ tk,Inv Xb [] (di ts.length js σ) (upd H s.heap.objs.size (.dK [])) { s with heap:=h₁,toks:=tk }:=by
    intro tk
    subst hXb
    refine⟨j9 I hkind hcell hf hCle hfp hlt,rfl,I.bare,Un.laid old (Nat.le_refl _) nD,⟨_,hns₁,fun i x v e1 e2 e3=>?_⟩,fun x c e=>?_,?_,fun x c e=>?_,fun p hp=>absurd (show p ∈ ([]:List (Addr × Obj)) from hp) (by simp),I.av.laid old (Nat.le_refl _) (fV (Nat.zero_le _) (beq_eq_false_iff_ne.mpr (Ne.symm (Nat.ne_of_lt I.big))) .nil hacc),?_⟩
    · have hi:ts.length<=i:=by
        refine Nat.le_of_not_lt fun hi=>?_
        unfold di at e2
        rw [List.getElem?_append_left (by simpa using hi),List.getElem?_replicate] at e2
        split at e2 <;> cases e2
      have e1':fr[i - ts.length]? = some x:=by
        have e1'':(ts++fr)[i]? = some x:=e1
        rw [List.getElem?_append_right hi] at e1''
        exact e1''
      unfold di at e2
      rw [List.getElem?_append_right (by simpa using hi),List.length_replicate,List.getElem?_map] at e2
      cases ej:js[i - ts.length]? with
      | none=>rw [ej] at e2;cases e2
      | some j =>
        rw [ej] at e2
        have e2':σ.getD j none=some v:=by simpa using e2
        obtain⟨q1,q2,q3⟩:=hfr.get e1' ej
        have e2'':σ[j]? = some (some v):=by
          rw [List.getD_eq_getElem?_getD] at e2'
          cases ez:σ[j]? with
          | none=>rw [ez] at e2';cases e2'
          | some z=>rw [ez] at e2';rw [show z=some v from e2']
        obtain⟨m,hn,hl⟩:=I.loc
        obtain⟨u,r,l⟩:=hl j x v q1 e2'' (by
          rcases q2 with q2 | q2
          · exact .inr (.inl q2)
          · exact .inr (.inr q2))
        refine⟨u,r,.inr ⟨d3 q3,?_⟩⟩
        rcases l with ⟨l,_⟩ | ⟨_,c,lc,lv⟩
        · rcases q2 with q2 | q2 <;> (rw [l] at q2;cases q2)
        · obtain⟨c',hc'⟩:=fT (cells:=X.env.cells) scope.names [] (.inl (PySem.mem_of_lookup q3))
          have:=ag x c' hc'
          rw [lc] at this
          cases this
          obtain⟨o,ho,hd⟩:=lv
          exact⟨c,hc',o,old _ _ ho,hd⟩
    · obtain⟨v,o,ho,hd⟩:=I.cell x c (ag x c e)
      exact⟨v,o,old _ _ ho,hd⟩
    · show upd H s.heap.objs.size (.dK []) G2.objs.size=none
      rw [ae hDC.symm];exact nC
    · obtain⟨v,o,ho,hd⟩:=I.cell x c (ag x c e)
      rw [ae (Nat.ne_of_lt (Heap.lt_size ho))]
      exact I.cK x c (ag x c e)
    · show (di ts.length js σ).length=(ts++fr).length
      unfold di
      rw [List.length_append,List.length_replicate,List.length_map,List.length_append,hfr.len]
  have fpB:∀ {H':Hp},(∀ b ∈ fp,H' b=none)->∀ b ∈ fp,dc Xb [] H' b:=fun {H'} hn b hb=>by
    subst hXb
    obtain⟨h1,h2,h3,h4,h5,h6⟩:=hfp b hb
    refine⟨hn b hb,(below b (hlt b hb)).1,fun z=>?_,.inl hb,fun x c e=>h5 x c (ag x c e),fun p hp=>absurd (show p ∈ ([]:List (Addr × Obj)) from hp) (by simp)⟩
    rcases List.mem_cons.mp (I.fP b z) with z | z
    · exact h2 z
    · exact h3 z
  have fin:∀ {τ : St} {H':Hp} {s':Shared},Inv Xb [] τ H' s'->Q (.ref s.heap.objs.size) H'->RR (.ref s.heap.objs.size) G2.objs.size (.ok .next) s':=fun {τ H' s'} Jb q=>by
    subst hXb
    obtain⟨m,hn,_⟩:=Jb.loc
    refine hRR _ _ H' s' m (I.lV (ch:=fp) Jb.os Jb.base Jb.av Jb.bare fun b hb=>?_) hn Jb.free hCle q
    obtain⟨h1,h2,h3,h4,h5,h6⟩:=hfp b hb
    exact⟨h4,h2,h5,h6⟩
  have loop:∀ tk,codeAny (model X.prog X.w) X.A (.compLoop (.DictComp kx vx [⟨tg,iter,ifs,0⟩] scope pos) 0 (.ref it) (.ref s.heap.objs.size) (compEnvC scope (dH X.env.cells scope.names []) G2.objs.size X.env))
        (RR (.ref s.heap.objs.size) G2.objs.size) { s with heap:=h₁,toks:=tk }:=by
    intro tk
    refine gH (fun n s'=>∃ i ys τ H',Inv Xb [] τ H' s'/\tn i s'.heap/\(∀ b ∈ fp,H' b=none)/\W i n ys τ H') ?_ m0 ⟨0,[],_,_,Ib tk,T.keep _ _ _ st fun b hb o e=>old b o e,fun b hb=>?_,w0⟩
    · rintro n s3 ⟨i,ys,τ,H3,I3,st3,fr3,w3⟩
      have htg':=htg G2.objs.size fp s H
      have hct':=hct G2.objs.size fp s H
      have htk':=htk G2.objs.size fp s H
      have htv':=htv G2.objs.size fp s H
      rw [hXb] at htg' hct' htk' htv'
      have eP:Xb.prog=X.prog:=by subst hXb;rfl
      have ew:Xb.w=X.w:=by subst hXb;rfl
      have eK:Xb.K=X.K:=by subst hXb;rfl
      have eA:Xb.A=X.A:=by subst hXb;rfl
      have ec:Xb.calm=true:=by subst hXb;exact hc
      have ee:Xb.env=compEnvC scope (dH X.env.cells scope.names []) G2.objs.size X.env:=by subst hXb;rfl
      have ex:Xb.xe=fun _ _=>False:=by subst hXb;rfl
      rw [<-eP,<-ew,<-eA,<-ee]
      obtain⟨ha,hl,turn'⟩:=turn i n ys τ H3 w3
      rcases turn' with ⟨stop,q⟩ | ⟨go,N,hN,step⟩
      · have hd:=T.done Xb eP ew eK ec i [] s3 τ H3 (fun _ _=>False) I3 (fpB fr3) st3 stop
        rw [<-eP,<-ew] at hd
        refine wpAny_mono hd (fun r s4 hr4=>?_) fun _ _ z=>z
        obtain⟨hr,I4⟩:=hr4
        subst hr
        exact fin I4 q
      · have hd:=T.item Xb eP ew eK ec i [] s3 τ H3 (fun _ _=>False) I3 (fpB fr3) st3 go
        rw [<-eP,<-ew] at hd
        refine wpAny_mono hd (fun r s4 hr4=>?_) fun _ _ z=>z
        obtain⟨u,hr,h4⟩:=hr4
        subst hr
        refine wpAny_mono h4 (fun _ s5 ⟨x,H5,I5,r5,y5,st5,fr5⟩=>?_) fun _ _ z=>z
        have I5':=I5.pinned (fpB fr5) (T.obj _ _ st5)
        have keepT:∀ {σ7:St} {H7:Hp} {s7:Shared},Inv Xb ([] ++ eG fp s5.heap) σ7 H7 s7->tn (i+1) s7.heap/\∀ b ∈ fp,H7 b=none:=fun {σ7 H7 s7} I7=>by
          refine⟨T.keep _ _ _ st5 fun b hb o e=>(I7.pin (b,o) (List.mem_append_right _ (List.mem_append_right _ (bG hb e)))).1,fun b hb=>?_⟩
          obtain⟨o,e,d⟩:=T.obj _ _ st5 b hb
          exact (I7.pin (b,o) (List.mem_append_right _ (List.mem_append_right _ (bG hb e)))).2.1
        refine wpAny_mono (htg' _ s5 τ H5 x u _ I5' r5 (step x H5 y5)) (fun _ s6 ⟨τ6,H6,I6,q6⟩=>?_) (fun _ _ z=>by rw [ex] at z;exact z)
        refine wpAny_mono (hct' _ s6 τ6 H6 _ I6 q6) (fun ok s7 ⟨H7,I7,q7⟩=>?_) (fun _ _ z=>by rw [ex] at z;exact z)
        cases ok with
        | false =>
          have q7':N ys τ6 H7:=by rw [if_neg (by simp)] at q7;exact q7
          rw [if_neg (by simp)]
          obtain⟨m',hm,w7⟩:=hN _ _ _ q7'
          exact⟨m',hm,i+1,ys,τ6,H7,I7.cf,(keepT I7).1,(keepT I7).2,w7⟩
        | true =>
          rw [if_pos rfl] at q7 ⊢
          refine wpAny_mono (htk' _ s7 τ6 H7 _ I7 q7) (fun kv s8 ⟨x8,H8,I8,r8,q8⟩=>?_) (fun _ _ z=>by rw [ex] at z;exact z)
          refine wpAny_mono (htv' _ s8 τ6 H8 _ I8 q8) (fun v s9 ⟨y,H9,I9,r9,k,ek,ha9,n9⟩=>?_) (fun _ _ z=>by rw [ex] at z;exact z)
          subst ek
          obtain⟨z,hd,vs,rel,dd⟩:=iV I9.av ha9
          have hz:vs.length<=sizeLine:=by rw [<-rel.length];exact z
          have hl9:(putK ys k y).length<=sizeLine:=by have:=cw ys k y;omega
          refine wpAny_dictSet_pairs (hsz:=hz) (hU r8) dd fun h' dd' hs=>?_
          have he:∃ q,h'.get? s.heap.objs.size=some q:=let ⟨q,_,_,hq,_⟩:=dd';⟨q,hq⟩
          have I10:=fun tk=>hV (t':=tk) I9 (by rw [ha9];exact True.intro) hs he (fV hl9 hd (rel.put k r9) dd')
          obtain⟨m',hm,w8⟩:=hN _ _ _ n9
          exact⟨m',hm,i+1,_,τ6,_,(I10 (s9.toks+1)).cf,(keepT (I10 (s9.toks+1))).1,(keepT (I10 (s9.toks+1))).2,w8⟩
    · rw [ae (Nat.ne_of_lt (hlt b hb))]
      exact (hfp b hb).1
  exact codeAny_compStart_dict (loop _) (T.self _ 0 _ _ _ (T.keep _ _ _ st fun b hb o e=>old b o e) (loop _))
theorem oi {tg kx vx iter:Expr} {ifs:List Expr} {scope:Scope} {wi:TI} {g:TG} {ct:TT} {tk tv:TE} (ts fr:List Str) (js:List Nat)
  (hc:X.calm=true) (hi:PI X tg iter wi) (hkind:scope.kind=.function) (hcell:∀ y ∈ scope.names,y.2 ≠ .cell) (hnames:∀ y ∈ scope.names,y.2=.local->scope.names.lookup y.1=some .local)
  (hfree0:∀ y ∈ scope.names,y.2=.free->y.1 ∈ fr) (hfr:dn X scope fr js)
  (htg:∀ C fp s₁ H₁,PG (bc X scope C (ts++fr) fp s₁ H₁) tg g) (hct:∀ C fp s₁ H₁,gR (bc X scope C (ts++fr) fp s₁ H₁) ifs ct) (htk:∀ C fp s₁ H₁,PE (bc X scope C (ts++fr) fp s₁ H₁) kx tk) (htv:∀ C fp s₁ H₁,PE (bc X scope C (ts++fr) fp s₁ H₁) vx tv)
  (hs:∀ x,foldedSetIterable iter X.env x=pure x:=by intro _;rfl):PE X (.DictComp kx vx [⟨tg,iter,ifs,0⟩] scope pos) (tY ts.length js wi g ct tk tv):=by
 have hfree:∀ y ∈ scope.names,y.2=.free->X.env.kindOf y.1=some .cell\/X.env.kindOf y.1=some .free:=fun y hy e=>hfr.mem (hfree0 y hy e)
 intro pins s σ H Q I h
 rw [arm_eval_DictComp]
 refine wpAny_comprehension_free (use:=none) rfl hs (eW fun y hy e=>I.ok.has y.1 (hfree y hy e)) hkind hnames (aA (hi pins s σ H _ I h) fun xv s1 h1=>aA h1 fun itv s2 h2=>?_)
 obtain⟨it,fp,tn,J,H2,e,I2,T,st2,f2,hW⟩:=h2
 subst e
 refine pS (RR:=fun acc C=>compPost (model X.prog X.w) X.A X.xe none (EP X pins σ Q) acc C) hc hkind hcell hfree hfr htg hct htk htv I2 T st2 f2 hW ?_
 intro acc C H' s' m I' hn hC hle q
 exact⟨m,hn,fun h' hsb=>⟨.ref acc,H',I2.iP I' hC hle hsb,rfl,q⟩⟩
end
theorem pT {K:PySem.W.Frag} {a acc:Addr} {xs:List V} {n:Nat} {js:List Nat} {g:TG} {ct:TT} {tk tv:TE} {σ : St} {H1:Hp} {Q:VK} (Pv:Nat->List (Key × V)->St->Hp->Prop) (h0:Pv 0 [] (di n js σ) (upd H1 acc (.dK [])))
  (hl:∀ i ys τ H,i<=xs.length->Pv i ys τ H->au K H a xs/\H acc=some (.dK ys)/\ys.length < sizeLine)
  (hs:∀ i x ys τ H,xs[i]? = some x->Pv i ys τ H->g x τ H fun τ1 H4=>ct τ1 H4 fun b H5=>if b=true then tk τ1 H5 fun x1 H6=>tv τ1 H6 fun y H7=>∃ k,x1=kV k/\H7 acc=some (.dK ys)/\Pv (i+1) (putK ys k y) τ1 (upd H7 acc (.dK (putK ys k y))) else Pv (i+1) ys τ1 H5)
  (hd:∀ ys τ H,Pv xs.length ys τ H->Q (.ref acc) H) :
  rh (j3 K a) n js g ct tk tv acc σ H1 Q:=by
 refine⟨fun i m ys τ H=>m=xs.length - i/\i<=xs.length/\Pv i ys τ H,⟨xs.length,by simp,Nat.zero_le _,h0⟩,?_⟩
 rintro i m ys τ H ⟨rfl,hi,p⟩
 obtain⟨q,q2,q3⟩:=hl i ys τ H hi p
 refine⟨q2,q3,?_⟩
 by_cases hlt:i < xs.length
 ·refine .inr ⟨⟨xs,xs[i],q,by simp [hlt]⟩,Pv (i+1),fun ys' τ' H' p'=>⟨xs.length - (i+1),by omega,rfl,hlt,p'⟩,fun x H' y=>?_⟩
  obtain⟨e,y⟩:=y
  subst e
  exact hs i x ys τ _ (y xs q) p
 ·have e:i=xs.length:=by omega
  subst e
  exact .inl ⟨⟨xs,q,Nat.le_refl _⟩,hd ys τ H p⟩
section
variable {prog:Program} {w:World} {A:Around} {E:Value->Shared->Prop} {s:Shared}
theorem jI (hh:A.handled=none) (it l:Addr) (hne:l ≠ it) (its:Array Value):Draws prog w A it [it,l] its.size (fun i v=>its[i]? = some v) (fun i h=>h.IsTupleIter it l i/\h.IsTuple l its) where
 live:=fun _ _ st=>let ⟨o,ho,_⟩:=st.1;⟨o,ho⟩
 frame:=fun _ _ _ st hk=>⟨st.1.at fun o e=>hk it (by simp) o e,dQ st.2 fun o e=>hk l (by simp) o e⟩
 item:=fun i s Q E hi st hQ=>i3 st.1 st.2 (x:=its[i]) (by simp [hi]) fun g gi sb=>hQ _ g s.toks (by simp [hi]) ⟨gi,dQ st.2 fun o e=>sb.extBut _ _ hne e⟩ sb
 done:=fun s Q E st hE=>jj hh st.1 st.2 (by simp) hE
abbrev o2 (h:Heap) (l:Addr):Heap:=h.push { cls:=.type "tuple_iterator",data:=.fields #[.ref l,.int 0 0] }
abbrev sD (h:Heap) (l:Addr):Heap:=(o2 h l).push { cls:=.type "enumerate",data:=.fields #[.none,.bool false,.ref h.objs.size,rawInt 0,.none,.none] }
theorem rm (l:Addr) (its:Array Value):Meets (Builtin.«enumerate.__new__» ⟨[.type "enumerate",.ref l],[]⟩) (fun _ R s=>s.heap.IsTuple l its/\R (.ok (.ret (.ref (o2 s.heap l).objs.size))) { s with heap:=sD s.heap l }) :=
 .of_wp fun P w' A' R' s' hh=>by
  obtain⟨hp,g,d,tk,os⟩:=s'
  obtain⟨gl,hh⟩:=hh
  have hsub:=sub_enumerate
  have la:Heap.IsTuple (Shared.heap ⟨hp,g,d,tk,os⟩) l its:=gl
  obtain⟨ol,el,cl,kl,dl⟩:=id gl
  wp_walk using AutoSeq1.wpAny_loadPart' el
  refine wpAny_stack_any fun st=>wpAny_pure ?_
  split
  ·rename_i c _ _ _ _ _
   cases (c == Value.type "enumerate")
   ·wp_walk using AutoSeq1.wpAny_loadPart' el,wpAny_pyIter_tuple la
    exact⟨_,rfl,hh⟩
   ·wp_walk using AutoSeq1.wpAny_loadPart' el,wpAny_pyIter_tuple la
    exact⟨_,rfl,hh⟩
  ·wp_walk using AutoSeq1.wpAny_loadPart' el,wpAny_pyIter_tuple la
   exact⟨_,rfl,hh⟩
theorem pU {l:Addr} {its:Array Value} {Q:Value->Shared->Prop} (hL:s.heap.IsTuple l its)
  (h:∀ g,IsEnum g (s.heap.objs.size+1) s.heap.objs.size 0 .none->g.IsTupleIter s.heap.objs.size l 0->(∀ b o,s.heap.get? b=some o->g.get? b=some o)->Q (.ref (s.heap.objs.size+1)) { s with heap:=g }) :
  wpAny (model prog w) A (call (.type "enumerate") [.ref l]) Q E s:=by
 refine callType_new F.called_enumerate (by decide) (F.typeCall_enumerate_1 _) (F.newCall_enumerate_1 _) (fun obj=>F.args_object_init_2 obj _) F.entry_enumerate_new (rm l its) ⟨hL,?_⟩
 have hz:(o2 s.heap l).objs.size=s.heap.objs.size+1:=Heap.size_push ..
 have he:IsEnum (sD s.heap l) (o2 s.heap l).objs.size s.heap.objs.size 0 .none:=Heap.get?_push_size _ rfl
 show _/\_
 rw [hz] at he ⊢
 exact⟨⟨_,he,rfl⟩,h _ he ⟨_,Heap.get?_push_of_some _ (Heap.get?_push_size _ rfl),rfl,rfl⟩ fun b o x=>Heap.get?_push_of_some _ (Heap.get?_push_of_some _ x)⟩
end
def il (Sq:Hp->Addr->List V->Prop) (a:Addr):It :=
 ⟨fun i H=>∃ xs x,Sq H a xs/\xs[i]? = some x,
  fun i H v H'=>∃ t x,v=.ref t/\H t=none/\H' = upd H t (.tup [.int (i:Nat),x])/\∀ xs,Sq H a xs->xs[i]? = some x,
  fun i H=>∃ xs,Sq H a xs/\xs.length=i⟩
section
variable {X:Cx} {pins:List (Addr × Obj)} {σ : List (Option V)} {H:Hp} {s:Shared}
theorem lQ {a e it:Addr} {n i:Nat} {x:V} {Pv:Nat->Value->Prop} {St:Nat->Heap->Prop} {E:Value->Shared->Prop} {elts:List Expr} {kk:Nat} {pos:Pos}
  (D:Draws X.prog X.w X.A.in1 it [it,a] n Pv St) (I:Inv X pins σ H s) (hf:∀ b ∈ [e,it],dc X pins H b) (he:∃ old,IsEnum s.heap e it i old) (hst:St i s.heap) (hlt:i < n) (hne:e ≠ it) (hea:e ≠ a) (hx:∀ v,Pv i v->RelV x v) :
  wpAny (model X.prog X.w) X.A (pyNext (.ref e)) (fun r s1=>∃ u,r=some u /\
   wpAny (model X.prog X.w) X.A (letOwnedTupleGo (.Tuple elts kk pos) (.ref e) u) (fun _ s2=>∃ v H',Inv X pins σ H' s2/\RelV v u/\(∃ t,v=.ref t/\H t=none/\H' = upd H t (.tup [.int (i:Nat),x]))/\((∃ old,IsEnum s2.heap e it (i+1:Nat) old)/\St (i+1) s2.heap)/\∀ b ∈ [e,it],H' b=none) E s1) E s:=by
 obtain⟨old,he⟩:=he
 have lite:it < s.heap.objs.size:=by obtain⟨_,y⟩:=D.live _ _ hst;exact Heap.lt_size y
 have lee:e < s.heap.objs.size:=Heap.lt_size he
 have sz:∀ c ∈ [e,it],c ≠ s.heap.objs.size:=fun c hc z=>by
  subst z
  simp only [List.mem_cons,List.not_mem_nil,or_false] at hc
  rcases hc with z | z
  ·rw [<-z] at lee;exact absurd lee (Nat.lt_irrefl _)
  ·rw [<-z] at lite;exact absurd lite (Nat.lt_irrefl _)
 refine wpAny_pyNext_enum_itemD D he hst hlt hne (by simp only [List.mem_cons,List.not_mem_nil,or_false,not_or];exact⟨hne,hea⟩) fun xv h' tk px ho hs' hT hsz hk=>?_
 refine⟨.ref s.heap.objs.size,rfl,wpAny_letOwnedTupleGo_enum ho fun g' ge sb=>?_⟩
 have fr:=I.av.fresh (a:=s.heap.objs.size) (Nat.le_refl _)
 have I1:Inv X pins σ (upd H s.heap.objs.size (.tup [.int (i:Nat),x])) { s with heap:=s.heap.push { cls:=.type "tuple",data:=.seq #[.int i tk,xv] },toks:=tk+1 } :=
  I.laid (fun _ _ e=>Heap.get?_push_of_some _ e) (Nat.le_refl _) ⟨by show 2<=sizeLine;decide,[.int i tk,xv],.cons ⟨tk,rfl⟩ (.cons (hx xv px) .nil),by first | exact IsTup.new _ _ | exact⟨_,Heap.get?_push_size _ rfl,rfl,_,rfl,rfl⟩⟩
 have f1:∀ c ∈ [e,it],dc X pins (upd H s.heap.objs.size (.tup [.int (i:Nat),x])) c:=fun c hc=>by
  obtain⟨f0,fr'⟩:=hf c hc
  exact⟨by rw [ae (sz c hc)];exact f0,fr'⟩
 have I2:Inv X pins σ (upd H s.heap.objs.size (.tup [.int (i:Nat),x])) { s with heap:=g',toks:=tk+1 }:=Inv.fW (s:={ s with heap:=s.heap.push { cls:=.type "tuple",data:=.seq #[.int i tk,xv] },toks:=tk+1 }) (fp:=[e,it]) (h':=g') (t':=tk+1) I1 (fun c o hc q=>by
  simp only [List.mem_cons,List.not_mem_nil,or_false,not_or] at hc
  refine sb.extBut _ _ hc.1 ?_
  rcases Heap.get?_push_cases q with ⟨rfl,rfl⟩ | q
  ·exact hT
  ·exact hk c o hc.1 hc.2 q) f1
 refine⟨.ref s.heap.objs.size,_,I2,rfl,⟨_,rfl,fr,rfl⟩,⟨⟨xv,by simpa using ge⟩,D.frame _ _ _ hs' fun b hb o q=>(sb.2 b fun z=>?_).trans q⟩,fun c hc=>(f1 c hc).1⟩
 subst z
 simp only [List.mem_cons,List.not_mem_nil,or_false] at hb
 exact hb.elim hne hea
theorem my {P:Program} {w:World} {K:PySem.W.Frag} {elts:List Expr} {kk:Nat} {pos:Pos} (a e it:Addr) (hne:e ≠ it) (hea:e ≠ a) (hia:a ≠ it) :
  Turn P w K (.Tuple elts kk pos) (il (aw K) a) [e,it] e (fun i h=>(∃ old,IsEnum h e it (i:Nat) old)/\h.IsTupleIter it a i) where
 mem:=by simp
 obj:=fun i h st c hc=>by
  obtain⟨⟨old,ge⟩,⟨oj,ej,cj,dj⟩⟩:=st
  simp only [List.mem_cons,List.not_mem_nil,or_false] at hc
  rcases hc with rfl | rfl
  ·exact⟨_,ge,fun v e=>by cases e⟩
  ·exact⟨oj,ej,fun v e=>by rw [dj] at e;cases e⟩
 keep:=fun i h g st kp=>by
  obtain⟨⟨old,ge⟩,⟨oj,ej,rj⟩⟩:=st
  exact⟨⟨old,kp e (by simp) _ ge⟩,⟨oj,kp it (by simp) _ ej,rj⟩⟩
 item:=by
  intro X hP hw hK hc i pins s σ H E I hf st hg
  subst hP hw hK
  obtain⟨xs,x,ha,hx⟩:=hg
  obtain⟨is,ra,pa,_⟩:=I.tuple ha
  have la:=ra.length
  have hil:i < is.toArray.size:=by have:=(List.getElem?_eq_some_iff.mp hx).1;simp;omega
  refine wpAny_mono (lQ (elts:=elts) (kk:=kk) (pos:=pos) (jI (A:=X.A.in1) (I.ok.hd hc) it a hia is.toArray) I hf st.1 ⟨st.2,show s.heap.IsTuple a is.toArray from pa⟩ hil hne hea (x:=x) (fun v hv=>?_)) (fun r s1 hr=>?_) fun _ _ z=>z
  ·obtain⟨u,hu,ru⟩:=ra.get hx
   have:is[i]? = some v:=by simpa using hv
   rw [hu] at this
   cases this
   exact ru
  ·obtain⟨u,e1,hgo⟩:=hr
   refine⟨u,e1,wpAny_mono hgo (fun _ s2 ⟨v,H',I',rv,⟨t,e2,ht,e3⟩,⟨g1,g2⟩,g3⟩=>⟨v,H',I',rv,⟨t,x,e2,ht,e3,fun xs' h1=>by rw [I.fB h1 ha];exact hx⟩,⟨g1,g2.1⟩,g3⟩) fun _ _ z=>z⟩
 done:=by
  intro X hP hw hK hc i pins s σ H E I hf st hg
  subst hP hw hK
  obtain⟨xs,ha,hl⟩:=hg
  obtain⟨is,ra,pa,_⟩:=I.tuple ha
  obtain⟨⟨old,ge⟩,gi⟩:=st
  have la:=ra.length
  have hsz:is.toArray.size=i:=by simp;omega
  refine wpAny_pyNext_enum_endD (jI (A:=X.A.in1) (I.ok.hd hc) it a hia is.toArray) ge ⟨by rw [hsz];exact gi,show s.heap.IsTuple a is.toArray from pa⟩ fun h' eb=>⟨rfl,I.fW (fp:=[e,it]) (t':=s.toks) (fun c o hc q=>?_) hf⟩
  simp only [List.mem_cons,List.not_mem_nil,or_false,not_or] at hc
  exact eb c o hc.2 q
 self:=fun _ _ _ _ _ st h=>wpAny_pyIter_enum st.1.choose_spec h
theorem mz {P:Program} {w:World} {K:PySem.W.Frag} {elts:List Expr} {kk:Nat} {pos:Pos} (a e it:Addr) (hne:e ≠ it) (hea:e ≠ a) (hia:a ≠ it) :
  Turn P w K (.Tuple elts kk pos) (il (au K) a) [e,it] e (fun i h=>(∃ old,IsEnum h e it (i:Nat) old)/\h.IsListIter it a i) where
 mem:=by simp
 obj:=fun i h st c hc=>by
  obtain⟨⟨old,ge⟩,⟨oj,ej,cj,dj⟩⟩:=st
  simp only [List.mem_cons,List.not_mem_nil,or_false] at hc
  rcases hc with rfl | rfl
  ·exact⟨_,ge,fun v e=>by cases e⟩
  ·exact⟨oj,ej,fun v e=>by rw [dj] at e;cases e⟩
 keep:=fun i h g st kp=>by
  obtain⟨⟨old,ge⟩,⟨oj,ej,rj⟩⟩:=st
  exact⟨⟨old,kp e (by simp) _ ge⟩,⟨oj,kp it (by simp) _ ej,rj⟩⟩
 item:=by
  intro X hP hw hK hc i pins s σ H E I hf st hg
  subst hP hw hK
  obtain⟨xs,x,ha,hx⟩:=hg
  obtain⟨is,ra,pa,_⟩:=I.list ha
  have la:=ra.length
  have hil:i < is.toArray.size:=by have:=(List.getElem?_eq_some_iff.mp hx).1;simp;omega
  refine wpAny_mono (lQ (elts:=elts) (kk:=kk) (pos:=pos) (Draws.list (A:=X.A.in1) (I.ok.hd hc) it a hia is.toArray) I hf st.1 ⟨st.2,pa.isList⟩ hil hne hea (x:=x) (fun v hv=>?_)) (fun r s1 hr=>?_) fun _ _ z=>z
  ·obtain⟨u,hu,ru⟩:=ra.get hx
   have:is[i]? = some v:=by simpa using hv
   rw [hu] at this
   cases this
   exact ru
  ·obtain⟨u,e1,hgo⟩:=hr
   refine⟨u,e1,wpAny_mono hgo (fun _ s2 ⟨v,H',I',rv,⟨t,e2,ht,e3⟩,⟨g1,g2⟩,g3⟩=>⟨v,H',I',rv,⟨t,x,e2,ht,e3,fun xs' h1=>by rw [I.j1 h1 ha];exact hx⟩,⟨g1,g2.1⟩,g3⟩) fun _ _ z=>z⟩
 done:=by
  intro X hP hw hK hc i pins s σ H E I hf st hg
  subst hP hw hK
  obtain⟨xs,ha,hl⟩:=hg
  obtain⟨is,ra,pa,_⟩:=I.list ha
  obtain⟨⟨old,ge⟩,gi⟩:=st
  have la:=ra.length
  have hsz:is.toArray.size=i:=by simp;omega
  refine wpAny_pyNext_enum_endD (Draws.list (A:=X.A.in1) (I.ok.hd hc) it a hia is.toArray) ge ⟨by rw [hsz];exact gi,pa.isList⟩ fun h' eb=>⟨rfl,I.fW (fp:=[e,it]) (t':=s.toks) (fun c o hc q=>?_) hf⟩
  simp only [List.mem_cons,List.not_mem_nil,or_false,not_or] at hc
  exact eb c o hc.2 q
 self:=fun _ _ _ _ _ st h=>wpAny_pyIter_enum st.1.choose_spec h
theorem ku:bootBuiltins "enumerate" = some (.type "enumerate"):=by decide +kernel
def se (K:PySem.W.Frag) (ta:TA):TI:=fun σ H R=>ta σ H fun vs H1=>∃ a,vs = [.ref a]/\((∃ xs,aw K H1 a xs)/\R (il (aw K) a) H1\/(∃ xs,au K H1 a xs)/\R (il (au K) a) H1)
theorem lR {a:Expr} {ta:TA} {p pos tp:Pos} {elts:List Expr} {kk:Nat} (hg:Gl X "enumerate") (hm:X.mg "enumerate" = none) (ha:PA X [a] ta) (hs:starEach [a] X.env = [(false,eval a X.env)]:=by rfl) :
  PI X (.Tuple elts kk tp) (.Call (.Name "enumerate" p) [a] [] pos) (se X.K ta):=by
 intro pins s σ H R I h
 refine Call_ (gM I hg hm ku (PyProof.Rows.callWith_type1 (aA (ha pos pins s σ H _ I h) fun us s1 ⟨vs,H1,I1,r1,q1⟩=>?_) hs rfl))
 obtain⟨x,e,q⟩:=q1
 subst e
 cases r1 with
 | cons r rr =>
  cases rr
  cases r
  have le1:∀ c ∈ [s1.heap.objs.size+1,s1.heap.objs.size],s1.heap.objs.size<=c:=fun c hc=>by
   simp only [List.mem_cons,List.not_mem_nil,or_false] at hc
   rcases hc with rfl | rfl
   ·exact Nat.le_succ _
   ·exact Nat.le_refl _
  rcases q with ⟨⟨xs,hx⟩,q⟩ | ⟨⟨xs,hx⟩,q⟩
  ·obtain⟨is,rx,px,_⟩:=I1.tuple hx
   have lx:x < s1.heap.objs.size:=px.lt
   refine pU (show s1.heap.IsTuple x is.toArray from px) fun g ge gi up=>?_
   refine wpAny_pyIter_enum ge ?_
   have I2:Inv X pins σ H1 { s1 with heap:=g }:=I1.kept (t':=s1.toks) up
   exact⟨_,[s1.heap.objs.size+1,s1.heap.objs.size],_,il (aw X.K) x,H1,rfl,I2,my x _ _ (Nat.ne_of_gt (Nat.lt_succ_self _)) (Nat.ne_of_gt (Nat.lt_succ_of_lt lx)) (Nat.ne_of_lt lx),⟨⟨_,ge⟩,gi⟩,fun c hc=>I1.fG (le1 c hc) (I1.av.fresh (le1 c hc)),q⟩
  ·obtain⟨is,rx,px,_⟩:=I1.list hx
   have lx:x < s1.heap.objs.size:=by obtain⟨o,eo,_⟩:=px.isList;exact Heap.lt_size eo
   refine call_enumerate_list px.isList fun g ge gi _ up=>?_
   refine wpAny_pyIter_enum ge ?_
   have I2:Inv X pins σ H1 { s1 with heap:=g }:=I1.kept (t':=s1.toks) up
   exact⟨_,[s1.heap.objs.size+1,s1.heap.objs.size],_,il (au X.K) x,H1,rfl,I2,mz x _ _ (Nat.ne_of_gt (Nat.lt_succ_self _)) (Nat.ne_of_gt (Nat.lt_succ_of_lt lx)) (Nat.ne_of_lt lx),⟨⟨_,ge⟩,gi⟩,fun c hc=>I1.fG (le1 c hc) (I1.av.fresh (le1 c hc)),q⟩
end
theorem om {Sq:Hp->Addr->List V->Prop} {a:Addr} {xs:List V} {g:TG} {tb:TS} {D:Ends} {σ : St} {H:Hp} (Pv:Nat->St->Hp->Prop) (h0:Pv 0 σ H) (hl:∀ i σ H,i<=xs.length->Pv i σ H->Sq H a xs)
  (hs:∀ i x σ H t,xs[i]? = some x->H t=none->Pv i σ H->g (.ref t) σ (upd H t (.tup [.int (i:Nat),x])) fun σ2 H2=>tb { D with nx:=Pv (i+1),ct:=Pv (i+1),bk:=D.nx } σ2 H2) (hd:∀ σ H,Pv xs.length σ H->D.nx σ H) :
  ∃ W:Nat->Nat->St->Hp->Prop,(∃ m,W 0 m σ H)/\∀ i m σ H,W i m σ H ->
   ((il Sq a).stop i H/\D.nx σ H)\/((il Sq a).go i H/\∃ N:St->Hp->Prop,(∀ σ' H',N σ' H'->∃ m',m' < m/\W (i+1) m' σ' H')/\∀ x H',(il Sq a).ie i H x H'->g x σ H' fun σ2 H2=>tb { D with nx:=N,ct:=N,bk:=D.nx } σ2 H2):=by
 refine⟨fun i m σ H=>m=xs.length - i/\i<=xs.length/\Pv i σ H,⟨xs.length,by simp,Nat.zero_le _,h0⟩,?_⟩
 rintro i m σ H ⟨rfl,hi,p⟩
 have q:=hl i σ H hi p
 by_cases hlt:i < xs.length
 ·refine .inr ⟨⟨xs,xs[i],q,by simp [hlt]⟩,Pv (i+1),fun σ' H' p'=>⟨xs.length - (i+1),by omega,rfl,hlt,p'⟩,fun v H' y=>?_⟩
  obtain⟨t,x,rfl,ht,rfl,h⟩:=y
  exact hs i x σ H t (h xs q) ht p
 ·have e:i=xs.length:=by omega
  subst e
  exact .inl ⟨⟨xs,q,rfl⟩,hd σ H p⟩
def oS:Option Str->V
 | none=>.aY
 | some y=>.str y
def d7 (f:Str->Option Str) (x:Str) (o:Option Str):Str->Option Str:=fun z=>if z=x then o else f z
def iz (f:Str->Option Str):aT->Str->Option Str
 | .put x _=>d7 f x none
 | .copy x y=>d7 f x (f y)
 | .add _ _=>f
 | .read x=>d7 f x none
 | .tell _=>f
def d8 (f:Str->Option Str):aT->List (Option Str)
 | .tell x=>[f x]
 | _=>[]
def iq (S:(Str->Option Str) × List (Option Str)) (d:aT):(Str->Option Str) × List (Option Str):=(iz S.1 d,S.2++d8 S.1 d)
def bS (ds:List aT):(Str->Option Str) × List (Option Str):=ds.foldl iq (some,[])
def cx (ds:List aT):Str->Option Str:=(bS ds).1
def df (p:Piece):List Str:=((bS p.1).2++(bf p.2).map (cx p.1)).filterMap id
theorem fu (ds:List aT) (d:aT):bS (ds ++ [d])=iq (bS ds) d:=by unfold bS;rw [List.foldl_append];rfl
def SrcAt (kvs:List (Key × V)) (f:Str->Option Str):Prop:=∀ x:Str,(bW kvs (Sum.inr x:Key)).getD (.str x)=oS (f x)
theorem SrcAt.nil:SrcAt [] some:=fun x=>rfl
theorem SrcAt.put {kvs:List (Key × V)} {f:Str->Option Str} (h:SrcAt kvs f) (x:Str) (o:Option Str):SrcAt (putK kvs (Sum.inr x) (oS o)) (d7 f x o):=fun z=>by
 rw [nW]
 unfold d7
 by_cases e:z=x
 ·rw [if_pos (by rw [e]),if_pos e];rfl
 ·rw [if_neg (fun q=>e (Sum.inr.inj q)),if_neg e];exact h z
def gX:Sp:=fun vs H Q _=>∃ (ea:Addr) (e:End),vs = [.ref ea]/\H ea=some (.tup (fK e))/\∀ l H',H' l=some (.lst ((bf e).map V.str))->H l=none->ah H H'->Q (.ref l) H'
def iA:Sp:=fun vs H Q _=>∃ (pc da ea:Addr) (ws:List V) (ds:List aT) (e:End),vs = [.ref pc]/\H pc=some (.tup [.ref da,.ref ea])/\H da=some (.tup ws)/\aC H ws (ds.map cq)/\H ea=some (.tup (fK e))/\ds.length<=500 /\
 ∀ t d l kvs H',H' t=some (.tup [.ref d,.ref l])->H' d=some (.dK kvs)->SrcAt kvs (cx ds)->H' l=some (.lst ((df (ds,e)).map V.str))->H t=none->H d=none->H l=none->ah H H'->Q (.ref t) H'
theorem dM {α : Type} {P:List α->Prop} (h0:P []) (h1:∀ l x,P l->P (l ++ [x])) (l:List α):P l:=by
 have:∀ m:List α,P m.reverse:=fun m=>by
  induction m with
  | nil=>exact h0
  | cons x r ih=>rw [List.reverse_cons];exact h1 _ _ ih
 have:=this l.reverse
 rwa [List.reverse_reverse] at this
theorem jo (ds:List aT):(bS ds).2.length<=ds.length:=by
 refine dM (P:=fun ds=>(bS ds).2.length<=ds.length) (Nat.le_refl _) (fun l d ih=>?_) ds
 show (bS (l ++ [d])).2.length<=(l ++ [d]).length
 rw [fu]
 unfold iq
 have:(d8 (bS l).1 d).length<=1:=by cases d <;> simp [d8]
 simp only [List.length_append,List.length_cons,List.length_nil]
 have ih:(bS l).2.length<=l.length:=ih
 omega
theorem oo {ds:List aT} {i:Nat} {d:aT} (h:ds[i]? = some d):bS (ds.take (i+1))=iq (bS (ds.take i)) d:=by
 rw [List.take_add_one,h]
 exact fu _ _
theorem ky (ds:List aT) (i:Nat):(bS (ds.take i)).2.length<=i:=Nat.le_trans (jo _) (by rw [List.length_take];exact Nat.min_le_left _ _)
structure dg (H:Hp) (l:Addr) (rs:List Addr) (os:List HO):Prop where
 lst:H l=some (.lst (rs.map V.ref))
 at_:∀ (k:Nat) (r:Addr) (o:HO),rs[k]? = some r->os[k]? = some o->H r=some o
 len:rs.length=os.length
 nd:rs.Nodup
 out:l ∉ rs
theorem dg.same {H H':Hp} {l:Addr} {rs:List Addr} {os:List HO} (T:dg H l rs os) (s:ah H H'):dg H' l rs os:=⟨s _ _ T.lst,fun k r o h1 h2=>s _ _ (T.at_ k r o h1 h2),T.len,T.nd,T.out⟩
theorem dg.get {H:Hp} {l:Addr} {rs:List Addr} {os:List HO} (T:dg H l rs os) {k:Nat} {o:HO} (h:os[k]? = some o):∃ r,rs[k]? = some r/\H r=some o/\(rs.map V.ref)[k]? = some (.ref r):=by
 have hk:k < rs.length:=by rw [T.len];exact (List.getElem?_eq_some_iff.mp h).1
 have hr:rs[k]? = some rs[k]:=by simp [hk]
 exact⟨_,hr,T.at_ k _ o hr h,by rw [List.getElem?_map,hr];rfl⟩
theorem dg.put {H:Hp} {l:Addr} {rs:List Addr} {os:List HO} (T:dg H l rs os) {k:Nat} {r:Addr} {o':HO} (hk:rs[k]? = some r):dg (upd H r o') l rs (os.set k o'):=by
  have hr:r ∈ rs:=List.mem_of_getElem? hk
  refine⟨by rw [ae (show l ≠ r from fun z=>T.out (by rw [z];exact hr))];exact T.lst,fun j r' o h1 h2=>?_,by rw [List.length_set];exact T.len,T.nd,T.out⟩
  by_cases e:j=k
  · subst e
    rw [hk] at h1
    cases h1
    have hj:j < os.length:=by rw [<-T.len];exact (List.getElem?_eq_some_iff.mp hk).1
    rw [List.getElem?_set_self hj] at h2
    cases h2
    exact aa
  · rw [List.getElem?_set_ne (Ne.symm e)] at h2
    have hne:r' ≠ r:=fun z=>e (by
      subst z
      exact (List.getElem?_inj (List.getElem?_eq_some_iff.mp h1).1 T.nd).mp (h1.trans hk.symm))
    rw [ae hne]
    exact T.at_ j r' o h1 h2
def Back (ps:List Piece) (n:Nat) (k:Nat) (b:List Nat):Prop:=b.length<=2 * n/\∀ a,a ∈ b ↔ a < n/\∃ p,ps[a]? = some p/\k ∈ aU p.2
def oN (b:List Nat):HO:=.lst (vN b)
def kA:Sp:=fun vs H Q _=>∃ (plv:V) (ps:List Piece),vs = [plv]/\aR H plv (eD ps)/\iY ps/\ps.length<=1000 /\
 ∀ (l:Addr) (rs:List Addr) (bs:List (List Nat)) H',dg H' l rs (bs.map oN)->bs.length=ps.length->(∀ (k:Nat) (b:List Nat),bs[k]? = some b->Back ps ps.length k b)->H l=none->(∀ r ∈ rs,H r=none)->ah H H'->Q (.ref l) H'
theorem gY (e:End):(aU e).length<=2:=by cases e <;> simp [aU]
theorem kB {ps:List Piece} (hin:iY ps) {i:Nat} {ds:List aT} {e:End} (h:ps[i]? = some (ds,e)):∀ k ∈ aU e,k < ps.length:=fun k hk=>by
 have h1:=hin _ (List.mem_of_getElem? h)
 cases e with
 | stop=>cases hk
 | go p=>rw [List.mem_singleton.mp hk];exact h1
 | d4 b x n p q =>
  rcases List.mem_cons.mp hk with z | z
  ·rw [z];exact h1.1
  ·rw [List.mem_singleton.mp z];exact h1.2
inductive cn (ps:List Piece):Nat->Str->Prop
 | ask {k:Nat} {p:Piece} {x:Str} (h:ps[k]? = some p) (hx:x ∈ df p):cn ps k x
 | back {k a:Nat} {p:Piece} {x y:Str} (h:cn ps k x) (hp:ps[a]? = some p) (hk:k ∈ aU p.2) (hy:cx p.1 x=some y):cn ps a y
def bT (F:List (List Str)) (k:Nat) (x:Str):Prop:=∃ xs,F[k]? = some xs/\x ∈ xs
def Cl (ps:List Piece) (F:List (List Str)) (k:Nat) (x:Str):Prop:=∀ (a:Nat) (p:Piece),ps[a]? = some p->k ∈ aU p.2->∀ y,cx p.1 x=some y->bT F a y
structure fw (ps:List Piece) (F:List (List Str)) (W:List (Nat × Str)) (ex:Nat->Str->Prop):Prop where
 len:F.length=ps.length
 i6:∀ (k:Nat) (xs:List Str),F[k]? = some xs->xs.Nodup/\∀ x ∈ xs,cn ps k x
 ask:∀ (k:Nat) (p:Piece),ps[k]? = some p->∀ x ∈ df p,bT F k x
 wt:∀ q ∈ W,bT F q.1 q.2
 cl:∀ k x,bT F k x->(k,x) ∈ W\/ex k x\/Cl ps F k x
def d9 (F:List (List Str)):Nat:=(F.map List.length).sum
theorem fX {F:List (List Str)} {a:Nat} {xs:List Str} {y:Str} (h:F[a]? = some xs) (k:Nat) (x:Str):bT (F.set a (xs ++ [y])) k x ↔ bT F k x\/(k=a/\x=y):=by
 have ha:a < F.length:=(List.getElem?_eq_some_iff.mp h).1
 unfold bT
 by_cases e:k=a
 ·subst e
  rw [List.getElem?_set_self ha,h]
  constructor
  ·rintro⟨z,hz,hx⟩
   cases hz
   rcases List.mem_append.mp hx with q | q
   ·exact .inl ⟨_,rfl,q⟩
   ·exact .inr ⟨rfl,List.mem_singleton.mp q⟩
  ·rintro (⟨z,hz,hx⟩ | ⟨_,rfl⟩)
   ·cases hz;exact⟨_,rfl,List.mem_append_left _ hx⟩
   ·exact⟨_,rfl,by simp⟩
 ·rw [List.getElem?_set_ne (Ne.symm e)]
  constructor
  ·exact .inl
  ·rintro (q | ⟨q,_⟩)
   ·exact q
   ·exact absurd q e
theorem Cl.mono {ps:List Piece} {F F':List (List Str)} {k:Nat} {x:Str} (m:∀ a y,bT F a y->bT F' a y) (h:Cl ps F k x):Cl ps F' k x:=fun a p hp hk y hy=>m _ _ (h a p hp hk y hy)
theorem sum_set {F:List (List Str)} {a:Nat} {xs:List Str} {y:Str} (h:F[a]? = some xs):d9 (F.set a (xs ++ [y]))=d9 F+1:=by
 induction F generalizing a with
 | nil=>simp at h
 | cons z r ih =>
  cases a with
  | zero =>
   simp at h
   subst h
   simp [d9]
   omega
  | succ a =>
   have:=ih (a:=a) (by simpa using h)
   simp [d9] at this ⊢
   omega
theorem fw.add {ps:List Piece} {F:List (List Str)} {W:List (Nat × Str)} {ex:Nat->Str->Prop} (I:fw ps F W ex) {a:Nat} {xs:List Str} {y:Str} (h:F[a]? = some xs) (hy:y ∉ xs) (hl:cn ps a y):fw ps (F.set a (xs ++ [y])) (W ++ [(a,y)]) ex:=by
 have m:∀ k x,bT F k x->bT (F.set a (xs ++ [y])) k x:=fun k x q=>(fX h k x).mpr (.inl q)
 have ha:a < F.length:=(List.getElem?_eq_some_iff.mp h).1
 refine⟨by rw [List.length_set];exact I.len,fun k zs hz=>?_,fun k p hp x hx=>m _ _ (I.ask k p hp x hx),fun q hq=>?_,fun k x hx=>?_⟩
 ·by_cases e:k=a
  ·subst e
   rw [List.getElem?_set_self ha] at hz
   cases hz
   obtain⟨n1,n2⟩:=I.i6 k xs h
   refine⟨?_,fun x hx=>?_⟩
   ·rw [List.nodup_append]
    exact⟨n1,by simp,fun u hu v hv z=>hy (by rw [List.mem_singleton] at hv;rw [<-hv,<-z];exact hu)⟩
   ·rcases List.mem_append.mp hx with q | q
    ·exact n2 x q
    ·rw [List.mem_singleton.mp q];exact hl
  ·rw [List.getElem?_set_ne (Ne.symm e)] at hz
   exact I.i6 k zs hz
 ·rcases List.mem_append.mp hq with q | q
  ·exact m _ _ (I.wt _ q)
  ·rw [List.mem_singleton.mp q];exact (fX h a y).mpr (.inr ⟨rfl,rfl⟩)
 ·rcases (fX h k x).mp hx with q | ⟨rfl,rfl⟩
  ·rcases I.cl k x q with c | c | c
   ·exact .inl (List.mem_append_left _ c)
   ·exact .inr (.inl c)
   ·exact .inr (.inr (c.mono m))
  ·exact .inl (by simp)
theorem fw.pop {ps:List Piece} {F:List (List Str)} {W:List (Nat × Str)} {k:Nat} {x:Str} (I:fw ps F (W ++ [(k,x)]) fun _ _=>False):fw ps F W fun k' x'=>k' = k/\x' = x :=
 ⟨I.len,I.i6,I.ask,fun q hq=>I.wt q (List.mem_append_left _ hq),fun k' x' h=>by
  rcases I.cl k' x' h with c | c | c
  ·rcases List.mem_append.mp c with c | c
   ·exact .inl c
   ·have:=List.mem_singleton.mp c
    cases this
    exact .inr (.inl ⟨rfl,rfl⟩)
  ·exact c.elim
  ·exact .inr (.inr c)⟩
theorem fw.close {ps:List Piece} {F:List (List Str)} {W:List (Nat × Str)} {k:Nat} {x:Str} (I:fw ps F W fun k' x'=>k' = k/\x' = x) (h:Cl ps F k x):fw ps F W fun _ _=>False :=
 ⟨I.len,I.i6,I.ask,I.wt,fun k' x' q=>by
  rcases I.cl k' x' q with c | ⟨rfl,rfl⟩ | c
  ·exact .inl c
  ·exact .inr (.inr h)
  ·exact .inr (.inr c)⟩
theorem fw.is {ps:List Piece} {F:List (List Str)} (I:fw ps F [] fun _ _=>False) (k:Nat) (x:Str):bT F k x ↔ cn ps k x:=by
 constructor
 ·rintro⟨xs,h1,h2⟩;exact (I.i6 k xs h1).2 x h2
 ·intro h
  induction h with
  | ask hp hx=>exact I.ask _ _ hp _ hx
  | back h hp hk hy ih =>
   rcases I.cl _ _ ih with c | c | c
   ·cases c
   ·exact c.elim
   ·exact c _ _ hp hk _ hy
def gu (H:Hp) (no:Addr) (tt:Addr) (pc:Piece):Prop:=∃ (d al:Addr) (kvs:List (Key × V)),H tt=some (.tup [.ref d,.ref al])/\H d=some (.dK kvs)/\SrcAt kvs (cx pc.1)/\H al=some (.lst ((df pc).map V.str))/\al ≠ no
theorem gu.same {H H':Hp} {no tt:Addr} {pc:Piece} (h:gu H no tt pc) (s:ah H H'):gu H' no tt pc:=let ⟨d,al,kvs,a,b,c,e,f⟩:=h;⟨d,al,kvs,s _ _ a,s _ _ b,c,s _ _ e,f⟩
theorem gu.acc {H:Hp} {no tt:Addr} {pc:Piece} {xs:List V} (h:gu H no tt pc) (hn:H no=some (.lst xs)) (ys:List V):gu (upd H no (.lst ys)) no tt pc:=by
 obtain⟨d,al,kvs,a,b,c,e,f⟩:=h
 refine⟨d,al,kvs,?_,?_,c,?_,f⟩
 ·rw [ae (bF a hn (by intro z;cases z))];exact a
 ·rw [ae (bF b hn (by intro z;cases z))];exact b
 ·rw [ae f];exact e
def kS (xs:List Str):List (Key × V):=xs.map fun x=>(Sum.inr x,.bl true)
def oK (xs:List Str):HO:=.dK (kS xs)
def eT (xs:List Str) (x:Str):List Str:=if x ∈ xs then xs else xs ++ [x]
def ef (l:List Str):List Str:=l.foldl eT []
theorem i7 (xs:List Str):(kS xs).length=xs.length:=List.length_map ..
theorem ni (xs:List Str) (x:Str):(bW (kS xs) (Sum.inr x:Key)).isSome=decide (x ∈ xs):=by
 induction xs with
 | nil=>rfl
 | cons y r ih =>
  show (bW ((Sum.inr y,V.bl true) :: kS r) (Sum.inr x:Key)).isSome=_
  by_cases e:y=x
  ·subst e
   rw [bQ rfl]
   simp
  ·rw [bR (fun z:(Sum.inr y:Key)=Sum.inr x=>e (Sum.inr.inj z)),ih]
   simp [Ne.symm e]
theorem rn (xs:List Str) (x:Str):((kS xs).any fun kv=>decide (kv.1=Sum.inr x))=decide (x ∈ xs):=by
 rw [Bool.eq_iff_iff]
 simp [kS]
theorem nj (xs:List Str) (x:Str):putK (kS xs) (Sum.inr x) (.bl true)=kS (eT xs x):=by
 unfold putK eT
 rw [rn]
 by_cases h:x ∈ xs
 ·rw [if_pos (by simpa using h),if_pos h]
  unfold kS
  rw [List.map_map]
  refine List.map_congr_left fun y _=>?_
  show (if (Sum.inr y:Key)=Sum.inr x then ((Sum.inr y:Key),V.bl true) else (Sum.inr y,V.bl true))=_
  split <;> rfl
 ·rw [if_neg (by simpa using h),if_neg h]
  simp [kS]
theorem oq {xs:List Str} {x z:Str}:z ∈ eT xs x ↔ z ∈ xs\/z=x:=by
 unfold eT
 split
 ·rename_i h
  exact⟨.inl,fun q=>q.elim id fun e=>e ▸ h⟩
 ·simp
theorem pV {xs:List Str} {x:Str} (h:xs.Nodup):(eT xs x).Nodup:=by
 unfold eT
 split
 ·exact h
 ·rename_i hx
  rw [List.nodup_append]
  exact⟨h,by simp,fun u hu v hv z=>hx (by rw [List.mem_singleton] at hv;rw [<-hv,<-z];exact hu)⟩
theorem ou (xs:List Str) (x:Str):(eT xs x).length<=xs.length+1:=by unfold eT;split <;> simp
theorem gv (l:List Str) (x:Str):ef (l ++ [x])=eT (ef l) x:=by unfold ef;rw [List.foldl_append];rfl
theorem lS (l:List Str) (z:Str):z ∈ ef l ↔ z ∈ l:=by
 refine dM (P:=fun l=>z ∈ ef l ↔ z ∈ l) (by simp [ef]) (fun l x ih=>?_) l
 rw [gv,oq,ih]
 simp
theorem rq (l:List Str):(ef l).Nodup:=dM (P:=fun l=>(ef l).Nodup) (by simp [ef]) (fun l x ih=>by rw [gv];exact pV ih) l
theorem lT (l:List Str):(ef l).length<=l.length:=dM (P:=fun l=>(ef l).length<=l.length) (by simp [ef]) (fun l x ih=>by
  rw [gv,List.length_append]
  exact Nat.le_trans (ou _ _) (Nat.succ_le_succ ih)) l
theorem kC (p:Piece):(df p).length<=p.1.length+1:=by
 unfold df
 refine Nat.le_trans (List.length_filterMap_le _ _) ?_
 rw [List.length_append,List.length_map]
 have h1:=jo p.1
 have h2:(bf p.2).length<=1:=by cases p.2 <;> simp [bf]
 omega
theorem kF {pool:List Str} (ds:List aT):(∀ d ∈ ds,dI pool d)->(∀ x y,x ∈ pool->(bS ds).1 x=some y->y ∈ pool)/\∀ y,some y ∈ (bS ds).2->y ∈ pool:=by
 refine dM (P:=fun ds=>(∀ d ∈ ds,dI pool d)->(∀ x y,x ∈ pool->(bS ds).1 x=some y->y ∈ pool)/\∀ y,some y ∈ (bS ds).2->y ∈ pool) ?_ (fun l d ih h=>?_) ds
 ·intro _
  exact⟨fun x y hx e=>by cases e;exact hx,fun y h=>nomatch h⟩
 ·obtain⟨i1,i2⟩:=ih fun d hd=>h d (List.mem_append_left _ hd)
  have hd:=h d (by simp)
  rw [fu]
  unfold iq
  refine⟨fun x y hx e=>?_,fun y hy=>?_⟩
  ·cases d with
   | put z n =>
    have e:d7 (bS l).1 z none x=some y:=e
    unfold d7 at e
    split at e
    ·cases e
    ·exact i1 x y hx e
   | copy z z2 =>
    have e:d7 (bS l).1 z ((bS l).1 z2) x=some y:=e
    unfold d7 at e
    split at e
    ·exact i1 z2 y hd.2 e
    ·exact i1 x y hx e
   | add z n=>exact i1 x y hx e
   | read z =>
    have e:d7 (bS l).1 z none x=some y:=e
    unfold d7 at e
    split at e
    ·cases e
    ·exact i1 x y hx e
   | tell z=>exact i1 x y hx e
  ·rcases List.mem_append.mp hy with q | q
   ·exact i2 y q
   ·cases d with
    | tell z =>
     have:=List.mem_singleton.mp (show some y ∈ [(bS l).1 z] from q)
     exact i1 z y hd this.symm
    | put z n=>cases q
    | copy z z2=>cases q
    | add z n=>cases q
    | read z=>cases q
theorem dW {pool:List Str} {m:Nat} {ps:List Piece} (ok:d5 pool m ps) {k:Nat} {x:Str} (h:cn ps k x):x ∈ pool:=by
 induction h with
 | @ask k p x hp hx =>
  have hm:=List.mem_of_getElem? hp
  have hd:=kF p.1 (ok.d6 p hm).2
  obtain⟨o,ho,e⟩:=List.mem_filterMap.mp hx
  cases (show o=some x from e)
  rcases List.mem_append.mp ho with q | q
  ·exact hd.2 x q
  ·obtain⟨z,hz,ez⟩:=List.mem_map.mp q
   have he:=ok.ends p hm
   refine hd.1 z x ?_ ez
   cases hpe:p.2 with
   | stop=>rw [hpe] at hz;cases hz
   | go _=>rw [hpe] at hz;cases hz
   | d4 b y n p1 p2 =>
    rw [hpe] at hz he
    rw [List.mem_singleton.mp hz]
    exact he.1
 | @back k a p x y h hp hk hy ih=>exact (kF p.1 (ok.d6 p (List.mem_of_getElem? hp)).2).1 x y ih hy
theorem gw {l:List Str}:∀ {m:List Str},l.Nodup->(∀ x ∈ l,x ∈ m)->l.length<=m.length:=by
 induction l with
 | nil=>intro m _ _;exact Nat.zero_le _
 | cons x r ih =>
  intro m nd h
  rw [List.nodup_cons] at nd
  have hx:=h x List.mem_cons_self
  have:=ih (m:=m.erase x) nd.2 fun y hy=>(List.mem_erase_of_ne (show y ≠ x from fun z=>nd.1 (by rw [<-z];exact hy))).mpr (h y (List.mem_cons_of_mem _ hy))
  rw [List.length_erase_of_mem hx] at this
  have h0:0 < m.length:=List.length_pos_of_mem hx
  simp only [List.length_cons]
  omega
theorem rA {F:List (List Str)} {n:Nat} (h:∀ xs ∈ F,xs.length<=n):d9 F<=F.length * n:=by
 induction F with
 | nil=>simp [d9]
 | cons x r ih =>
  have h1:=h x List.mem_cons_self
  have h2:=ih fun xs hx=>h xs (List.mem_cons_of_mem _ hx)
  simp [d9] at h2 ⊢
  rw [Nat.succ_mul]
  omega
def hZ (L:List (List Str)):PyData:=.tuple (L.map fun xs=>.tuple (xs.map PyData.str))
def kG:Sp:=fun vs H Q _=>∃ (plv:V) (ps:List Piece) (pool:List Str) (m:Nat),vs = [plv]/\aR H plv (eD ps)/\d5 pool m ps/\m<=500/\pool.length < 64/\ps.length<=400 /\
 ∀ v (L:List (List Str)) H',aR H' v (hZ L)->L.length=ps.length->(∀ (k:Nat) (xs:List Str),L[k]? = some xs->sortedS xs=true/\xs.Nodup/\∀ x,x ∈ xs ↔ cn ps k x)->ah H H'->Q v H'
theorem pW {Sq:Hp->Addr->List V->Prop} {a acc:Addr} {xs:List V} {n:Nat} {js:List Nat} {g:TG} {ct:TT} {tm:TM} {σ : St} {H1:Hp} {Q:VK} (Pv:Nat->List V->St->Hp->Prop) (h0:Pv 0 [] (di n js σ) (upd H1 acc (.lst [])))
  (hl:∀ i zs τ H,i<=xs.length->Pv i zs τ H->Sq H a xs)
  (hs:∀ i x zs τ H t,xs[i]? = some x->H t=none->Pv i zs τ H->g (.ref t) τ (upd H t (.tup [.int (i:Nat),x])) fun τ1 H4=>ct τ1 H4 fun b H5=>if b=true then tm acc zs τ1 H5 (Pv (i+1)) else Pv (i+1) zs τ1 H5)
  (hd:∀ zs τ H,Pv xs.length zs τ H->Q (.ref acc) H) :
  rg (il Sq a) n js g ct tm acc σ H1 Q:=by
 refine⟨fun i m zs τ H=>m=xs.length - i/\i<=xs.length/\Pv i zs τ H,⟨xs.length,by simp,Nat.zero_le _,h0⟩,?_⟩
 rintro i m ys τ H ⟨rfl,hi,p⟩
 have q:=hl i ys τ H hi p
 by_cases hlt:i < xs.length
 ·refine .inr ⟨⟨xs,xs[i],q,by simp [hlt]⟩,Pv (i+1),fun ys' τ' H' p'=>⟨xs.length - (i+1),by omega,rfl,hlt,p'⟩,fun v H' y=>?_⟩
  obtain⟨t,x,rfl,ht,rfl,h⟩:=y
  exact hs i x ys τ H t (h xs q) ht p
 ·have e:i=xs.length:=by omega
  subst e
  exact .inl ⟨⟨xs,q,rfl⟩,hd ys τ H p⟩
section
variable {X:Cx} {K:PySem.W.Frag}
theorem ow {tg l:Expr} {tl:TE} (hK:X.K=K) (hl:PE X l tl):PI X tg l (oM K tl):=by
 subst hK
 exact cB hl
def rB (K:PySem.W.Frag):List V->Hp->VK->Prop:=fun xs H Q=>∃ p ys,xs = [.ref p]/\((au K H p ys/\∀ l,H l=none->Q (.ref l) (upd H l (.tup ys)))\/(aw K H p ys/\Q (.ref p) H))
theorem fY (hK:X.K=K):eB X (.type "tuple") (rB K):=by
 subst hK
 exact bB
end
def cR (H:Hp) (wts:List Addr) (W:List (Nat × Str)):Prop:=Paired (fun a q=>H a=some (.tup [.int (q.1:Nat),.str q.2])) wts W
theorem cR.keep {H H':Hp} (s:∀ c ys,H c=some (.tup ys)->H' c=some (.tup ys)):∀ {wts:List Addr} {W:List (Nat × Str)},cR H wts W->cR H' wts W
 | _,_,.nil=>.nil
 | _,_,.cons h t=>.cons (s _ _ h) (cR.keep s t)
theorem cR.len {H:Hp}:∀ {wts:List Addr} {W:List (Nat × Str)},cR H wts W->wts.length=W.length
 | _,_,.nil=>rfl
 | _,_,.cons _ t=>by simp [cR.len t]
theorem cR.snoc_inv {H:Hp}:∀ {W:List (Nat × Str)} {wts:List Addr} {q:Nat × Str},cR H wts (W ++ [q])->∃ ws w,wts=ws ++ [w]/\cR H ws W/\H w=some (.tup [.int (q.1:Nat),.str q.2])
 | [],_,_,.cons h .nil=>⟨[],_,rfl,.nil,h⟩
 | _ :: W,_,_,.cons h t=>by
  obtain⟨ws,w,rfl,a,b⟩:=cR.snoc_inv (W:=W) t
  exact⟨_ :: ws,w,rfl,.cons h a,b⟩
def F0 (ps:List Piece):List (List Str):=ps.map fun pc=>ef (df pc)
theorem mB {ps:List Piece} {k:Nat} {p:Piece} (h:ps[k]? = some p):(F0 ps)[k]? = some (ef (df p)):=by unfold F0;rw [List.getElem?_map,h];rfl
theorem rC {ps:List Piece} {W:List (Nat × Str)} (hW:∀ q:Nat × Str,q ∈ W ↔ bT (F0 ps) q.1 q.2):fw ps (F0 ps) W fun _ _=>False:=by
 refine⟨by simp [F0],fun k xs h=>?_,fun k p hp x hx=>⟨_,mB hp,(lS _ _).mpr hx⟩,fun q hq=>(hW q).mp hq,fun k x h=>.inl ((hW (k,x)).mpr h)⟩
 unfold F0 at h
 rw [List.getElem?_map] at h
 cases hk:ps[k]? with
 | none=>rw [hk] at h;cases h
 | some p =>
  rw [hk] at h
  cases h
  exact⟨rq _,fun x hx=>.ask hk ((lS _ _).mp hx)⟩
theorem cR.snoc {H:Hp} {w:Addr} {q:Nat × Str} (e:H w=some (.tup [.int (q.1:Nat),.str q.2])):∀ {wts:List Addr} {W:List (Nat × Str)},cR H wts W->cR H (wts ++ [w]) (W ++ [q])
 | _,_,.nil=>.cons e .nil
 | _,_,.cons h t=>.cons h (cR.snoc e t)
theorem kH (H:Hp):∀ xs:List Str,aC H (xs.map V.str) (xs.map PyData.str)
 | []=>.nil
 | x :: r=>.cons (.str x) (kH H r)
theorem ir:∀ xs:List Str,bx (xs.map PyData.str)=true
 | []=>rfl
 | x :: r=>ir r
theorem cy (L:List (List Str)):bx (L.map fun xs=>PyData.tuple (xs.map PyData.str))=true:=by
 induction L with
 | nil=>rfl
 | cons x r ih =>
  show (bx (x.map PyData.str) && bx (r.map fun xs=>PyData.tuple (xs.map PyData.str)))=true
  rw [ir,ih];rfl
theorem pX (xs:List Str):(kS xs).map (·.1)=xs.map Sum.inr:=by unfold kS;rw [List.map_map];rfl
theorem iB {α β : Type} {f g:α->Option β}:∀ {l:List α},(∀ x ∈ l,f x=g x)->l.filterMap f=l.filterMap g
 | [],_=>rfl
 | x :: r,h=>by
  rw [List.filterMap_cons,List.filterMap_cons,h x List.mem_cons_self,iB fun y hy=>h y (List.mem_cons_of_mem _ hy)]
theorem ox {α : Type} (xs:List α):(List.range xs.length).filterMap (fun k=>xs[xs.length - 1 - k]?)=xs.reverse:=by
 refine dM (P:=fun xs=>(List.range xs.length).filterMap (fun k=>xs[xs.length - 1 - k]?)=xs.reverse) rfl (fun l x ih=>?_) xs
 show (List.range (l ++ [x]).length).filterMap (fun k=>(l ++ [x])[(l ++ [x]).length - 1 - k]?)=(l ++ [x]).reverse
 rw [List.length_append,List.length_singleton,List.range_succ_eq_map,List.filterMap_cons,List.filterMap_map,List.reverse_append]
 have e0:(l ++ [x])[l.length+1 - 1 - 0]? = some x:=by simp
 rw [e0]
 show x :: _=x :: l.reverse
 rw [<-ih]
 congr 1
 refine iB fun k hk=>?_
 have hk:k < l.length:=List.mem_range.mp hk
 show (l ++ [x])[l.length+1 - 1 - (k+1)]? = _
 rw [List.getElem?_append_left (by omega)]
 congr 1
 omega
theorem Vals.rev:∀ {xs:List V} {us:List Value},Vals xs us->Vals xs.reverse us.reverse
 | _,_,.nil=>.nil
 | _,_,.cons h t=>by
  rw [List.reverse_cons,List.reverse_cons]
  exact (Vals.rev t).append (.cons h .nil)
section
variable {X:Cx}
end
end L2
namespace LS
open PySem PySem.Spec PyProof.Rows L2
section
variable {prog:Program} {w:World} {A:Around} {E:Value->Shared->Prop} {s:Shared} {I l:Addr} {its:Array Value}
end
section
variable {prog:Program} {w:World} {A:Around} {E:Value->Shared->Prop} {s:Shared} {I l:Addr} {its:Array Value}
end
end LS
namespace L2
open PySem PySem.Spec PyProof.Rows
section
variable {X:Cx}
end
end L2
namespace LS
open PySem PySem.Spec PyProof.Rows L2
section
variable {prog:Program} {w:World} {K:Type} [DecidableEq K] {knd:KeyKind prog w K}
variable {A:Around} {E:Value->Shared->Prop} {s:Shared} {a:Addr} {ks:List K}
end
section
variable {prog:Program} {w:World} {A:Around} {E:Value->Shared->Prop} {s:Shared}
end
end LS
namespace L2
open PySem PySem.Spec PyProof.Rows LS
section
variable {X:Cx}
end
theorem oy {x:Str} (h:cu x):PyData.canLay0 (.str x)=true:=by
 show (x.cps.all fun c=>decide (c < 0x110000))=true
 rw [<-Array.all_toList,List.all_eq_true]
 intro c hc
 have:=h.az c hc
 exact decide_eq_true (by omega)
section
variable {X:Cx}
end
section
variable {prog:Program} {w:World} {A:Around} {E:Value->Shared->Prop} {s:Shared}
end
section
variable {X:Cx}
end
theorem aC.rD {H:Hp}:∀ {xs:List V} {ds:List aT},aC H xs (ds.map cq)->aC H xs.reverse (ds.reverse.map cq)
 | _,[],h=>by rw [h.nil_inv];exact .nil
 | _,d :: r,h=>by
  obtain⟨x,xs,rfl,h1,h2⟩:=h.cons_inv
  rw [List.reverse_cons,List.reverse_cons,List.map_append]
  exact (aC.rD h2).app h1
def sg (ps:List Piece) (e:End) (x:Str):Prop:=x ∈ bf e\/∃ k ∈ aU e,cn ps k x
def cz (A:Str->Prop):aT->Str->Prop
 | .put y _,x=>x ≠ y/\A x
 | .copy y z,x=>(x ≠ y/\A x)\/(x=z/\A y)
 | .add _ _,x=>A x
 | .read y,x=>x ≠ y/\A x
 | .tell y,x=>x=y\/A x
def cv:List aT->(Str->Prop)->Str->Prop
 | [],A=>A
 | d :: r,A=>cz (cv r A) d
theorem nq (ds:List aT) (d:aT) (A:Str->Prop):cv (ds ++ [d]) A=cv ds (cz A d):=by
 induction ds with
 | nil=>rfl
 | cons e r ih=>show cz (cv (r ++ [d]) A) e=cz (cv r (cz A d)) e;rw [ih]
theorem iC (ds:List aT):∀ (A:Str->Prop) (x:Str),cv ds A x ↔ (∃ y,A y/\cx ds y=some x)\/some x ∈ (bS ds).2:=by
 refine dM (P:=fun ds=>∀ (A:Str->Prop) (x:Str),cv ds A x ↔ (∃ y,A y/\cx ds y=some x)\/some x ∈ (bS ds).2) ?_ (fun l d ih A x=>?_) ds
 ·intro A x
  constructor
  ·intro h;exact .inl ⟨x,h,rfl⟩
  ·rintro (⟨y,h,e⟩ | h)
   ·cases (show some y=some x from e);exact h
   ·cases h
 ·rw [nq,ih]
  have e1:cx (l ++ [d])=iz (cx l) d:=by unfold cx;rw [fu];rfl
  have e2:(bS (l ++ [d])).2=(bS l).2++d8 (cx l) d:=by rw [fu];rfl
  rw [e1,e2]
  generalize cx l=f
  generalize (bS l).2=os
  rw [List.mem_append]
  cases d with
  | put y n =>
   simp only [cz,iz,d8,d7,List.not_mem_nil,or_false]
   refine or_congr ⟨fun ⟨z,⟨a,b⟩,c⟩=>⟨z,b,by rw [if_neg a];exact c⟩,fun ⟨z,b,c⟩=>?_⟩ Iff.rfl
   split at c
   ·cases c
   ·rename_i h;exact⟨z,⟨h,b⟩,c⟩
  | copy y w =>
   simp only [cz,iz,d8,d7,List.not_mem_nil,or_false]
   refine or_congr ⟨fun ⟨z,h,c⟩=>?_,fun ⟨z,b,c⟩=>?_⟩ Iff.rfl
   ·rcases h with ⟨a,b⟩ | ⟨a,b⟩
    ·exact⟨z,b,by rw [if_neg a];exact c⟩
    ·exact⟨y,b,by rw [if_pos rfl,<-a];exact c⟩
   ·split at c
    ·rename_i h;rw [h] at b;exact⟨w,.inr ⟨rfl,b⟩,c⟩
    ·rename_i h;exact⟨z,.inl ⟨h,b⟩,c⟩
  | add y n =>
   simp only [cz,iz,d8,List.not_mem_nil,or_false]
  | read y =>
   simp only [cz,iz,d8,d7,List.not_mem_nil,or_false]
   refine or_congr ⟨fun ⟨z,⟨a,b⟩,c⟩=>⟨z,b,by rw [if_neg a];exact c⟩,fun ⟨z,b,c⟩=>?_⟩ Iff.rfl
   split at c
   ·cases c
   ·rename_i h;exact⟨z,⟨h,b⟩,c⟩
  | tell y =>
   simp only [cz,iz,d8,List.mem_singleton]
   constructor
   ·rintro (⟨z,h | h,c⟩ | h)
    ·rw [h] at c;exact .inr (.inr c.symm)
    ·exact .inl ⟨z,h,c⟩
    ·exact .inr (.inl h)
   ·rintro (⟨z,h,c⟩ | h | h)
    ·exact .inl ⟨z,.inr h,c⟩
    ·exact .inr h
    ·exact .inl ⟨y,.inl rfl,h.symm⟩
theorem pY {ps:List Piece} {k:Nat} {p:Piece} (h:ps[k]? = some p) {x:Str} (hx:cv p.1 (sg ps p.2) x):cn ps k x:=by
 rcases (iC p.1 _ x).mp hx with ⟨y,a,e⟩ | a
 ·rcases a with a | ⟨k',hk,a⟩
  ·exact .ask h (List.mem_filterMap.mpr ⟨some x,List.mem_append_right _ (List.mem_map.mpr ⟨y,a,e⟩),rfl⟩)
  ·exact .back a h hk e
 ·exact .ask h (List.mem_filterMap.mpr ⟨some x,List.mem_append_left _ a,rfl⟩)
theorem en (x:Str):∀ xs:List Str,fC (.str x) (xs.map V.str)=decide (x ∈ xs)
 | []=>rfl
 | y :: r=>by
  have ih:=en x r
  unfold fC at ih ⊢
  rw [List.map_cons,List.any_cons,ih]
  by_cases e:y=x
  ·subst e;simp [ig]
  ·have:ig (V.str y) (V.str x)=false:=by
    show (y == x)=false
    exact beq_false_of_ne e
   rw [this,Bool.false_or]
   exact decide_eq_decide.mpr ⟨fun h=>List.mem_cons_of_mem _ h,fun h=>(List.mem_cons.mp h).resolve_left fun z=>e z.symm⟩
theorem eQ:∀ xs:List Str,(xs.map V.str).all eC=true
 | []=>rfl
 | _ :: r=>eQ r
end L2
namespace HT
open PySem PySem.Spec PyProof.Rows
section
variable {prog:Program} {w:World} {A:Around} {E:Value->Shared->Prop} {s:Shared}
theorem mC (n:Nat):Builtin.Slice.slicePlaces ((n:Int) - 1) (-1) (-1)=n:=by
 unfold Builtin.Slice.slicePlaces
 have h:¬ ((-1:Int) > 0):=by decide
 simp only [if_neg h]
 by_cases hn:n=0
 ·subst hn;rfl
 ·rw [if_pos (by omega)]
  have e:((n:Int) - 1 - -1 - 1) / (- -1)+1=n:=by
   rw [show ((n:Int) - 1 - -1 - 1)=n - 1 by omega,show (- -1:Int)=1 by decide,Int.ediv_one]
   omega
  rw [e]
  simp
theorem iD {sl:Addr} {vs:Value} {n:Nat} {Q:Int × Int × Nat->Shared->Prop} (hs:s.heap.IsSliceOf sl .none .none vs) (ps:IsPart vs (some (-1)))
  (h:Q ((n:Int) - 1,-1,n) s):wpAny (model prog w) A (Builtin.Slice.sliceApplied (.ref sl) (pure (n:Int))) Q E s:=by
 obtain⟨os,hos,hcs,hds⟩:=id hs
 unfold Builtin.Slice.sliceApplied Builtin.Slice.sliceFields
 refine wpAny_bind (wpAny_bind (wpAny_field hos hds (x:=.none) rfl (wpAny_bind (wpAny_field hos hds (x:=.none) rfl (wpAny_bind (wpAny_field hos hds (x:=vs) rfl (wpAny_pure ?_)))))))
 refine wpAny_bind (gg ps ?_)
 show wpAny _ _ (if ((-1:Int) == 0)=true then _ else _) _ _ s
 rw [if_neg (by decide)]
 refine wpAny_bind (slicePart_none (wpAny_bind (slicePart_none (wpAny_bind (wpAny_pure ?_)))))
 show wpAny _ _ (pure ((n:Int) - 1,(-1:Int),Builtin.Slice.slicePlaces ((n:Int) - 1) (-1) (-1))) _ _ s
 rw [mC]
 exact wpAny_pure h
theorem nu (xs:Array Value):((List.range xs.size).filterMap fun (m:Nat)=>xs[(((xs.size:Nat):Int) - 1+(m:Int) * -1).toNat]?).toArray=xs.toList.reverse.toArray:=by
 rw [<-L2.ox xs.toList,Array.length_toList]
 congr 1
 refine L2.iB fun k hk=>?_
 have hk:k < xs.size:=List.mem_range.mp hk
 rw [Array.getElem?_toList]
 congr 1
 omega
theorem ib {t sl:Addr} {items:Array Value} {vs:Value} {Q:Value->Shared->Prop} (ht:IsTup s.heap t items) (hs:s.heap.IsSliceOf sl .none .none vs) (ps:IsPart vs (some (-1)))
  (h:Q (.ref s.heap.objs.size) { s with heap:=s.heap.push { cls:=.type "tuple",data:=.seq items.toList.reverse.toArray } })
  (hsz:items.size<=sizeLine):wpAny (model prog w) A (getItem (.ref t) (.ref sl)) Q E s:=by
 have htake:sizeOk (.seq items.toList.reverse.toArray):=by
  show items.toList.reverse.toArray.size<=sizeLine
  rw [List.size_toArray,List.length_reverse,Array.length_toList]
  exact hsz
 obtain⟨os,hos,hcs,hds⟩:=id hs
 have hTs:s.TypeIs (.ref sl) "slice" := ⟨os,hos,hcs⟩
 unfold getItem
 try with_reducible refine wpAny_holding ?_
 first | refine wpAny_bind (wpAny_pure ?_) | skip
 refine wpAny_bind (wpAny_sequenceKey ht.typeIs (by decide) ?_)
 refine wpAny_bind (wpAny_callSpecial?_slot (name:=Str.ofString "__getitem__") ht.typeIs PyProof.Rows.slot_tuple_getitem
  (wpAny_call_entry PyProof.Rows.slot_tuple_getitem ht.typeIs entry_tuple_getitem ?_ (args_tuple_getitem _ _)))
 show wpAny _ _ (Builtin.Tuple.tupleItemsOf (.ref t) >>= _) _ _ s
 refine wpAny_bind (tupleItemsOf_ ht ?_)
 refine wpAny_bind (wpAny_typeOf hTs ?_)
 rw [if_pos (by decide)]
 refine wpAny_bind (iD hs ps ?_)
 have hno:¬ ((((items.size:Nat):Int) - 1 == 0 && (-1:Int) == 1 && items.size == items.size)=true):=by
  intro q
  rw [Bool.and_eq_true,Bool.and_eq_true] at q
  exact absurd (eq_of_beq q.1.2) (by decide)
 show wpAny _ _ (if (((items.size:Nat):Int) - 1 == 0 && (-1:Int) == 1 && items.size == items.size)=true then _ else _) _ _ s
 rw [if_neg hno,nu]
 first
  | exact wpAny_bind (m:=Builtin.Tuple.tupleExact _) (wpAny_newObj_type (wpAny_pure ⟨_,rfl,wpAny_pure h⟩) htake)
  | exact wpAny_bind (m:=Builtin.Tuple.tupleExact _) (wpAny_newObj_type (wpAny_bind (wpAny_pure (wpAny_pure ⟨_,rfl,wpAny_pure h⟩))) htake)
  | exact wpAny_bind (wpAny_bind (m:=Builtin.Tuple.tupleExact _) (wpAny_newObj_type (wpAny_pure (wpAny_pure ⟨_,rfl,wpAny_pure h⟩)) htake))
  | exact wpAny_bind (wpAny_bind (m:=Builtin.Tuple.tupleExact _) (wpAny_newObj_type (wpAny_pure ⟨_,rfl,wpAny_pure h⟩) htake))
end
end HT
namespace L2
open PySem PySem.Spec PyProof.Rows LS
section
variable {X:Cx}
def si (K:PySem.W.Frag) (te:TE) (ts:TO):TE:=fun σ H Q=>te σ H fun x H1=>ts σ H1 fun c H2=>c=some (-1)/\∃ l xs,x=.ref l/\aw K H2 l xs/\∀ p,H2 p=none->Q (.ref p) (upd H2 p (.tup xs.reverse))
theorem pZ {e st:Expr} {te:TE} {ts:TO} {p2 pos:Pos} (he:PE X e te) (hs:PO X (some st) ts):PE X (.Subscript e (.Slice none none (some st) p2) pos) (si X.K te ts):=by
 intro pins s σ H Q I h
 refine Subscript_ (aA (he pins s σ H _ I h) fun v s1 ⟨x,H1,I1,r1,q1⟩=>?_)
 refine wpAny_Slice ?_
 rw [evalPart_none]
 refine wpAny_pure (wpAny_pure (aA (hs pins s1 σ H1 _ I1 q1) fun vs s3 ⟨c,H3,I3,pc,q3⟩=>?_))
 obtain⟨rfl,l,xs,rfl,hS,q⟩:=q3
 cases r1
 have I4:Inv X pins σ H3 { s3 with heap:=s3.heap.push { cls:=.type "slice",data:=.fields #[.none,.none,vs] } }:=I3.kept (t':=s3.toks) fun b ob q=>Heap.get?_push_of_some _ q
 obtain⟨its,rv,ht,hz⟩:=I4.tuple hS
 have hzz:its.toArray.size<=sizeLine:=by rw [List.size_toArray,<-rv.length];exact hz
 show wpAny (model X.prog X.w) X.A (subscriptTail e (.Slice none none (some st) p2) (.ref l) (.ref s3.heap.objs.size)) (EP X pins σ Q) X.xe { s3 with heap:=s3.heap.push { cls:=.type "slice",data:=.fields #[.none,.none,vs] } }
 refine tail_any (ops:=[.ref l,.ref s3.heap.objs.size]) ht.typeIs PyProof.Rows.slot_tuple_getitem.lookup ?_ (by with_unfolding_all rfl)
 refine HT.ib ht (Heap.IsSliceOf.new ..) pc ?_ hzz
 refine⟨.ref _,_,I4.laid (t':=s3.toks) (o:=.tup xs.reverse) (fun b ob q=>Heap.get?_push_of_some _ q) (Nat.le_refl _) ?_,rfl,q _ (I4.av.fresh (Nat.le_refl _))⟩
 exact⟨by rw [List.length_reverse];exact hz,its.reverse,rv.rev,⟨_,Heap.get?_push_size _ rfl,rfl,_,rfl,rfl⟩⟩
end
section
variable {prog:Program} {w:World} {A:Around} {E:Value->Shared->Prop} {s:Shared}
theorem kI {l:Addr} {vs:List Value} {ns:List Str} {Q:Value->Shared->Prop} (hl:s.heap.IsList l vs.toArray) (hI:StrsAre vs ns) (h64:vs.length < 64)
  (q:∀ (h':Heap) (D:Addr) (out:Array Value) (ns':List Str) (e:Nat),(∀ b o,s.heap.get? b=some o->h'.get? b=some o)->s.heap.objs.size<=D->h'.get? D=some { cls:=.type "list",data:=.seq out e } ->
   StrsAre out.toList ns'->ns'.Perm ns->sortedS ns' = true->Q (.ref D) { s with heap:=h' }):wpAny (model prog w) A (call (.builtin "sorted") [.ref l]) Q E s:=by
 refine sorted_strs hl hI h64 fun out ns' a1 a2 a3=>?_
 unfold sortedAll
 generalize hg:((s.heap.push (seqObj "list" #[] 0)).update s.heap.objs.size (Obj.mapSeq (· ++ vs.toArray)))=g
 have hz:g.objs.size=s.heap.objs.size+1:=by rw [<-hg,Heap.size_update,size_push']
 have kp:∀ b o,s.heap.get? b=some o->g.get? b=some o:=fun b o e=>by
  rw [<-hg]
  exact (Heap.get?_update_other _ _ (Nat.ne_of_gt (Heap.lt_size e))).trans (Heap.get?_push_of_some _ e)
 have hoL:(g.push (seqObj "list" vs.toArray 0)).get? (s.heap.objs.size+1)=some (seqObj "list" vs.toArray 0):=by rw [<-hz];exact Heap.get?_push_size _ rfl
 obtain⟨e,he⟩:=sortedHeap_at (out:=out) hoL
 refine q _ _ out ns' e (fun b o ho=>?_) (Nat.le_succ _) he a1 a2 a3
 have h1:=kp b o ho
 have hlt:=Heap.lt_size ho
 rw [sortedHeap_old (Nat.ne_of_lt (Nat.lt_succ_of_lt hlt)) (by rw [size_push',hz];exact Nat.lt_succ_of_lt (Nat.lt_succ_of_lt hlt))]
 exact Heap.get?_push_of_some _ h1
end
section
variable {X:Cx}
theorem gF:eB X (.builtin "sorted") (fun vs H Q=>∃ (p:Addr) (ns:List Str),vs = [.ref p]/\au X.K H p (ns.map V.str)/\ns.length < 64 /\
  ∀ (l:Addr) (ns':List Str),ns'.Perm ns->sortedS ns' = true->H l=none->Q (.ref l) (upd H l (.lst (ns'.map V.str)))):=by
 intro pins s σ H xs us Q I r h
 obtain⟨p,ns,rfl,hp,h64,q⟩:=h
 obtain⟨u,rfl,ru⟩:=vals1 r
 cases (show u=Value.ref p from ru)
 obtain⟨its,hv,pl,_⟩:=I.list hp
 have hi:=iQ hv
 refine kI pl.isList hi (by have:=hv.length;rw [List.length_map] at this;omega) fun h' D out ns' e hkeep hD he hS hp' hs=>?_
 have hv':Vals (ns'.map V.str) out.toList:=ji hS
 refine⟨.ref D,_,I.laid (t':=s.toks) (o:=.lst (ns'.map V.str)) hkeep hD (show bh X.prog X.w _ h' _ (.lst (ns'.map V.str)) from ⟨?_,out.toList,e,hv',by simpa using he⟩),rfl,q D ns' hp' hs (I.av.fresh hD)⟩
 rw [List.length_map,hp'.length_eq]
 exact Nat.le_trans (Nat.le_of_lt h64) (by decide)
end
theorem jJ {X:Cx} {K:PySem.W.Frag} (h:X.K=K):cI X (compareOp .NotIn) (qE K true):=by subst h;exact fj
def fM (F:List (List Str)) (e:End) (x:Str):Prop:=x ∈ bf e\/∃ k ∈ aU e,bT F k x
def nv (ps:List Piece) (F:List (List Str)) (k:Nat) (x:Str):Prop:=∃ p,ps[k]? = some p/\cv p.1 (fM F p.2) x
theorem gx {A B:Str->Prop} (h:∀ x,A x->B x) (d:aT) (x:Str):cz A d x->cz B d x:=by
 cases d with
 | put y n=>exact fun q=>⟨q.1,h x q.2⟩
 | copy y z=>exact fun q=>q.elim (fun a=>.inl ⟨a.1,h x a.2⟩) fun a=>.inr ⟨a.1,h y a.2⟩
 | add y n=>exact h x
 | read y=>exact fun q=>⟨q.1,h x q.2⟩
 | tell y=>exact fun q=>q.elim .inl fun a=>.inr (h x a)
theorem eY {A B:Str->Prop} (h:∀ x,A x->B x):∀ (ds:List aT) (x:Str),cv ds A x->cv ds B x
 | [],x=>h x
 | d :: r,x=>gx (eY h r) d x
structure er (ps:List Piece) (F:List (List Str)):Prop where
 len:F.length=ps.length
 row:∀ (k:Nat) (xs:List Str),F[k]? = some xs->sortedS xs=true/\xs.Nodup
 sound:∀ k x,bT F k x->cn ps k x
 rE:∀ k x,bT F k x->nv ps F k x
def total (F:List (List Str)):Nat:=(F.map List.length).sum
theorem jK:∀ (F:List (List Str)) (k:Nat) (old ys:List Str),F[k]? = some old->total (F.set k ys)+old.length=total F+ys.length
 | [],k,old,ys,h=>by simp at h
 | f :: F,0,old,ys,h=>by
  cases h
  simp only [total,List.set_cons_zero,List.map_cons,List.sum_cons]
  omega
 | f :: F,k+1,old,ys,h=>by
  have ih:=jK F k old ys h
  simp only [total,List.set_cons_succ,List.map_cons,List.sum_cons] at ih ⊢
  omega
theorem kJ:∀ (F:List (List Str)) (n:Nat),(∀ xs ∈ F,xs.length<=n)->total F<=F.length * n
 | [],n,_=>by simp [total]
 | f :: F,n,h=>by
  have ih:=kJ F n fun xs hx=>h xs (List.mem_cons_of_mem _ hx)
  have h1:=h f (List.mem_cons_self ..)
  simp only [total,List.map_cons,List.sum_cons,List.length_cons,Nat.succ_mul] at ih ⊢
  omega
theorem sj {l m:List Str} (hl:l.Nodup) (h:∀ x ∈ l,x ∈ m) (hm:m.length<=l.length):∀ x ∈ m,x ∈ l:=fun x hx=>by
 by_cases e:x ∈ l
 ·exact e
 ·have h1:(x :: l).Nodup:=List.nodup_cons.mpr ⟨e,hl⟩
  have h2:=gw h1 fun y hy=>(List.mem_cons.mp hy).elim (fun z=>z ▸ hx) (h y)
  rw [List.length_cons] at h2
  omega
theorem jq {F:List (List Str)} {k:Nat} {old ys:List Str} (hk:F[k]? = some old) {j:Nat} {x:Str}:bT (F.set k ys) j x ↔ (j=k/\x ∈ ys)\/(j ≠ k/\bT F j x):=by
 have hl:k < F.length:=(List.getElem?_eq_some_iff.mp hk).1
 unfold bT
 by_cases e:j=k
 ·subst e
  rw [List.getElem?_set_self hl]
  simp
 ·rw [List.getElem?_set_ne (fun z=>e z.symm)]
  simp [e]
theorem oz {ps:List Piece} {F:List (List Str)} (hs:∀ k x,bT F k x->cn ps k x) {k:Nat} {p:Piece} (hp:ps[k]? = some p) {x:Str} (h:cv p.1 (fM F p.2) x):cn ps k x :=
 pY hp (eY (fun x q=>q.elim .inl fun ⟨k',a,b⟩=>.inr ⟨k',a,hs k' x b⟩) _ _ h)
theorem er.set {ps:List Piece} {F:List (List Str)} (I:er ps F) {k:Nat} {old ys:List Str} {p:Piece} (hk:F[k]? = some old) (hp:ps[k]? = some p) (h1:sortedS ys=true) (h2:ys.Nodup) (hy:∀ x,x ∈ ys ↔ cv p.1 (fM F p.2) x) :
    er ps (F.set k ys)/\(ys ≠ old->total F < total (F.set k ys)):=by
  have sub:∀ x ∈ old,x ∈ ys:=fun x hx=>by
    obtain⟨p',hp',h⟩:=I.rE k x ⟨old,hk,hx⟩
    rw [hp] at hp'
    cases hp'
    exact (hy x).mpr h
  have up:∀ j x,bT F j x->bT (F.set k ys) j x:=fun j x h=>(jq hk).mpr (by
    by_cases e:j=k
    · subst e
      obtain⟨xs,a,b⟩:=h
      rw [hk] at a
      cases a
      exact .inl ⟨rfl,sub x b⟩
    · exact .inr ⟨e,h⟩)
  have upA:∀ e x,fM F e x->fM (F.set k ys) e x:=fun e x h=>h.elim .inl fun ⟨j,a,b⟩=>.inr ⟨j,a,up j x b⟩
  refine⟨⟨by rw [List.length_set];exact I.len,fun j xs h=>?_,fun j x h=>?_,fun j x h=>?_⟩,fun ne=>?_⟩
  · by_cases e:j=k
    · subst e
      rw [List.getElem?_set_self (List.getElem?_eq_some_iff.mp hk).1] at h
      cases h
      exact⟨h1,h2⟩
    · rw [List.getElem?_set_ne (fun z=>e z.symm)] at h
      exact I.row j xs h
  · rcases (jq hk).mp h with ⟨rfl,a⟩ | ⟨_,a⟩
    · exact oz I.sound hp ((hy x).mp a)
    · exact I.sound j x a
  · rcases (jq hk).mp h with ⟨rfl,a⟩ | ⟨_,a⟩
    · exact⟨p,hp,eY (upA _) _ _ ((hy x).mp a)⟩
    · obtain⟨p',a1,a2⟩:=I.rE j x a
      exact⟨p',a1,eY (upA _) _ _ a2⟩
  · have ht:=jK F k old ys hk
    have ho:=(I.row k old hk)
    have:¬ ys.length<=old.length:=fun hle=>ne (ik.unique ⟨dU h1,h2⟩ ⟨dU ho.1,ho.2⟩ fun x=>⟨sj ho.2 sub hle x,sub x⟩)
    omega
theorem er.done {ps:List Piece} {F:List (List Str)} (hc:∀ k x,nv ps F k x->bT F k x) {k:Nat} {x:Str} (h:cn ps k x):bT F k x:=by
 induction h with
 | @ask k p x hp hx =>
  refine hc k x ⟨p,hp,(iC _ _ _).mpr ?_⟩
  obtain⟨o,ho,e⟩:=List.mem_filterMap.mp hx
  have e:o=some x:=e
  subst e
  rcases List.mem_append.mp ho with a | a
  ·exact .inr a
  ·obtain⟨y,b1,b2⟩:=List.mem_map.mp a
   exact .inl ⟨y,.inl b1,b2⟩
 | @back k a p x y h hp hk hy ih=>exact hc a y ⟨p,hp,(iC _ _ _).mpr (.inl ⟨x,.inr ⟨k,hk,ih⟩,hy⟩)⟩
theorem er.start {ps:List Piece}:er ps (List.replicate ps.length []):=by
 have no:∀ k x,¬ bT (List.replicate ps.length []) k x:=fun k x ⟨xs,h,hx⟩=>by
  rw [List.getElem?_replicate] at h
  split at h
  ·cases h;cases hx
  ·cases h
 refine⟨List.length_replicate,fun k xs h=>?_,fun k x h=>absurd h (no k x),fun k x h=>absurd h (no k x)⟩
 rw [List.getElem?_replicate] at h
 split at h
 ·cases h;exact⟨rfl,List.nodup_nil⟩
 ·cases h
def fE (H:Hp) (rl:Addr) (vs:List V) (F:List (List Str)):Prop:=vs.length=F.length/\∀ (i:Nat) (xs:List Str),F[i]? = some xs->∃ a:Addr,vs[i]? = some (.ref a)/\a ≠ rl/\H a=some (.lst (xs.map V.str))
def eg (H:Hp) (rl:Addr) (F:List (List Str)):Prop:=∃ vs,H rl=some (.lst vs)/\fE H rl vs F
theorem eg.same {H H':Hp} {rl:Addr} {F:List (List Str)} (h:eg H rl F) (s:ah H H'):eg H' rl F:=by
 obtain⟨vs,h1,h2,h3⟩:=h
 exact⟨vs,s _ _ h1,h2,fun i xs hx=>by obtain⟨a,a1,a2,a3⟩:=h3 i xs hx;exact⟨a,a1,a2,s _ _ a3⟩⟩
theorem fE.put {H:Hp} {rl a:Addr} {vs:List V} {F:List (List Str)} (h:fE H rl vs F) {k:Nat} {ys:List Str} (hk:k < F.length) (ha:H a=some (.lst (ys.map V.str))) (hn:a ≠ rl) :
  eg (upd H rl (.lst (vs.set k (.ref a)))) rl (F.set k ys):=by
 refine⟨_,aa,by rw [List.length_set,List.length_set];exact h.1,fun i xs hx=>?_⟩
 by_cases e:i=k
 ·subst e
  rw [List.getElem?_set_self hk] at hx
  cases hx
  exact⟨a,by rw [List.getElem?_set_self (by rw [h.1];exact hk)],hn,by rw [ae hn];exact ha⟩
 ·rw [List.getElem?_set_ne (fun z=>e z.symm)] at hx
  obtain⟨b,b1,b2,b3⟩:=h.2 i xs hx
  exact⟨b,by rw [List.getElem?_set_ne (fun z=>e z.symm)];exact b1,b2,by rw [ae b2];exact b3⟩
theorem fE.snoc {H H':Hp} {rl a:Addr} {vs:List V} {F:List (List Str)} {ys:List Str} (h:fE H rl vs F) (hk:∀ c o,H c=some o->c ≠ rl->H' c=some o) (ha:H' a=some (.lst (ys.map V.str))) (hn:a ≠ rl):fE H' rl (vs ++ [.ref a]) (F ++ [ys]):=by
 refine⟨by rw [List.length_append,List.length_append,h.1];rfl,fun i xs hx=>?_⟩
 by_cases e:i < F.length
 ·rw [List.getElem?_append_left e] at hx
  obtain⟨b,b1,b2,b3⟩:=h.2 i xs hx
  exact⟨b,by rw [List.getElem?_append_left (by rw [h.1];exact e)];exact b1,b2,hk _ _ b3 b2⟩
 ·rw [List.getElem?_append_right (by omega)] at hx
  have hi:i - F.length=0:=by
   have:=(List.getElem?_eq_some_iff.mp hx).1
   simp at this
   omega
  rw [hi] at hx
  cases hx
  exact⟨a,by rw [List.getElem?_append_right (by rw [h.1];omega),h.1,hi];rfl,hn,ha⟩
theorem kK:∀ (xs ys:List Str),PyData.eqvAll (xs.map PyData.str) (ys.map PyData.str)=decide (xs=ys)
 | [],[]=>rfl
 | [],_ :: _=>rfl
 | _ :: _,[]=>rfl
 | x :: xs,y :: ys=>by
  show ((x == y) && PyData.eqvAll (xs.map PyData.str) (ys.map PyData.str))=_
  rw [kK xs ys]
  by_cases e:x=y
  ·subst e;simp
  ·rw [beq_false_of_ne e];simp [e]
theorem gZ (xs:List Str):(PyData.list (xs.map PyData.str)).depth<=1:=by
 have h:PyData.depthAll (xs.map PyData.str)<=0:=jn _ fun d hd=>by obtain⟨x,_,rfl⟩:=List.mem_map.mp hd;exact Nat.le_refl 0
 show PyData.depthAll (xs.map PyData.str)+1<=1
 omega
theorem g0 {xs:List Str} (h:∀ x ∈ xs,cu x):(PyData.list (xs.map PyData.str)).canLay0=true:=by
 have:=jm (xs.map PyData.str) fun d hd=>by obtain⟨x,hx,rfl⟩:=List.mem_map.mp hd;exact oy (h x hx)
 exact this
theorem gy {H:Hp}:∀ xs:List Str,aC H (xs.map V.str) (xs.map PyData.str)
 | []=>.nil
 | x :: r=>.cons (.str x) (gy r)
theorem mD {pool:List Str} {A:Str->Prop} (h:∀ x,A x->x ∈ pool) {d:aT} (hd:dI pool d) {x:Str}:cz A d x->x ∈ pool:=by
 cases d with
 | put y n=>exact fun q=>h x q.2
 | copy y z=>exact fun q=>q.elim (fun a=>h x a.2) fun a=>a.1 ▸ hd.2
 | add y n=>exact h x
 | read y=>exact fun q=>h x q.2
 | tell y=>exact fun q=>q.elim (fun e=>e ▸ hd) (h x)
theorem gA {pool:List Str} {A:Str->Prop} (h:∀ x,A x->x ∈ pool):∀ {ds:List aT},(∀ d ∈ ds,dI pool d)->∀ {x:Str},cv ds A x->x ∈ pool
 | [],_,x=>h x
 | d :: r,hd,x=>mD (fun y hy=>gA h (fun d' h'=>hd d' (List.mem_cons_of_mem _ h')) hy) (hd d (List.mem_cons_self ..))
theorem ny {pool:List Str} {m:Nat} {ps:List Piece} (ok:d5 pool m ps) {F:List (List Str)} (hs:∀ k x,bT F k x->cn ps k x) {k:Nat} {p:Piece} (hp:ps[k]? = some p) {x:Str} (h:fM F p.2 x):x ∈ pool:=by
 rcases h with h | ⟨k',_,h⟩
 ·have:=ok.ends p (List.mem_of_getElem? hp)
  obtain⟨ds,e⟩:=p
  cases e with
  | stop=>cases h
  | go q=>cases h
  | d4 b y n q r=>rw [List.mem_singleton.mp h];exact this.1
 ·exact dW ok (hs k' x h)
theorem oA {ds:List aT} {j:Nat} {d:aT} (h:ds.reverse[j]? = some d):(ds.reverse.take (j+1)).reverse=d :: (ds.reverse.take j).reverse:=by
 rw [List.take_add_one,h]
 show (ds.reverse.take j ++ [d]).reverse=_
 rw [List.reverse_append]
 rfl
theorem rF {n i:Nat} (h:i < n):gQ n (i:Int)=some i:=by
 unfold gQ
 simp
 omega
section
variable {X:Cx}
theorem p3:cI X (binaryOp .Mult) (fun x y H Q=>∃ t n,x=.str t/\y=.int n/\MulOk t n/\Q (.str (Txt.mul t n)) H):=by
 intro pins s σ H x y v u Q I rx ry h
 obtain⟨t,n,rfl,rfl,hm,q⟩:=h
 obtain⟨k,rfl⟩:=rx
 obtain⟨k',rfl⟩:=ry
 exact SB.mul hm fun t' j=>⟨.str _,H,I.tok _,⟨_,rfl⟩,q⟩
end
theorem oB {c0 c:Nat} {n:Int} (h0:97<=c0/\c0<=122) (hc:97<=c/\c<=122) (h1:1<=n) (h3:n<=4):MulOk ⟨#[c]⟩ n/\(Txt.mul ⟨#[c]⟩ n).length<=4/\cu ((⟨#[c0]⟩:Str)++Txt.mul ⟨#[c]⟩ n):=by
 obtain rfl | rfl | rfl | rfl:n=1\/n=2\/n=3\/n=4:=by omega
 ·refine⟨⟨by decide,fun _ h=>absurd h (by show ¬ true=false;decide),fun _ h=>absurd h (by show ¬ true=false;decide)⟩,by show 1<=4;decide,⟨by show 1<=2;decide,by show 2<=8;decide,fun d hd=>?_⟩⟩
  have:d ∈ [c0,c]:=hd
  simp at this
  omega
 ·refine⟨⟨by decide,fun _ _=>by show ¬ ((1:Nat):Int) > _;decide,fun _ _=>by show Builtin.Str.tooLong (1 * 2)=false;decide⟩,by show 2<=4;decide,⟨by show 1<=3;decide,by show 3<=8;decide,fun d hd=>?_⟩⟩
  have:d ∈ [c0,c,c]:=hd
  simp at this
  omega
 ·refine⟨⟨by decide,fun _ _=>by show ¬ ((1:Nat):Int) > _;decide,fun _ _=>by show Builtin.Str.tooLong (1 * 3)=false;decide⟩,by show 3<=4;decide,⟨by show 1<=4;decide,by show 4<=8;decide,fun d hd=>?_⟩⟩
  have:d ∈ [c0,c,c,c]:=hd
  simp at this
  omega
 ·refine⟨⟨by decide,fun _ _=>by show ¬ ((1:Nat):Int) > _;decide,fun _ _=>by show Builtin.Str.tooLong (1 * 4)=false;decide⟩,by show 4<=4;decide,⟨by show 1<=5;decide,by show 5<=8;decide,fun d hd=>?_⟩⟩
  have:d ∈ [c0,c,c,c,c]:=hd
  simp at this
  omega
theorem oC (L:List (List Str)):(hZ L).depth<=60:=by
 have h:=jn (m:=1) (L.map fun xs=>PyData.tuple (xs.map PyData.str)) fun d hd=>by
  obtain⟨xs,_,rfl⟩:=List.mem_map.mp hd
  exact gZ xs
 show PyData.depthAll (L.map fun xs=>PyData.tuple (xs.map PyData.str))+1<=60
 omega
theorem oD {L:List (List Str)} (h:∀ xs ∈ L,∀ x ∈ xs,cu x):(hZ L).canLay0=true :=
 jm _ fun d hd=>by
  obtain⟨xs,hx,rfl⟩:=List.mem_map.mp hd
  exact g0 (h xs hx)
def jr:Sp:=fun vs H Q _=>∃ (dp l:Addr) (d:aT) (ns:List Str),vs = [.ref dp,.ref l]/\H dp=some (.tup (jU d))/\H l=some (.lst (ns.map V.str))/\ns.Nodup/\ns.length<=100 /\
 ∀ (l':Addr) (ns':List Str) H',H' l' = some (.lst (ns'.map V.str))->ns'.Nodup->(∀ x,x ∈ ns' ↔ cz (· ∈ ns) d x)->(l' = l\/H l' = none)->ah H H'->Q (.ref l') H'
def fN:Sp:=fun vs H Q _=>∃ (plv:V) (rl:Addr) (ps:List Piece) (F:List (List Str)) (k:Nat) (ds:List aT) (e:End),vs = [plv,.int (k:Nat),.ref rl]/\aR H plv (eD ps)/\iY ps/\ps[k]? = some (ds,e)/\F.length=ps.length/\ps.length<=400/\eg H rl F/\(∀ (k:Nat) (xs:List Str),F[k]? = some xs->xs.Nodup/\xs.length<=100) /\
 ∀ (l:Addr) (ns:List Str) H',H' l=some (.lst (ns.map V.str))->ns.Nodup->(∀ x,x ∈ ns ↔ fM F e x)->H l=none->ah H H'->Q (.ref l) H'
def gB:Sp:=fun vs H Q _=>∃ (plv:V) (ps:List Piece) (pool:List Str) (m:Nat),vs = [plv]/\aR H plv (eD ps)/\d5 pool m ps/\(∀ x ∈ pool,cu x)/\m<=500/\pool.length < 64/\ps.length<=400 /\
 ∀ (l:Addr) (F:List (List Str)) H',eg H' l F->F.length=ps.length->(∀ (k:Nat) (xs:List Str),F[k]? = some xs->sortedS xs=true/\xs.Nodup/\∀ x,x ∈ xs ↔ cn ps k x)->ah H H'->Q (.ref l) H'
def iE:Sp:=fun vs H Q _=>∃ (b:Addr) (c:Nat),vs = [.ref b,.int c]/\bt H b/\0 < c/\c<=1000/\∀ v xs ps H',aR H' v (eD ps)->ps.length=c->d5 xs 4 ps->((∀ x ∈ xs,cu x)/\xs.length<=60)->bt H' b->Fix b H H'->Q v H'
end L2
namespace My
open PySem PySem.Spec PyProof.Rows L2
def top (i:Nat):Stmt:=PySem.Challenge.pw_ledpast_k35_live_names_by_hand.main.body.getD i (.Pass ⟨0,0,0,0⟩)
structure Bl (mg:Str->Option Value):Prop where
 len:mg "len" = none
 zip:mg "zip" = none
 tuple:mg "tuple" = none
 set:mg "set" = none
 min:mg "min" = none
 range:mg "range" = none
 list:mg "list" = none
 int:mg "int" = none
 enumerate:mg "enumerate" = none
 sorted:mg "sorted" = none
abbrev bM:Stmt:=top 2
theorem iF:aV ["thing", "kinds", "wanted"] ["thing", "kinds", "wanted"] (ar bM):=⟨rfl,rfl,rfl,by decide +kernel,rfl,by decide +kernel,by decide +kernel⟩
abbrev dX:Stmt:=top 3
theorem mE:aV ["end"] ["end"] (ar dX):=⟨rfl,rfl,rfl,by decide +kernel,rfl,by decide +kernel,by decide +kernel⟩
abbrev du:Stmt:=top 5
theorem kW:aV ["end"] ["end"] (ar du):=⟨rfl,rfl,rfl,by decide +kernel,rfl,by decide +kernel,by decide +kernel⟩
abbrev eu:Stmt:=top 6
theorem dt:aV ["piece", "deeds", "end", "sources", "asked", "deed", "word", "name"] ["piece"] (ar eu):=⟨rfl,rfl,rfl,by decide +kernel,rfl,by decide +kernel,by decide +kernel⟩
abbrev cV:Stmt:=top 7
theorem cF:aV ["plan", "back", "at", "deeds", "end", "way"] ["plan"] (ar cV):=⟨rfl,rfl,rfl,by decide +kernel,rfl,by decide +kernel,by decide +kernel⟩
abbrev fZ:Stmt:=top 8
theorem dz:aV ["plan", "traces", "back", "found", "waiting", "at", "name", "ahead", "source"] ["plan"] (ar fZ):=⟨rfl,rfl,rfl,by decide +kernel,rfl,by decide +kernel,by decide +kernel⟩
abbrev dY:Stmt:=top 10
theorem gC:aV ["script", "k", "cell"] ["script", "k"] (ar dY):=⟨rfl,rfl,rfl,by decide +kernel,rfl,by decide +kernel,by decide +kernel⟩
abbrev dA:Stmt:=top 11
theorem iu:aV ["bag", "many", "found"] ["bag", "many"] (ar dA):=⟨rfl,rfl,rfl,by decide +kernel,rfl,by decide +kernel,by decide +kernel⟩
abbrev cW:Stmt:=top 12
theorem bL:aV ["bag", "letters", "many", "base", "at", "names", "k", "name"] ["bag"] (ar cW):=⟨rfl,rfl,rfl,by decide +kernel,rfl,by decide +kernel,by decide +kernel⟩
abbrev cG:Stmt:=top 13
theorem jN:aV ["bag"] ["bag"] (ar cG):=⟨rfl,rfl,rfl,by decide +kernel,rfl,by decide +kernel,by decide +kernel⟩
abbrev dB:Stmt:=top 14
theorem fO:aV ["bag", "names", "word", "name"] ["bag", "names"] (ar dB):=⟨rfl,rfl,rfl,by decide +kernel,rfl,by decide +kernel,by decide +kernel⟩
abbrev dZ:Stmt:=top 15
theorem eZ:aV ["bag", "names", "count", "way", "word", "name"] ["bag", "names", "count"] (ar dZ):=⟨rfl,rfl,rfl,by decide +kernel,rfl,by decide +kernel,by decide +kernel⟩
abbrev dC:Stmt:=top 16
theorem cX:aV ["bag", "count", "most", "names", "pieces", "k", "many", "end"] ["bag", "count", "most"] (ar dC):=⟨rfl,rfl,rfl,by decide +kernel,rfl,by decide +kernel,by decide +kernel⟩
abbrev cY:Stmt:=top 17
theorem kL:aV ["bag", "most"] ["bag", "most"] (ar cY):=⟨rfl,rfl,rfl,by decide +kernel,rfl,by decide +kernel,by decide +kernel⟩
abbrev cZ:Stmt:=top 18
theorem eh:aV ["deed", "names", "word", "name", "left"] ["deed", "names"] (ar cZ):=⟨rfl,rfl,rfl,by decide +kernel,rfl,by decide +kernel,by decide +kernel⟩
abbrev bD:Stmt:=top 19
theorem cA:aV ["plan", "piece", "rows", "end", "names", "there"] ["plan", "piece", "rows"] (ar bD):=⟨rfl,rfl,rfl,by decide +kernel,rfl,by decide +kernel,by decide +kernel⟩
abbrev dD:Stmt:=top 20
theorem bI:aV ["plan", "rows", "going", "piece", "names", "deed"] ["plan"] (ar dD):=⟨rfl,rfl,rfl,by decide +kernel,rfl,by decide +kernel,by decide +kernel⟩
abbrev bN:Stmt:=top 21
theorem aX:aV ["bag", "count", "letters", "shift", "names", "k", "sign", "pieces", "deeds"] ["bag", "count"] (ar bN):=⟨rfl,rfl,rfl,by decide +kernel,rfl,by decide +kernel,by decide +kernel⟩
abbrev e5:Stmt:=top 22
theorem g9:aV ["script", "first", "great", "plan"] ["script"] (ar e5):=⟨rfl,rfl,rfl,by decide +kernel,rfl,by decide +kernel,by decide +kernel⟩
section
variable {P:Program} {w:World} {K:PySem.W.Frag} {mg:Str->Option Value} {base:Heap}
theorem iG {f:Addr} {fd:FuncData} (F:dh K "parts_of_kind" "parts_of_kind" bM f fd) (Z:Bl mg)  : bC P w K mg base cJ 1 f fd ["thing", "kinds", "wanted"] (jl K):=by
 refine F.ok (k:=0) iF (fun vs H Q E h=>?_) (fun cdv A outer s H vs Q E hr h=>?_)
 ·obtain⟨t,s,v0,xs,ks,w,rfl,_⟩:=h
  rfl
 ·obtain⟨t,s,v0,xs,ks,w,rfl,ht,hs,hl,q⟩:=h
  refine⟨_,(ao (aP (cg ["part", "kind"] ["wanted"] [2] rfl (qY rfl Z.zip (U (j6 pI (pv 0) (jb ai) lI) (U (pv 1) ab))) rfl (by decide +kernel) (by decide +kernel) (by decide +kernel) ⟨⟨rfl,.inl rfl,rfl⟩,True.intro⟩ (fun _ _ _ _=>(je (K:=K) (n:=2) rfl (eF (n:=2) rfl (bo (ax (i:=0) (show ((["part", "kind"]:List Str)++(["wanted"]:List Str)).Nodup by decide +kernel) rfl (Or.inl rfl) (hf:=Or.inr rfl)) (bo (ax (i:=1) (show ((["part", "kind"]:List Str)++(["wanted"]:List Str)).Nodup by decide +kernel) rfl (Or.inl rfl) (hf:=Or.inr rfl)) dN))))) (fun _ _ _ _=>(e6 (aI cL (pv 1) (pv 2) (ba _)))) (fun _ _ _ _=>(pv 0))))),?_⟩
  refine⟨_,rfl,_,rfl,t,_,rfl,aw.of ht,fun hw=>?_,fun _ p np=>?_⟩
  ·exfalso
   obtain⟨h1,_⟩:=hw
   simp [HT.aS] at h1
  ·have ec:gP (v0 :: xs) (some 1) none=xs:=by simp [gP,HT.aS]
   rw [ec]
   have sp:=ah.new (o:=.tup xs) np
   refine⟨_,rfl,p,s,rfl,⟨_,aw.of aa⟩,⟨_,hs.same sp⟩,fun acc na=>?_⟩
   refine qZ (K:=K) (a:=p) (b:=s) (xs:=xs) (ys:=ks.map V.str) (fun i zs τ H'=>∃ (c1 c2:Option V),τ = [c1,c2,some (.str w)]/\zs=fD w xs ks i/\H' acc=some (.lst zs)/\H' p=some (.tup xs)/\ah H H') ?_ ?_ ?_ ?_
   ·exact⟨none,none,rfl,rfl,aa,ah.new na _ _ aa,sp.trans (ah.new na)⟩
   ·rintro i zs τ H4 hi ⟨c1,c2,rfl,rfl,ha,hp4,s4⟩
    exact⟨aw.of hp4,hs.same s4,ha,aB (by have:=m8 (w:=w) (xs:=xs) (ks:=ks) (i:=i);omega)⟩
   ·rintro i x y zs τ H4 u hx hy hu ⟨c1,c2,rfl,rfl,ha,hp4,s4⟩
    obtain⟨k,rfl,hk⟩:∃ k,y=V.str k/\ks[i]? = some k:=by
     rw [List.getElem?_map] at hy
     cases e:ks[i]? with
     | none=>rw [e] at hy;cases hy
     | some k=>rw [e] at hy;exact⟨k,(Option.some.inj hy).symm,rfl⟩
    have su:=ah.new (o:=.tup [x,.str k]) hu
    refine⟨u,_,rfl,aw.of aa,rfl,_,_,rfl,_,_,rfl,rfl,?_⟩
    refine⟨_,rfl,_,rfl,rfl,_,rfl,?_⟩
    have hn:=mw (w:=w) hx hk
    by_cases hkw:k=w
    ·rw [if_pos hkw] at hn
     refine bH (decide_eq_true (congrArg V.str hkw)) ?_
     refine⟨_,rfl,su _ _ ha,_,_,rfl,hn.symm,aa,?_,?_⟩
     ·rw [ae (bF hp4 ha (by intro z;cases z))]
      exact su _ _ hp4
     ·exact (s4.trans su).put (sp.free na)
    ·rw [if_neg hkw,List.append_nil] at hn
     refine aM (decide_eq_false fun z=>hkw (V.str.inj z)) ?_
     exact⟨_,_,rfl,hn.symm,su _ _ ha,su _ _ hp4,s4.trans su⟩
   ·rintro zs τ H4 ⟨c1,c2,rfl,rfl,ha,hp4,s4⟩
    rw [m7] at ha
    exact q acc H4 ha s4
theorem mF {f:Addr} {fd:FuncData} (F:dh K "ways_on" "ways_on" dX f fd) (Z:Bl mg) {aE s0 s1 s2 s3:Addr} (GE:mx K mg aE s0 s1 s2 s3) (O_parts_of_kind:Own P w K mg base "parts_of_kind" 1 ["thing", "kinds", "wanted"] (jl K)):bC P w K mg base cJ 3 f fd ["end"] kq:=by
 refine F.ok (k:=2) mE (fun vs H Q E h=>?_) (fun cdv A outer s H vs Q E hr h=>?_)
 ·obtain⟨ea,e,rfl,_⟩:=h
  rfl
 ·obtain⟨ea,e,rfl,he,q⟩:=h
  refine⟨_,(ao (aP (bA bB rfl Z.tuple cN (U (ay O_parts_of_kind (hr.mono (by decide)) rfl (U (pv 0) (U (pN GE.tab rfl (aH bJ (pv 0) ai (fun _ _=>rfl)) (fun _ _=>rfl)) (U aK ab)))) ab)))),?_⟩
  obtain⟨xs,ev,hl,hp⟩:=m9 e
  rw [ev] at he
  obtain⟨s,hs,ks⟩:=GE.at_ e
  refine⟨_,rfl,_,rfl,ea,_,0,_,rfl,rfl,aw.of he,dP,_,s,rfl,hs,ea,s,_,xs,kE e, "piece",rfl,he,.inr ks,hl,fun l H1 hl1 s1=>?_⟩
  rw [hp] at hl1
  exact⟨l,_,rfl,.inl ⟨au.of hl1,fun t ht=>q t _ aa (s1.trans (ah.new ht))⟩⟩
theorem kX {f:Addr} {fd:FuncData} (F:dh K "asked_by" "asked_by" du f fd) (Z:Bl mg)  : bC P w K mg base cJ 1 f fd ["end"] gX:=by
 refine F.ok (k:=0) kW (fun vs H Q E h=>?_) (fun cdv A outer s H vs Q E hr h=>?_)
 ·obtain⟨ea,e,rfl,_⟩:=h
  rfl
 ·obtain⟨ea,e,rfl,he,q⟩:=h
  refine⟨_,(ao (aP (nG (aI jB (aH bJ (pv 0) ai (fun _ _=>rfl)) (cD (U aK (U aK ab))) (by with_unfolding_all rfl)) (bu (U (aH bJ (pv 0) ai (fun _ _=>rfl)) ab)) (bu ab)))),?_⟩
  cases e with
  | stop =>
   refine⟨_,rfl,ea,_,0,_,rfl,rfl,aw.of he,dP,ln2,fun p1 np=>?_⟩
   have sp:=ah.new (o:=.tup [.str "less",.str "is"]) np
   refine⟨p1,_,rfl,.inr (aw.of aa),rfl,rfl,_,rfl,?_⟩
   refine aM (by decide) ?_
   exact⟨(by show 0<=sizeLine;decide),fun l nl=>q l _ aa (sp.free nl) (sp.trans (ah.new nl))⟩
  | go p =>
   refine⟨_,rfl,ea,_,0,_,rfl,rfl,aw.of he,dP,ln2,fun p1 np=>?_⟩
   have sp:=ah.new (o:=.tup [.str "less",.str "is"]) np
   refine⟨p1,_,rfl,.inr (aw.of aa),rfl,rfl,_,rfl,?_⟩
   refine aM (by decide) ?_
   exact⟨(by show 0<=sizeLine;decide),fun l nl=>q l _ aa (sp.free nl) (sp.trans (ah.new nl))⟩
  | d4 b x n p p2 =>
   refine⟨_,rfl,ea,_,0,_,rfl,rfl,aw.of he,dP,ln2,fun p1 np=>?_⟩
   have sp:=ah.new (o:=.tup [.str "less",.str "is"]) np
   refine⟨p1,_,rfl,.inr (aw.of aa),rfl,rfl,_,rfl,?_⟩
   refine bH (by cases b <;> decide) ?_
   exact⟨_,rfl,ea,_,1,_,rfl,rfl,aw.of (sp _ _ he),eU,oT,fun l nl=>q l _ aa (sp.free nl) (sp.trans (ah.new nl))⟩
theorem nz {f:Addr} {fd:FuncData} (F:dh K "traced" "traced" eu f fd) (Z:Bl mg) (O_asked_by:Own P w K mg base "asked_by" 1 ["end"] gX):bC P w K mg base cJ 3 f fd ["piece"] iA:=by
  refine F.ok (k:=2) dt (fun vs H Q E h=>?_) (fun cdv A outer s H vs Q E hr h=>?_)
  · obtain⟨pc,da,ea,ws,ds,e,rfl,_⟩:=h
    rfl
  · obtain⟨pc,da,ea,ws,ds,e,rfl,hpc,hda,hws,hea,hdl,q⟩:=h
    refine⟨_,(af (fc (pv 0) (eF rfl (bo (ax (i:=1) dt.nd rfl (Or.inl rfl)) (bo (ax (i:=2) dt.nd rfl (Or.inl rfl)) dN))))
      (af (aD (i:=3) dt.nd rfl (Or.inr rfl) nY)
      (af (aD (i:=4) dt.nd rfl (Or.inl rfl) (bu ab))
      (af (dm PassesOwn.never rfl (fe (pv 1)) (ax (i:=5) dt.nd rfl (Or.inl rfl))
      (af (ql (i:=6) (j:=7) rfl dt.nd rfl rfl (by decide) rfl rfl (U (aH bJ (pv 5) ai (fun _ _=>rfl)) (U (aH bJ (pv 5) ai (fun _ _=>rfl)) ab)) rfl)
      (ao (bV (aI cL (pv 6) aK (ba _))
      (ao (cS (dJ PySem.F.plainAttrs_list PySem.F.slot_list_append PySem.F.type_list_append bX (pv 4) (U (eO (eV hr) (pv 3) (pv 7) (pv 7) ⟨rfl,rfl,rfl,rfl⟩) ab))))
      (ao (bV (aI cL (pv 6) aK (ba _))
      (ao (jh (eV hr) (pv 3) (pv 7) (eO (eV hr) (pv 3) (aH bJ (pv 5) ai (fun _ _=>rfl)) (aH bJ (pv 5) ai (fun _ _=>rfl)) ⟨rfl,rfl,rfl,rfl⟩) rfl))
      (ao (bV (aI ma (pv 6) aK (ba _))
      (ao (jh (eV hr) (pv 3) (pv 7) qg rfl))
      bp))))))))
      (af (cS (dJ PySem.F.plainAttrs_list PySem.F.slot_list_extend PySem.F.type_list_extend jC (pv 4) (U (cg ["name"] ["sources"] [3] rfl (cB (ay O_asked_by (hr.mono (by decide)) rfl (U (pv 2) ab))) rfl (by decide +kernel) (by decide +kernel) (by decide +kernel) ⟨⟨rfl,.inl rfl,rfl⟩,True.intro⟩ (fun _ _ _ _=>(ax (i:=0) (show ((["name"]:List Str)++(["sources"]:List Str)).Nodup by decide +kernel) rfl (Or.inl rfl) (hf:=Or.inr rfl))) (fun _ _ _ _=>bZ) (fun _ _ _ _=>(eO (eV hr) (pv 1) (pv 0) (pv 0) ⟨rfl,rfl,rfl,rfl⟩))) ab)))
      (ao (aP (cD (U (pv 3) (U (cg ["name"] [] [] rfl (cB (pv 4)) rfl (by decide +kernel) (by decide +kernel) (by decide +kernel) True.intro (fun _ _ _ _=>(ax (i:=0) (show ((["name"]:List Str)++([]:List Str)).Nodup by decide +kernel) rfl (Or.inl rfl) (hf:=Or.inr rfl))) (fun _ _ _ _=>(e6 (jZ (lr (pv 0))))) (fun _ _ _ _=>(pv 0))) ab)))))))))),?_⟩
    have hwl:ws.length=ds.length:=by rw [hws.len,List.length_map]
    refine⟨_,rfl,pc,_,rfl,aw.of hpc,rfl,_,_,rfl,_,_,rfl,rfl,?_⟩
    refine fun d nd=>?_
    refine⟨(by show 0<=sizeLine;decide),fun l nl=>?_⟩
    have s1:ah H (upd (upd H d (.dK [])) l (.lst [])):=(ah.new nd).trans (ah.new nl)
    have nld:d ≠ l:=fun z=>by rw [<-z,aa] at nl;cases nl
    have nl0:H l=none:=(ah.new nd).free nl
    refine⟨_,rfl,da,rfl,⟨_,aw.of (s1 _ _ hda)⟩,?_⟩
    refine hG (K:=K) (a:=da) (xs:=ws) (fun i σ H'=>∃ kvs c5 c6 c7,σ = [some (.ref pc),some (.ref da),some (.ref ea),some (.ref d),some (.ref l),c5,c6,c7]/\H' d=some (.dK kvs)/\SrcAt kvs (bS (ds.take i)).1/\H' l=some (.lst ((bS (ds.take i)).2.map oS))/\kvs.length<=i/\ah H H') ?_ ?_ ?_ ?_
    · exact⟨[],none,none,none,rfl,(by rw [ae nld,aa]),SrcAt.nil,aa,Nat.le_refl _,s1⟩
    · rintro i σ H2 hi ⟨kvs,c5,c6,c7,rfl,h1,h2,h3,h4,h5⟩
      exact aw.of (h5 _ _ hda)
    · rintro i x σ H2 hx ⟨kvs,c5,c6,c7,rfl,h1,h2,h3,h4,h5⟩
      have hwd:=hws.len
      have hi:i < ds.length:=by
        have:=(List.getElem?_eq_some_iff.mp hx).1
        omega
      have hdd:ds[i]? = some ds[i]:=by simp [hi]
      generalize ds[i] = dd at hdd
      have ht:=oo hdd
      obtain⟨v,hv,rd⟩:=hws.get (i:=i) (d:=cq dd) (by rw [List.getElem?_map,hdd];rfl)
      rw [hx] at hv
      cases hv
      obtain⟨dp,rfl,hdp0⟩:=lN rd
      have hdp:=h5 _ _ hdp0
      have ndl:=ky ds i
      generalize bS (ds.take i)=S at h2 h3 ht ndl
      cases dd
      case put x n =>
        refine⟨_,rfl,dp,_,0,_,rfl,rfl,aw.of hdp,dP,_,rfl,dp,_,1,_,rfl,rfl,aw.of hdp,eU,_,_,rfl,?_⟩
        refine⟨_,rfl,rfl,_,rfl,?_⟩
        refine aM (show decide (V.str "put" = V.str "tell")=false by decide +kernel) ?_
        refine⟨_,rfl,rfl,_,rfl,?_⟩
        refine aM (show decide (V.str "put" = V.str "copy")=false by decide +kernel) ?_
        refine⟨_,rfl,rfl,_,rfl,?_⟩
        refine bH (show (!decide (V.str "put" = V.str "add"))=true by decide +kernel) ?_
        refine⟨_,rfl,_,rfl,d,_,rfl,gU.k (k:=Sum.inr x) h1 (aB (by omega)),?_⟩
        refine⟨putK kvs (Sum.inr x) (oS none),_,_,_,rfl,aa,(by rw [ht];exact h2.put x none),?_,?_,h5.put nd⟩
        · rw [ae nld.symm,h3,ht];simp [iq,d8]
        · have:=cw kvs (Sum.inr x:Key) (oS none);omega
      case copy x y =>
        refine⟨_,rfl,dp,_,0,_,rfl,rfl,aw.of hdp,dP,_,rfl,dp,_,1,_,rfl,rfl,aw.of hdp,eU,_,_,rfl,?_⟩
        refine⟨_,rfl,rfl,_,rfl,?_⟩
        refine aM (show decide (V.str "copy" = V.str "tell")=false by decide +kernel) ?_
        refine⟨_,rfl,rfl,_,rfl,?_⟩
        refine bH (show decide (V.str "copy" = V.str "copy")=true by decide +kernel) ?_
        refine⟨_,rfl,d,rfl,.inl ⟨kvs,.inl h1⟩,_,rfl,dp,_,2,_,rfl,rfl,aw.of hdp,at2,_,rfl,dp,_,2,_,rfl,rfl,aw.of hdp,at2,_,_,eS.k (k:=Sum.inr y) h1,h2 y,_,rfl,_,rfl,d,_,rfl,gU.k (k:=Sum.inr x) h1 (aB (by omega)),?_⟩
        refine⟨putK kvs (Sum.inr x) (oS (S.1 y)),_,_,_,rfl,aa,(by rw [ht];exact h2.put x (S.1 y)),?_,?_,h5.put nd⟩
        · rw [ae nld.symm,h3,ht];simp [iq,d8]
        · have:=cw kvs (Sum.inr x:Key) (oS (S.1 y));omega
      case add x n =>
        refine⟨_,rfl,dp,_,0,_,rfl,rfl,aw.of hdp,dP,_,rfl,dp,_,1,_,rfl,rfl,aw.of hdp,eU,_,_,rfl,?_⟩
        refine⟨_,rfl,rfl,_,rfl,?_⟩
        refine aM (show decide (V.str "add" = V.str "tell")=false by decide +kernel) ?_
        refine⟨_,rfl,rfl,_,rfl,?_⟩
        refine aM (show decide (V.str "add" = V.str "copy")=false by decide +kernel) ?_
        refine⟨_,rfl,rfl,_,rfl,?_⟩
        refine aM (show (!decide (V.str "add" = V.str "add"))=false by decide +kernel) ?_
        refine⟨kvs,_,_,_,rfl,h1,(by rw [ht];exact h2),?_,Nat.le_succ_of_le h4,h5⟩
        rw [h3,ht];simp [iq,d8]
      case read x =>
        refine⟨_,rfl,dp,_,0,_,rfl,rfl,aw.of hdp,dP,_,rfl,dp,_,1,_,rfl,rfl,aw.of hdp,eU,_,_,rfl,?_⟩
        refine⟨_,rfl,rfl,_,rfl,?_⟩
        refine aM (show decide (V.str "read" = V.str "tell")=false by decide +kernel) ?_
        refine⟨_,rfl,rfl,_,rfl,?_⟩
        refine aM (show decide (V.str "read" = V.str "copy")=false by decide +kernel) ?_
        refine⟨_,rfl,rfl,_,rfl,?_⟩
        refine bH (show (!decide (V.str "read" = V.str "add"))=true by decide +kernel) ?_
        refine⟨_,rfl,_,rfl,d,_,rfl,gU.k (k:=Sum.inr x) h1 (aB (by omega)),?_⟩
        refine⟨putK kvs (Sum.inr x) (oS none),_,_,_,rfl,aa,(by rw [ht];exact h2.put x none),?_,?_,h5.put nd⟩
        · rw [ae nld.symm,h3,ht];simp [iq,d8]
        · have:=cw kvs (Sum.inr x:Key) (oS none);omega
      case tell x =>
        refine⟨_,rfl,dp,_,0,_,rfl,rfl,aw.of hdp,dP,_,rfl,dp,_,1,_,rfl,rfl,aw.of hdp,eU,_,_,rfl,?_⟩
        refine⟨_,rfl,rfl,_,rfl,?_⟩
        refine bH (show decide (V.str "tell" = V.str "tell")=true by decide +kernel) ?_
        refine⟨_,rfl,.inl ⟨rfl,_,au.of h3⟩,_,rfl,d,rfl,.inl ⟨kvs,.inl h1⟩,_,rfl,_,rfl,_,_,eS.k (k:=Sum.inr x) h1,h2 x,l,_,_,rfl,rfl,h3,aB (by rw [List.length_map];omega),?_⟩
        refine⟨kvs,_,_,_,rfl,(by rw [ae nld];exact h1),(by rw [ht];exact h2),?_,Nat.le_succ_of_le h4,h5.put nl0⟩
        rw [aa,ht];simp [iq,d8]
    · rintro σ H2 ⟨kvs,c5,c6,c7,rfl,h1,h2,h3,h4,h5⟩
      have hsl:=jo ds
      rw [hwl,List.take_of_length_le (Nat.le_refl _)] at h2 h3
      refine⟨_,rfl,.inl ⟨rfl,_,au.of h3⟩,?_⟩
      refine⟨_,rfl,ea,e,rfl,h5 _ _ hea,fun l2 H3 hl2 nl2 s3=>?_⟩
      refine⟨l2,rfl,⟨_,au.of hl2⟩,fun acc na=>?_⟩
      have h1':=s3 _ _ h1
      have h3':=s3 _ _ h3
      refine cT (K:=K) (a:=l2) (xs:=(bf e).map V.str) (fun i zs τ H'=>∃ c1,τ = [c1,some (.ref d)]/\zs=(((bf e).take i).map (cx ds)).map oS/\H' acc=some (.lst zs)/\ah H3 H') ?_ ?_ ?_ ?_
      · exact⟨none,rfl,rfl,aa,ah.new na⟩
      · rintro i zs τ H4 hi ⟨c1,rfl,rfl,ha,s4⟩
        exact⟨au.of (s4 _ _ hl2),ha,aB (by have:(bf e).length<=1:=(by cases e <;> simp [bf]);simp;omega)⟩
      · rintro i x zs τ H4 hx ⟨c1,rfl,rfl,ha,s4⟩
        rw [List.getElem?_map] at hx
        cases hn:(bf e)[i]? with
        | none=>rw [hn] at hx;cases hx
        | some y =>
          rw [hn] at hx
          cases hx
          change ∃ v,_/\_
          refine⟨_,rfl,d,rfl,.inl ⟨kvs,.inl (s4 _ _ h1')⟩,_,rfl,_,rfl,_,_,eS.k (k:=Sum.inr y) (s4 _ _ h1'),h2 y,ha,?_⟩
          refine⟨_,rfl,?_,aa,s4.put na⟩
          rw [List.take_add_one,hn]
          simp [cx]
      · rintro zs τ H4 ⟨c1,rfl,rfl,ha,s4⟩
        have s34:=s3.trans s4
        have nacc:H2 acc=none:=s3.free na
        have nla:l ≠ acc:=fun z=>by rw [z,nacc] at h3;cases h3
        have nda:d ≠ acc:=fun z=>by rw [z,nacc] at h1;cases h1
        have ea1:(((bf e).take ((bf e).map V.str).length).map (cx ds))=(bf e).map (cx ds):=by rw [List.length_map,List.take_of_length_le (Nat.le_refl _)]
        rw [ea1] at ha
        have hel:(bf e).length<=1:=by cases e <;> simp [bf]
        refine⟨l,acc,_,_,rfl,rfl,s34 _ _ h3,ha,Nat.le_of_lt (aB (by simp;omega)),?_⟩
        rw [<-List.map_append]
        have es:df (ds,e)=((bS ds).2++(bf e).map (cx ds)).filterMap id:=rfl
        have hal:((bS ds).2++(bf e).map (cx ds)).length<=501:=by rw [List.length_append,List.length_map];omega
        generalize ((bS ds).2++(bf e).map (cx ds))=os at es hal
        have hl5:(upd H4 l (.lst (os.map oS))) l=some (.lst (os.map oS)):=aa
        have hd5:(upd H4 l (.lst (os.map oS))) d=some (.dK kvs):=by rw [ae nld];exact s34 _ _ h1
        have s5:ah H (upd H4 l (.lst (os.map oS))):=(h5.trans s34).put nl0
        generalize (upd H4 l (.lst (os.map oS)))=H5 at hl5 hd5 s5
        refine⟨_,rfl,_,rfl,l,rfl,⟨_,au.of hl5⟩,fun acc2 na2=>?_⟩
        refine cT (K:=K) (a:=l) (xs:=os.map oS) (fun i zs τ H'=>∃ c1,τ = [c1]/\zs=((os.take i).filterMap id).map V.str/\H' acc2=some (.lst zs)/\ah H5 H') ?_ ?_ ?_ ?_
        · exact⟨none,rfl,rfl,aa,ah.new na2⟩
        · rintro i zs τ H6 hi ⟨c1,rfl,rfl,ha,s6⟩
          refine⟨au.of (s6 _ _ hl5),ha,aB ?_⟩
          have:((os.take i).filterMap id).length<=(os.take i).length:=List.length_filterMap_le _ _
          rw [List.length_map]
          rw [List.length_take] at this
          omega
        · rintro i x zs τ H6 hx ⟨c1,rfl,rfl,ha,s6⟩
          rw [List.getElem?_map] at hx
          cases hn:os[i]? with
          | none=>rw [hn] at hx;cases hx
          | some o =>
            rw [hn] at hx
            cases hx
            cases o with
            | none =>
              refine⟨_,rfl,_,rfl,?_⟩
              refine aM (by decide) ?_
              refine⟨_,rfl,?_,ha,s6⟩
              rw [List.take_add_one,hn]
              simp
            | some y =>
              refine⟨_,rfl,_,rfl,?_⟩
              refine bH (by simp [oS]) ?_
              refine⟨_,rfl,ha,_,rfl,?_,aa,s6.put na2⟩
              rw [List.take_add_one,hn]
              simp [oS]
        · rintro zs τ H6 ⟨c1,rfl,rfl,ha,s6⟩
          rw [List.length_map,List.take_of_length_le (Nat.le_refl _),<-es] at ha
          refine⟨ln2,fun t nt=>?_⟩
          have sf:=s6.trans (ah.new (o:=.tup [.ref d,.ref acc2]) nt)
          exact q t d acc2 kvs _ aa (sf _ _ hd5) h2 (ah.new nt _ _ ha) ((s5.trans s6).free nt) nd (s5.free na2) (s5.trans sf)
theorem kM {f:Addr} {fd:FuncData} (F:dh K "ways_back" "ways_back" cV f fd) (Z:Bl mg) (O_ways_on:Own P w K mg base "ways_on" 3 ["end"] kq):bC P w K mg base cJ 4 f fd ["plan"] kA:=by
  refine F.ok (k:=3) cF (fun vs H Q E h=>?_) (fun cdv A outer s H vs Q E hr h=>?_)
  · obtain⟨plv,ps,rfl,_⟩:=h
    rfl
  · obtain⟨plv,ps,rfl,hp,hin,hpl,q⟩:=h
    refine⟨_,(af (fq (i:=1) ["piece"] [] [] rfl cF.nd rfl rfl rfl (fe (pv 0)) rfl (by decide +kernel) (by decide +kernel) (by decide +kernel) True.intro (fun _ _ _ _=>(ax (i:=0) (show ((["piece"]:List Str)++([]:List Str)).Nodup by decide +kernel) rfl (Or.inl rfl) (hf:=Or.inr rfl))) (fun _ _ _ _=>bZ) (fun _ _ _ _=>(bu ab)))
      (af (dm PassesOwn.never rfl (lR rfl Z.enumerate (U (pv 0) ab)) (eF rfl (bo (ax (i:=2) cF.nd rfl (Or.inl rfl)) (bo (eF rfl (bo (ax (i:=3) cF.nd rfl (Or.inl rfl)) (bo (ax (i:=4) cF.nd rfl (Or.inl rfl)) dN))) dN)))
      (ao (dm PassesOwn.never rfl (fe (ay O_ways_on (hr.mono (by decide)) rfl (U (pv 4) ab))) (ax (i:=5) cF.nd rfl (Or.inl rfl))
      (ao (cS (dJ PySem.F.plainAttrs_list PySem.F.slot_list_append PySem.F.type_list_append bX (aH aW (pv 1) (pv 5) (fun _ _=>rfl)) (U (pv 2) ab)))))))
      (ao (aP (pv 1))))),?_⟩
    obtain⟨p,xs,rfl,e1,rp⟩:=aR.cU hp
    have hxl:xs.length=ps.length:=by rw [rp.len,List.length_map]
    refine⟨_,rfl,p,rfl,⟨_,aw.of e1⟩,fun acc na=>?_⟩
    refine ka (K:=K) (a:=p) (xs:=xs) (fun i zs τ H'=>∃ (c1:Option V) (rs:List Addr),τ = [c1]/\zs=rs.map V.ref/\H' acc=some (.lst zs)/\rs.length=i/\rs.Nodup/\(∀ r ∈ rs,H' r=some (.lst []))/\(∀ r ∈ rs,H r=none)/\acc ∉ rs/\ah H H') ?_ ?_ ?_ ?_
    · exact⟨none,[],rfl,rfl,aa,rfl,List.nodup_nil,(by simp),(by simp),(by simp),ah.new na⟩
    · rintro i zs τ H2 hi ⟨c1,rs,rfl,rfl,h1,h2,h3,h4,h5,h6,h7⟩
      exact⟨aw.of (h7 _ _ e1),h1,aB (by rw [List.length_map];omega)⟩
    · rintro i x zs τ H2 hx ⟨c1,rs,rfl,rfl,h1,h2,h3,h4,h5,h6,h7⟩
      change _<=sizeLine/\_
      refine⟨(by show 0<=sizeLine;decide),fun r nr=>?_⟩
      have s1:=ah.new (o:=.lst []) nr
      have nra:acc ≠ r:=fun z=>by rw [z,nr] at h1;cases h1
      refine⟨s1 _ _ h1,_,rs ++ [r],rfl,(by simp),aa,(by simp [h2]),?_,?_,?_,?_,(h7.trans s1).put na⟩
      · rw [List.nodup_append]
        refine⟨h3,by simp,fun a ha b hb z=>?_⟩
        rw [List.mem_singleton] at hb
        subst hb;subst z
        have:=h4 _ ha
        rw [nr] at this;cases this
      · intro r' hr'
        rcases List.mem_append.mp hr' with h | h
        · rw [ae (show r' ≠ acc from fun z=>h6 (by rw [<-z];exact h))];exact s1 _ _ (h4 _ h)
        · rw [List.mem_singleton.mp h,ae nra.symm,aa]
      · intro r' hr'
        rcases List.mem_append.mp hr' with h | h
        · exact h5 _ h
        · rw [List.mem_singleton.mp h];exact h7.free nr
      · intro z
        rcases List.mem_append.mp z with h | h
        · exact h6 h
        · exact nra (List.mem_singleton.mp h)
    · rintro zs τ H2 ⟨c1,rs,rfl,rfl,h1,h2,h3,h4,h5,h6,h7⟩
      rw [hxl] at h2
      have T0:dg H2 acc rs ((List.replicate ps.length ([]:List Nat)).map oN):=by
        refine⟨h1,fun k r o g1 g2=>?_,by simp [h2],h3,h6⟩
        rw [List.getElem?_map,List.getElem?_replicate] at g2
        split at g2
        · cases g2;exact h4 _ (List.mem_of_getElem? g1)
        · cases g2
      refine⟨_,rfl,p,rfl,.inl ⟨⟨_,aw.of (h7 _ _ e1)⟩,?_⟩⟩
      refine om (xs:=xs) (fun i σ H'=>∃ (bs:List (List Nat)) (c1 c2 c3 c4:Option V),σ = [some (.ref p),some (.ref acc),c1,c2,c3,c4]/\dg H' acc rs (bs.map oN)/\bs.length=ps.length/\(∀ (k:Nat) (b:List Nat),bs[k]? = some b->Back ps i k b)/\ah H H') ?_ ?_ ?_ ?_
      · refine⟨_,none,none,none,none,rfl,T0,by simp,fun k b hb=>?_,h7⟩
        rw [List.getElem?_replicate] at hb
        split at hb
        · cases hb;exact⟨Nat.zero_le _,by simp⟩
        · cases hb
      · rintro i σ H3 hi ⟨bs,c1,c2,c3,c4,rfl,T,hb,hB,s3⟩
        exact aw.of (s3 _ _ e1)
      · rintro i x σ H3 t hx ht ⟨bs,c1,c2,c3,c4,rfl,T,hb,hB,s3⟩
        have hi:i < ps.length:=by
          have:=(List.getElem?_eq_some_iff.mp hx).1
          omega
        have hpp:ps[i]? = some ps[i]:=by simp [hi]
        generalize hpe:ps[i] = pe at hpp
        obtain⟨ds,e⟩:=pe
        obtain⟨p',xs',pc,da,ea,vs,hpv,e1',el,hx',e2,e3,r3,e4⟩:=gr hp hpp
        cases hpv
        rw [e1] at e1'
        cases e1'
        rw [hx] at hx'
        cases hx'
        have st:=ah.new (o:=.tup [.int (i:Nat),.ref pc]) ht
        have s3t:=s3.trans st
        refine⟨t,_,rfl,aw.of aa,rfl,_,_,rfl,_,_,rfl,pc,_,rfl,aw.of (s3t _ _ e2),rfl,_,_,rfl,_,_,rfl,rfl,rfl,?_⟩
        refine⟨_,rfl,ea,e,rfl,s3t _ _ e4,fun wt H4 hwt s4=>?_⟩
        refine⟨wt,rfl,⟨_,aw.of hwt⟩,?_⟩
        have T4:=(T.same st).same s4
        have hwin:=kB hin hpp
        refine hG (K:=K) (a:=wt) (xs:=vN (aU e)) (fun j σ H'=>∃ (bs':List (List Nat)) (c:Option V),σ = [some (.ref p),some (.ref acc),some (.int (i:Nat)),some (.ref da),some (.ref ea),c]/\dg H' acc rs (bs'.map oN)/\bs'.length=ps.length /\
          (∀ (k:Nat) (b':List Nat),bs'[k]? = some b'->∃ b,bs[k]? = some b/\b' = b++List.replicate (((aU e).take j).count k) i)/\H' wt=some (.tup (vN (aU e)))/\ah H H') ?_ ?_ ?_ ?_
        · exact⟨bs,c4,rfl,T4,hb,fun k b' h=>⟨b',h,by simp⟩,hwt,s3t.trans s4⟩
        · rintro j σ H5 hj ⟨bs',c,rfl,T5,hb5,hB5,hw5,s5⟩
          exact aw.of hw5
        · rintro j y σ H5 hy ⟨bs',c,rfl,T5,hb5,hB5,hw5,s5⟩
          rw [List.getElem?_map] at hy
          cases hwj:(aU e)[j]? with
          | none=>rw [hwj] at hy;cases hy
          | some k =>
            rw [hwj] at hy
            cases hy
            have hk:k < bs'.length:=by rw [hb5];exact hwin k (List.mem_of_getElem? hwj)
            have hbk:bs'[k]? = some bs'[k]:=by simp [hk]
            generalize bs'[k] = bk at hbk
            obtain⟨r,hr,hro,hrv⟩:=T5.get (k:=k) (o:=oN bk) (by rw [List.getElem?_map,hbk];rfl)
            obtain⟨b0,hb0,eb0⟩:=hB5 k bk hbk
            have hB0:=hB k b0 hb0
            have hlen:bk.length<=5000:=by
              have h1:=hB0.1
              have h2:((aU e).take j).count k<=(aU e).length:=Nat.le_trans List.count_le_length (by rw [List.length_take];exact Nat.min_le_right _ _)
              have h3:=gY e
              rw [eb0,List.length_append,List.length_replicate]
              omega
            refine⟨_,rfl,_,rfl,acc,_,_,_,rfl,rfl,au.of T5.lst,bg hrv,.inl ⟨rfl,_,au.of hro⟩,_,rfl,r,_,_,rfl,rfl,hro,aB (by rw [List.length_map];omega),?_⟩
            have hnw:r ≠ wt:=bF hro hw5 (by intro z;cases z)
            refine⟨bs'.set k (bk ++ [i]),_,rfl,?_,(by rw [List.length_set];exact hb5),?_,(by rw [ae hnw.symm];exact hw5),s5.put (h5 _ (List.mem_of_getElem? hr))⟩
            · have:=T5.put (o':=oN (bk ++ [i])) hr
              rw [List.map_set]
              have e:oN (bk ++ [i])=.lst (vN bk ++ [.int (i:Nat)]):=by simp [oN]
              rw [e] at this ⊢
              exact this
            · intro k' b' hb'
              rw [List.take_add_one,hwj]
              by_cases ek:k' = k
              · subst ek
                rw [List.getElem?_set_self hk] at hb'
                cases hb'
                refine⟨b0,hb0,?_⟩
                rw [eb0,List.append_assoc]
                congr 1
                simp [List.count_append,List.replicate_succ']
              · rw [List.getElem?_set_ne (Ne.symm ek)] at hb'
                obtain⟨b,g1,g2⟩:=hB5 k' b' hb'
                refine⟨b,g1,?_⟩
                rw [g2]
                simp [List.count_append,List.count_cons,Ne.symm ek]
        · rintro σ H5 ⟨bs',c,rfl,T5,hb5,hB5,hw5,s5⟩
          refine⟨bs',_,_,_,_,rfl,T5,hb5,fun k b' hb'=>?_,s5⟩
          obtain⟨b,g1,g2⟩:=hB5 k b' hb'
          rw [List.length_map,List.take_of_length_le (Nat.le_refl _)] at g2
          obtain⟨q1,q2⟩:=hB k b g1
          have hc2:(aU e).count k<=(aU e).length:=List.count_le_length
          have hw2:=gY e
          refine⟨by rw [g2,List.length_append,List.length_replicate];omega,fun a=>?_⟩
          rw [g2,List.mem_append,q2 a]
          constructor
          · rintro (⟨h1,h2⟩ | h)
            · exact⟨Nat.lt_succ_of_lt h1,h2⟩
            · have ha:=(List.mem_replicate.mp h)
              have:a=i:=ha.2
              subst this
              exact⟨Nat.lt_succ_self _,_,hpp,List.count_pos_iff.mp (Nat.pos_of_ne_zero ha.1)⟩
          · rintro⟨h1,pp,h2,h3⟩
            by_cases ea:a=i
            · subst ea
              rw [hpp] at h2
              cases h2
              exact .inr (List.mem_replicate.mpr ⟨Nat.ne_of_gt (List.count_pos_iff.mpr h3),rfl⟩)
            · exact .inl ⟨by omega,pp,h2,h3⟩
      · rintro σ H3 ⟨bs,c1,c2,c3,c4,rfl,T,hb,hB,s3⟩
        rw [hxl] at hB
        exact⟨_,rfl,q acc rs bs H3 T hb hB na h5 s3⟩
theorem p5 {f:Addr} {fd:FuncData} (F:dh K "live" "live" fZ f fd) (Z:Bl mg) (O_traced:Own P w K mg base "traced" 3 ["piece"] iA) (O_ways_back:Own P w K mg base "ways_back" 4 ["plan"] kA):bC P w K mg base cJ 5 f fd ["plan"] kG:=by
  refine F.ok (k:=4) dz (fun vs H Q E h=>?_) (fun cdv A outer s H vs Q E hr h=>?_)
  · obtain⟨plv,ps,pool,mm,rfl,_⟩:=h
    rfl
  · obtain⟨plv,ps,pool,mm,rfl,hp,ok,hmm,h64,hpl,q⟩:=h
    refine⟨_,(af (fq (i:=1) ["piece"] [] [] rfl dz.nd rfl rfl rfl (fe (pv 0)) rfl (by decide +kernel) (by decide +kernel) (by decide +kernel) True.intro (fun _ _ _ _=>(ax (i:=0) (show ((["piece"]:List Str)++([]:List Str)).Nodup by decide +kernel) rfl (Or.inl rfl) (hf:=Or.inr rfl))) (fun _ _ _ _=>bZ) (fun _ _ _ _=>(ay O_traced (hr.mono (by decide)) rfl (U (pv 0) ab))))
      (af (aD (i:=2) dz.nd rfl (Or.inl rfl) (ay O_ways_back (hr.mono (by decide)) rfl (U (pv 0) ab)))
      (af (fq (i:=3) ["sources", "asked"] [] [] rfl dz.nd rfl rfl rfl (cB (pv 1)) rfl (by decide +kernel) (by decide +kernel) (by decide +kernel) True.intro (fun _ _ _ _=>(je (K:=K) (n:=2) rfl (eF (n:=2) rfl (bo (ax (i:=0) (show ((["sources", "asked"]:List Str)++([]:List Str)).Nodup by decide +kernel) rfl (Or.inl rfl) (hf:=Or.inr rfl)) (bo (ax (i:=1) (show ((["sources", "asked"]:List Str)++([]:List Str)).Nodup by decide +kernel) rfl (Or.inl rfl) (hf:=Or.inr rfl)) dN))))) (fun _ _ _ _=>bZ) (fun _ _ _ _=>(oi ["name"] [] [] rfl ((ow (K:=K) rfl) (pv 1)) rfl (by decide +kernel) (by decide +kernel) (by decide +kernel) True.intro (fun _ _ _ _=>(ax (i:=0) (show ((["name"]:List Str)++([]:List Str)).Nodup by decide +kernel) rfl (Or.inl rfl) (hf:=Or.inr rfl))) (fun _ _ _ _=>bZ) (fun _ _ _ _=>(pv 0)) (fun _ _ _ _=>iI))))
      (af (nh (i:=4) ["at", "names", "name"] [] [] rfl dz.nd rfl rfl rfl (lR rfl Z.enumerate (U (pv 3) ab)) rfl (by decide +kernel) (by decide +kernel) (by decide +kernel) True.intro (fun _ _ _ _=>(je (K:=K) (n:=2) rfl (eF (n:=2) rfl (bo (ax (i:=0) (show ((["at", "names", "name"]:List Str)++([]:List Str)).Nodup by decide +kernel) rfl (Or.inl rfl) (hf:=Or.inr rfl)) (bo (ax (i:=1) (show ((["at", "names", "name"]:List Str)++([]:List Str)).Nodup by decide +kernel) rfl (Or.inl rfl) (hf:=Or.inr rfl)) dN))))) (fun _ _ _ _=>bZ) (fun _ _ _ _ _=>pQ rfl rfl (pv 1) (ax (i:=2) (show ((["at", "names", "name"]:List Str)++([]:List Str)).Nodup by decide +kernel) rfl (Or.inl rfl) (hf:=Or.inr rfl)) bZ (cD (U (pv 0) (U (pv 2) ab)))))
      (af (j2 PassesOwn.never (nN (pv 4) (fun _=>rfl))
      (af (fc (qG PySem.F.plainAttrs_list PySem.F.slot_list_pop PySem.F.type_list_pop qI (pv 4)) (eF rfl (bo (ax (i:=5) dz.nd rfl (Or.inl rfl)) (bo (ax (i:=6) dz.nd rfl (Or.inl rfl)) dN))))
      (ao (dm PassesOwn.never rfl (cB (aH aW (pv 2) (pv 5) (fun _ _=>rfl))) (ax (i:=7) dz.nd rfl (Or.inl rfl))
      (af (aD (i:=8) dz.nd rfl (Or.inl rfl) (eO (eV hr) (aH bJ (aH aW (pv 1) (pv 7) (fun _ _=>rfl)) ai (fun _ _=>rfl)) (pv 6) (pv 6) ⟨rfl,rfl,rfl,rfl⟩))
      (ao (bV (PW.pt (j0 (jZ (lr (pv 8))) (i8 (jZ (m5 (eV hr) (pv 8) (aH aW (pv 3) (pv 7) (fun _ _=>rfl)))))))
      (af (jh (eV hr) (aH aW (pv 3) (pv 7) (fun _ _=>rfl)) (pv 8) iI rfl)
      (ao (cS (dJ PySem.F.plainAttrs_list PySem.F.slot_list_append PySem.F.type_list_append bX (pv 4) (U (cD (U (pv 7) (U (pv 8) ab))) ab)))))
      bp)))))))
      (ao (aP (bA bB rfl Z.tuple cN (U (cg ["names"] [] [] rfl (cB (pv 3)) rfl (by decide +kernel) (by decide +kernel) (by decide +kernel) True.intro (fun _ _ _ _=>(ax (i:=0) (show ((["names"]:List Str)++([]:List Str)).Nodup by decide +kernel) rfl (Or.inl rfl) (hf:=Or.inr rfl))) (fun _ _ _ _=>bZ) (fun _ _ _ _=>(bA (fY (K:=K) rfl) rfl Z.tuple cN (U (bP (ko rfl) rfl Z.sorted gW (U (pv 0) ab)) ab)))) ab))))))))),?_⟩
    obtain⟨p,xs,rfl,e1,rp⟩:=aR.cU hp
    have hxl:xs.length=ps.length:=by rw [rp.len,List.length_map]
    have hin:=ok.km
    refine⟨_,rfl,p,rfl,⟨_,aw.of e1⟩,fun tl ntl=>?_⟩
    refine ka (K:=K) (a:=p) (xs:=xs) (fun i zs τ H'=>∃ (c1:Option V) (tts:List Addr),τ = [c1]/\zs=tts.map V.ref/\H' tl=some (.lst zs)/\tts.length=i/\(∀ (k:Nat) (tt:Addr) (pc:Piece),tts[k]? = some tt->ps[k]? = some pc->gu H' tl tt pc)/\ah H H') ?_ ?_ ?_ ?_
    · exact⟨none,[],rfl,rfl,aa,rfl,(by intro k tt pc h;simp at h),ah.new ntl⟩
    · rintro i zs τ H2 hi ⟨c1,tts,rfl,rfl,h1,h2,h3,h4⟩
      exact⟨aw.of (h4 _ _ e1),h1,aB (by rw [List.length_map];omega)⟩
    · rintro i x zs τ H2 hx ⟨c1,tts,rfl,rfl,h1,h2,h3,h4⟩
      have hi:i < ps.length:=by
        have:=(List.getElem?_eq_some_iff.mp hx).1
        omega
      have hpp:ps[i]? = some ps[i]:=by simp [hi]
      have hdl:=(ok.d6 _ (List.mem_of_getElem? hpp)).1
      generalize ps[i] = pe at hpp hdl
      obtain⟨ds,e⟩:=pe
      have hdl:ds.length<=mm:=hdl
      obtain⟨p',xs',pc,da,ea,vs,hpv,e1',el,hx',e2,e3,r3,e4⟩:=gr hp hpp
      cases hpv
      rw [e1] at e1'
      cases e1'
      rw [hx] at hx'
      cases hx'
      change ∃ v,_/\_
      refine⟨_,rfl,pc,da,ea,vs,ds,e,rfl,h4 _ _ e2,h4 _ _ e3,r3.same h4 (aZ ds),h4 _ _ e4,by omega,fun t d l kvs H3 g1 g2 g3 g4 g5 g6 g7 s3=>?_⟩
      have nl:l ≠ tl:=fun z=>by rw [z,h1] at g7;cases g7
      refine⟨s3 _ _ h1,_,tts ++ [t],rfl,(by simp),aa,(by simp [h2]),?_,(h4.trans s3).put ntl⟩
      intro k tt pc' hk hpk
      rcases Nat.lt_trichotomy k tts.length with hlt | heq | hgt
      · rw [List.getElem?_append_left hlt] at hk
        exact ((h3 k tt pc' hk hpk).same s3).acc (s3 _ _ h1) _
      · subst heq
        simp at hk
        subst hk
        rw [h2] at hpk
        rw [hpp] at hpk
        cases hpk
        exact gu.acc ⟨d,l,kvs,g1,g2,g3,g4,nl⟩ (s3 _ _ h1) _
      · rw [List.getElem?_eq_none (by simp;omega)] at hk
        cases hk
    · rintro zs τ H2 ⟨c1,tts,rfl,rfl,htl,htn,hTr,s2⟩
      rw [hxl] at htn
      refine⟨_,rfl,_,ps,rfl,hp.same s2 (fJ ps),hin,by omega,fun bl brs bs H3 B hbl hB nbl nbr s3=>?_⟩
      have hTr3:∀ (k:Nat) (tt:Addr) (pc:Piece),tts[k]? = some tt->ps[k]? = some pc->gu H3 tl tt pc:=fun k tt pc a b=>(hTr k tt pc a b).same s3
      have htl3:=s3 _ _ htl
      have sH3:=s2.trans s3
      clear hTr htl
      refine⟨_,rfl,tl,rfl,⟨_,au.of htl3⟩,fun fl nfl=>?_⟩
      refine cT (K:=K) (a:=tl) (xs:=tts.map V.ref) (fun i zs τ H'=>∃ (c1 c2:Option V) (rs:List Addr),τ = [c1,c2]/\zs=rs.map V.ref/\H' fl=some (.lst zs)/\rs.length=i/\rs.Nodup/\(∀ (k:Nat) (r:Addr) (pc:Piece),rs[k]? = some r->ps[k]? = some pc->H' r=some (oK (ef (df pc))))/\(∀ r ∈ rs,H3 r=none)/\fl ∉ rs/\ah H3 H') ?_ ?_ ?_ ?_
      · exact⟨none,none,[],rfl,rfl,aa,rfl,List.nodup_nil,(by intro k r pc h;simp at h),(by simp),(by simp),ah.new nfl⟩
      · rintro i zs τ H4 hi ⟨c1,c2,rs,rfl,rfl,h1,h2,h3,h4,h5,h6,h7⟩
        rw [List.length_map] at hi
        exact⟨au.of (h7 _ _ htl3),h1,aB (by rw [List.length_map];omega)⟩
      · rintro i x zs τ H4 hx ⟨c1,c2,rs,rfl,rfl,h1,h2,h3,h4,h5,h6,h7⟩
        rw [List.getElem?_map] at hx
        cases htt:tts[i]? with
        | none=>rw [htt] at hx;cases hx
        | some tt =>
          rw [htt] at hx
          cases hx
          have hi:i < ps.length:=by
            have:=(List.getElem?_eq_some_iff.mp htt).1
            omega
          have hpp:ps[i]? = some ps[i]:=by simp [hi]
          have hdl:=(ok.d6 _ (List.mem_of_getElem? hpp)).1
          generalize ps[i] = pe at hpp hdl
          have hal:=kC pe
          obtain⟨d,al,kvs,t1,t2,t3,t4,t5⟩:=(hTr3 i tt pe htt hpp).same h7
          refine⟨tt,_,rfl,aw.of t1,rfl,_,_,rfl,_,_,rfl,rfl,?_⟩
          change ∃ v,_/\_
          refine⟨_,rfl,al,rfl,⟨_,au.of t4⟩,fun r nr=>?_⟩
          have s1:=ah.new (o:=.dK []) nr
          have nrf:fl ≠ r:=aG h1 nr
          refine pT (K:=K) (a:=al) (xs:=(df pe).map V.str) (fun j ys τ' H'=>∃ c3,τ' = [c3]/\ys=kS (ef ((df pe).take j))/\H' r=some (.dK ys)/\ah H4 H') ?_ ?_ ?_ ?_
          · exact⟨none,rfl,rfl,aa,s1⟩
          · rintro j ys τ' H5 hj ⟨c3,rfl,rfl,g1,g2⟩
            refine⟨au.of (g2 _ _ t4),g1,aB ?_⟩
            have:=lT ((df pe).take j)
            rw [List.length_take] at this
            rw [i7]
            omega
          · rintro j x ys τ' H5 hx ⟨c3,rfl,rfl,g1,g2⟩
            rw [List.getElem?_map] at hx
            cases hn:(df pe)[j]? with
            | none=>rw [hn] at hx;cases hx
            | some y =>
              rw [hn] at hx
              cases hx
              change ∃ v,_/\_
              refine⟨_,rfl,Sum.inr y,rfl,g1,_,rfl,?_,aa,g2.put nr⟩
              rw [nj,List.take_add_one,hn]
              simp [gv]
          · rintro ys τ' H5 ⟨c3,rfl,rfl,g1,g2⟩
            rw [List.length_map,List.take_of_length_le (Nat.le_refl _)] at g1
            refine⟨g2 _ _ h1,_,_,rs ++ [r],rfl,(by simp),aa,(by simp [h2]),?_,?_,?_,?_,(h7.trans g2).put nfl⟩
            · rw [List.nodup_append]
              refine⟨h3,by simp,fun a ha b hb z=>?_⟩
              rw [List.mem_singleton] at hb
              subst hb;subst z
              obtain⟨k,hk⟩:=List.getElem?_of_mem ha
              have hkl:k < ps.length:=by have:=(List.getElem?_eq_some_iff.mp hk).1;omega
              have:=h4 k _ _ hk (show ps[k]? = some ps[k] by simp [hkl])
              rw [nr] at this;cases this
            · intro k r' pc' hk hpk
              rcases Nat.lt_trichotomy k rs.length with hlt | heq | hgt
              · rw [List.getElem?_append_left hlt] at hk
                have:=g2 _ _ (h4 k r' pc' hk hpk)
                rw [ae (bF this (g2 _ _ h1) (by intro z;cases z))]
                exact this
              · subst heq
                simp at hk
                subst hk
                rw [h2,hpp] at hpk
                cases hpk
                rw [ae nrf.symm]
                exact g1
              · rw [List.getElem?_eq_none (by simp;omega)] at hk
                cases hk
            · intro r' hr'
              rcases List.mem_append.mp hr' with h | h
              · exact h5 _ h
              · rw [List.mem_singleton.mp h];exact h7.free nr
            · intro z
              rcases List.mem_append.mp z with h | h
              · exact h6 h
              · exact nrf (List.mem_singleton.mp h)
      · rintro zs τ H4 ⟨c1',c2',rs,rfl,rfl,hfl,hrn,hrd,hrs,hr0,hfo,s4⟩
        rw [List.length_map,htn] at hrn
        have O4:dg H4 fl rs ((F0 ps).map oK):=by
          refine⟨hfl,fun k r o g1 g2=>?_,by simp [hrn,F0],hrd,hfo⟩
          unfold F0 at g2
          rw [List.getElem?_map,List.getElem?_map] at g2
          cases hk:ps[k]? with
          | none=>rw [hk] at g2;cases g2
          | some pc=>rw [hk] at g2;cases g2;exact hrs k r pc g1 hk
        clear hrs
        refine⟨_,rfl,fl,rfl,.inr ⟨⟨_,au.of hfl⟩,fun wl nwl=>?_⟩⟩
        refine pW (xs:=rs.map V.ref) (fun i zs τ H'=>∃ (c1 c2 c3:Option V) (wts:List Addr) (W:List (Nat × Str)),τ = [c1,c2,c3]/\zs=wts.map V.ref/\H' wl=some (.lst zs)/\cR H' wts W/\(∀ q:Nat × Str,q ∈ W ↔ q.1 < i/\bT (F0 ps) q.1 q.2)/\W.length<=i * 501/\ah H4 H') ?_ ?_ ?_ ?_
        · exact⟨none,none,none,[],[],rfl,rfl,aa,.nil,(by simp),(by simp),ah.new nwl⟩
        · rintro i zs τ H5 hi ⟨c1,c2,c3,wts,W,rfl,rfl,h1,h2,h3,h4,h5⟩
          exact au.of (h5 _ _ hfl)
        · rintro i x zs τ H5 t hx ht ⟨c1,c2,c3,wts,W,rfl,rfl,h1,h2,h3,h4,h5⟩
          rw [List.getElem?_map] at hx
          cases hr:rs[i]? with
          | none=>rw [hr] at hx;cases hx
          | some r =>
            rw [hr] at hx
            cases hx
            have hi:i < ps.length:=by
              have:=(List.getElem?_eq_some_iff.mp hr).1
              omega
            have hpp:ps[i]? = some ps[i]:=by simp [hi]
            have hdl:=(ok.d6 _ (List.mem_of_getElem? hpp)).1
            generalize ps[i] = pe at hpp hdl
            have hal:=kC pe
            have hdd:=lT (df pe)
            have hF:=mB hpp
            have hro:H4 r=some (oK (ef (df pe))):=O4.at_ i r _ hr (by rw [List.getElem?_map,hF];rfl)
            generalize hys:ef (df pe)=ys at hF hro hdd
            have st:=ah.new (o:=.tup [.int (i:Nat),.ref r]) ht
            have h1':=st _ _ h1
            have h5':=h5.trans st
            have h2':cR (upd H5 t (.tup [.int (i:Nat),.ref r])) wts W:=h2.keep fun c ys e=>st _ _ e
            have htt:(upd H5 t (.tup [.int (i:Nat),.ref r])) t=some (.tup [.int (i:Nat),.ref r]):=aa
            generalize (upd H5 t (.tup [.int (i:Nat),.ref r]))=H6 at h1' h5' h2' htt
            refine⟨t,_,rfl,aw.of htt,rfl,_,_,rfl,_,_,rfl,rfl,?_⟩
            have hwr:wl ≠ r:=fun z=>by rw [z,hro] at nwl;cases nwl
            change ∃ v,_/\_
            refine⟨_,rfl,r,kS ys,rfl,h5' _ _ hro,fun ob=>⟨fun j zs' τ' H'=>∃ (c3:Option V) (wts':List Addr),τ' = [some (.int (i:Nat)),some (.ref r),c3]/\zs' = wts'.map V.ref/\H' wl=some (.lst zs')/\H' r=some (.cO ob (.dK (kS ys)))/\cR H' wts' (W++(ys.take j).map fun y=>(i,y))/\(∀ c o,H4 c=some o->c ≠ r->H' c=some o),?_,?_,?_,?_⟩⟩
            · refine⟨c3,wts,rfl,rfl,(by rw [ae hwr];exact h1'),aa,?_,fun c o hc hn=>by rw [ae hn];exact h5' _ _ hc⟩
              simp only [List.take_zero,List.map_nil,List.append_nil]
              exact h2'.keep fun c ys e=>by rw [ae (bF e (h5' _ _ hro) (by intro z;cases z))];exact e
            · rintro j zs' τ' H7 hj ⟨c3,wts',rfl,rfl,g1,g2,g3,g4⟩
              refine⟨g2,g1,aB ?_⟩
              have:=g3.len
              rw [i7] at hj
              rw [List.length_map,this,List.length_append,List.length_map,List.length_take]
              have:i * 501<=400 * 501:=Nat.mul_le_mul_right _ (by omega)
              omega
            · rintro j k u zs' τ' H7 hk ⟨c3,wts',rfl,rfl,g1,g2,g3,g4⟩
              unfold kS at hk
              rw [List.getElem?_map] at hk
              cases hy:ys[j]? with
              | none=>rw [hy] at hk;cases hk
              | some y =>
                rw [hy] at hk
                cases hk
                change ∃ v,_/\_
                refine⟨_,rfl,_,rfl,ln2,fun wt nwt=>?_⟩
                have sw:=ah.new (o:=.tup [.int (i:Nat),.str y]) nwt
                refine⟨sw _ _ g1,_,wts' ++ [wt],rfl,(by simp),aa,?_,?_,?_⟩
                · rw [ae hwr.symm];exact sw _ _ g2
                · rw [List.take_add_one,hy,List.map_append,<-List.append_assoc]
                  refine cR.snoc (q:=(i,y)) ?_ (g3.keep fun c zs e=>?_)
                  · show upd (upd H7 wt _) wl _ wt=_
                    rw [ae (aG g1 nwt).symm];exact aa
                  · rw [ae (bF e g1 (by intro z;cases z))];exact sw _ _ e
                · intro c o hc hn
                  rw [ae (aG hc nwl)]
                  exact sw _ _ (g4 c o hc hn)
            · rintro zs' τ' H7 ⟨c3,wts',rfl,rfl,g1,g2,g3,g4⟩
              rw [i7,List.take_of_length_le (Nat.le_refl _)] at g3
              refine⟨_,_,_,wts',_,rfl,rfl,(by rw [ae hwr];exact g1),g3.keep fun c zs e=>(by rw [ae (bF e g2 (by intro z;cases z))];exact e),fun q=>?_,?_,fun c o hc=>?_⟩
              · rw [List.mem_append,h3 q]
                constructor
                · rintro (⟨a,b⟩ | a)
                  · exact⟨Nat.lt_succ_of_lt a,b⟩
                  · obtain⟨y,hy,rfl⟩:=List.mem_map.mp a
                    exact⟨Nat.lt_succ_self _,_,hF,hy⟩
                · rintro⟨a,b⟩
                  by_cases e:q.1=i
                  · obtain⟨zs,b1,b2⟩:=b
                    rw [e,hF] at b1
                    cases b1
                    exact .inr (List.mem_map.mpr ⟨q.2,b2,by rw [<-e]⟩)
                  · exact .inl ⟨by omega,b⟩
              · rw [List.length_append,List.length_map,Nat.succ_mul]
                omega
              · by_cases e:c=r
                · rw [e] at hc
                  rw [hro] at hc
                  cases hc
                  rw [e]
                  exact aa
                · rw [ae e];exact g4 c o hc e
        · rintro zs τ H5 ⟨c1,c2,c3,wts,W,rfl,rfl,hwl,hWt,hW,hWn,s5⟩
          rw [List.length_map,hrn] at hW hWn
          have hW':∀ q:Nat × Str,q ∈ W ↔ bT (F0 ps) q.1 q.2:=fun q=>(hW q).trans ⟨fun h=>h.2,fun h=>⟨by
            obtain⟨xs,h1,_⟩:=h
            have:=(List.getElem?_eq_some_iff.mp h1).1
            simpa [F0] using this,h⟩⟩
          have I0:=rC hW'
          have O5:=O4.same s5
          have nwl3:H3 wl=none:=s4.free nwl
          have s35:=s4.trans s5
          have hrw:∀ r ∈ rs,wl ≠ r:=fun r hr z=>by
            obtain⟨k,hk⟩:=List.getElem?_of_mem hr
            have hkl:k < ps.length:=by have:=(List.getElem?_eq_some_iff.mp hk).1;omega
            have hkp:ps[k]? = some ps[k]:=by simp [hkl]
            have:=O4.at_ k r (oK (ef (df ps[k]))) hk (by rw [List.getElem?_map,mB hkp];rfl)
            rw [<-z,nwl] at this
            cases this
          have hfw:fl ≠ wl:=aG hfl nwl
          refine⟨fun m σ H'=>∃ (F:List (List Str)) (W:List (Nat × Str)) (wts:List Addr) (u5 u6 u7 u8:Option V),σ = [some (.ref p),some (.ref tl),some (.ref bl),some (.ref fl),some (.ref wl),u5,u6,u7,u8]/\dg H' fl rs (F.map oK)/\H' wl=some (.lst (wts.map V.ref))/\cR H' wts W/\fw ps F W (fun _ _=>False)/\m=W.length+2 * (ps.length * pool.length - d9 F)/\m<=300000/\ah H3 H',⟨_,F0 ps,W,wts,none,none,none,none,rfl,O5,hwl,hWt,I0,rfl,?_,s35⟩,?_⟩
          · have h1:ps.length * pool.length<=400 * 64:=Nat.mul_le_mul hpl (Nat.le_of_lt h64)
            have h2:ps.length * 501<=400 * 501:=Nat.mul_le_mul_right _ hpl
            omega
          clear hWt hW hWn hW' I0 O5 hwl
          rintro m σ H6 ⟨F,W,wts,u5,u6,u7,u8,rfl,O6,hw6,hWt,I6,hm,hmb,s6⟩
          have hlenW:=hWt.len
          have hFb:∀ xs ∈ F,xs.Nodup/\xs.length<=pool.length:=fun xs hxs=>by
            obtain⟨k,hk⟩:=List.getElem?_of_mem hxs
            have:=I6.i6 k xs hk
            exact⟨this.1,gw this.1 fun x hx=>dW ok (this.2 x hx)⟩
          refine⟨_,rfl,!(wts.map V.ref).isEmpty,.inl ⟨_,au.of hw6,rfl⟩,?_⟩
          rcases (show W = []\/∃ W' q,W=W' ++ [q] from (List.eq_nil_or_concat W).imp id fun ⟨a,b,h⟩=>⟨a,b,by rw [h,List.concat_eq_append]⟩) with rfl | ⟨W',⟨k,x⟩,rfl⟩
          · cases hWt
            refine aM rfl ?_
            refine⟨_,rfl,fl,rfl,⟨_,au.of O6.lst⟩,fun acc na=>?_⟩
            refine cT (K:=K) (a:=fl) (xs:=rs.map V.ref) (fun i zs τ H'=>∃ (c1:Option V) (L:List (List Str)),τ = [c1]/\aC H' zs (L.map fun xs=>PyData.tuple (xs.map PyData.str))/\zs.length=i/\L.length=i/\(∀ (k:Nat) (xs:List Str),L[k]? = some xs->sortedS xs=true/\xs.Nodup/\∀ x,x ∈ xs ↔ cn ps k x)/\H' acc=some (.lst zs)/\ah H6 H') ?_ ?_ ?_ ?_
            · exact⟨none,[],rfl,.nil,rfl,rfl,(by intro k xs h;simp at h),aa,ah.new na⟩
            · rintro i zs τ H7 hi ⟨c1,L,rfl,h1,h2,h3,h4,h5,h6⟩
              rw [List.length_map] at hi
              exact⟨au.of (h6 _ _ O6.lst),h5,aB (by omega)⟩
            · rintro i x zs τ H7 hx ⟨c1,L,rfl,h1,h2,h3,h4,h5,h6⟩
              rw [List.getElem?_map] at hx
              cases hr:rs[i]? with
              | none=>rw [hr] at hx;cases hx
              | some r =>
                rw [hr] at hx
                cases hx
                have hi:i < F.length:=by
                  have:=(List.getElem?_eq_some_iff.mp hr).1
                  rw [I6.len]
                  omega
                have hFi:F[i]? = some F[i]:=by simp [hi]
                generalize F[i] = ys at hFi
                have hro:H6 r=some (oK ys):=O6.at_ i r _ hr (by rw [List.getElem?_map,hFi];rfl)
                have hyb:=hFb ys (List.mem_of_getElem? hFi)
                change ∃ v,_/\_
                refine⟨_,rfl,r,kS ys,ys,rfl,h6 _ _ hro,pX ys,by omega,fun l ss hperm hsort nl=>?_⟩
                refine⟨l,_,rfl,.inl ⟨au.of aa,fun t nt=>?_⟩⟩
                have sl:=(ah.new (o:=.lst (ss.map V.str)) nl).trans (ah.new (o:=.tup (ss.map V.str)) nt)
                have ht2:(upd (upd H7 l (.lst (ss.map V.str))) t (.tup (ss.map V.str))) t=some (.tup (ss.map V.str)):=aa
                generalize (upd (upd H7 l (.lst (ss.map V.str))) t (.tup (ss.map V.str)))=H8 at sl ht2
                have ha8:=sl _ _ h5
                refine⟨ha8,_,L ++ [ss],rfl,?_,(by simp [h2]),(by simp [h3]),?_,aa,(h6.trans sl).put na⟩
                · rw [List.map_append]
                  have r1:aC H8 (zs ++ [.ref t]) (L.map (fun xs=>PyData.tuple (xs.map PyData.str)) ++ [.tuple (ss.map PyData.str)]):=(h1.same sl (cy L)).app (.tup ht2 (kH _ _))
                  refine r1.put ha8 ?_
                  have:=cy (L ++ [ss])
                  rw [List.map_append] at this
                  exact this
                · intro k xs hk
                  rcases Nat.lt_trichotomy k L.length with hlt | heq | hgt
                  · rw [List.getElem?_append_left hlt] at hk
                    exact h4 k xs hk
                  · subst heq
                    simp at hk
                    subst hk
                    refine⟨hsort,hperm.nodup_iff.mpr hyb.1,fun x=>?_⟩
                    rw [hperm.mem_iff,h3]
                    refine Iff.trans ⟨fun h=>⟨_,hFi,h⟩,fun ⟨zs,a,b⟩=>?_⟩ (I6.is i x)
                    rw [hFi] at a;cases a;exact b
                  · rw [List.getElem?_eq_none (by simp;omega)] at hk
                    cases hk
            · rintro zs τ H7 ⟨c1,L,rfl,h1,h2,h3,h4,h5,h6⟩
              rw [List.length_map,hrn] at h3
              refine⟨acc,_,rfl,.inl ⟨au.of h5,fun t nt=>?_⟩⟩
              exact q _ L _ (.tup aa (h1.same (ah.new nt) (cy L))) h3 h4 (((sH3.trans s6).trans h6).trans (ah.new nt))
          · obtain⟨ws,wt,rfl,hWs,hwt⟩:=hWt.snoc_inv
            refine bH (by cases ws <;> rfl) ?_
            have hwev:(ws ++ [wt]).map V.ref=ws.map V.ref ++ [.ref wt]:=by rw [List.map_append];rfl
            obtain⟨fk,hFk,hxk⟩:=I6.wt (k,x) (by simp)
            have hlk:=(I6.i6 k fk hFk).2 x hxk
            have hkl:k < ps.length:=by rw [<-I6.len];exact (List.getElem?_eq_some_iff.mp hFk).1
            have hbk:bs[k]? = some bs[k]:=by simp [show k < bs.length by omega]
            generalize bs[k] = bb at hbk
            have hBb:=hB k bb hbk
            have B6:=B.same s6
            obtain⟨br,hbr,hbo,hbv⟩:=B6.get (k:=k) (o:=oN bb) (by rw [List.getElem?_map,hbk];rfl)
            have hbo3:H3 br=some (oN bb):=B.at_ k br _ hbr (by rw [List.getElem?_map,hbk];rfl)
            have hWl:(W' ++ [(k,x)]).length=W'.length+1:=by simp
            refine⟨fun σ' H'=>∃ (F:List (List Str)) (W:List (Nat × Str)) (wts:List Addr) (u5 u6 u7 u8:Option V),σ' = [some (.ref p),some (.ref tl),some (.ref bl),some (.ref fl),some (.ref wl),u5,u6,u7,u8]/\dg H' fl rs (F.map oK)/\H' wl=some (.lst (wts.map V.ref))/\cR H' wts W/\fw ps F W (fun _ _=>False)/\W.length+2 * (ps.length * pool.length - d9 F) < m/\ah H3 H',fun σ' H' ⟨F,W,wts,u5,u6,u7,u8,a1,a2,a3,a4,a5,a6,a7⟩=>⟨_,a6,F,W,wts,u5,u6,u7,u8,a1,a2,a3,a4,a5,rfl,by omega,a7⟩,?_⟩
            refine⟨_,rfl,.inl ⟨rfl,_,au.of hw6⟩,wl,_,.ref wt,rfl,rfl,hw6,(by rw [hwev];simp),?_⟩
            rw [hwev,List.dropLast_concat]
            have hwt7:(upd H6 wl (.lst (ws.map V.ref))) wt=some (.tup [.int (k:Nat),.str x]):=by rw [ae (bF hwt hw6 (by intro z;cases z))];exact hwt
            have O7:dg (upd H6 wl (.lst (ws.map V.ref))) fl rs (F.map oK):=⟨by rw [ae hfw];exact O6.lst,fun j r o g1 g2=>by
              rw [ae (hrw r (List.mem_of_getElem? g1)).symm];exact O6.at_ j r o g1 g2,O6.len,O6.nd,O6.out⟩
            have hw7:(upd H6 wl (.lst (ws.map V.ref))) wl=some (.lst (ws.map V.ref)):=aa
            have s7:ah H3 (upd H6 wl (.lst (ws.map V.ref))):=s6.put nwl3
            have hWs7:cR (upd H6 wl (.lst (ws.map V.ref))) ws W':=hWs.keep fun c zs e=>by rw [ae (bF e hw6 (by intro z;cases z))];exact e
            generalize (upd H6 wl (.lst (ws.map V.ref)))=H7 at hwt7 O7 hw7 s7 hWs7
            refine⟨wt,_,rfl,aw.of hwt7,rfl,_,_,rfl,_,_,rfl,rfl,?_⟩
            have B7:=B.same s7
            refine⟨_,rfl,_,rfl,bl,_,_,_,rfl,rfl,au.of B7.lst,bg hbv,br,rfl,⟨_,au.of (s7 _ _ hbo3)⟩,?_⟩
            refine nK (K:=K) (a:=br) (xs:=vN bb) (fun j σ H'=>∃ (F:List (List Str)) (W:List (Nat × Str)) (wts:List Addr) (u7 u8:Option V),σ = [some (.ref p),some (.ref tl),some (.ref bl),some (.ref fl),some (.ref wl),some (.int (k:Nat)),some (.str x),u7,u8]/\dg H' fl rs (F.map oK)/\H' wl=some (.lst (wts.map V.ref))/\cR H' wts W/\fw ps F W (fun k' x'=>k' = k/\x' = x)/\(∀ a ∈ bb.take j,∀ pc:Piece,ps[a]? = some pc->∀ y,cx pc.1 x=some y->bT F a y)/\W.length+2 * (ps.length * pool.length - d9 F) < m/\ah H3 H') ?_ ?_ ?_ ?_
            · exact⟨F,W',ws,_,_,rfl,O7,hw7,hWs7,I6.pop,(by simp),(by omega),s7⟩
            · rintro j σ H8 hj ⟨F,W,wts,u7,u8,rfl,O8,hw8,hWt8,I8,hcl,hm8,s8⟩
              exact au.of (s8 _ _ hbo3)
            · rintro j y σ H8 hy ⟨F,W,wts,u7,u8,rfl,O8,hw8,hWt8,I8,hcl,hm8,s8⟩
              rw [List.getElem?_map] at hy
              cases haj:bb[j]? with
              | none=>rw [haj] at hy;cases hy
              | some a =>
                rw [haj] at hy
                cases hy
                obtain⟨hal,pc,hpc,hkw⟩:=(hBb.2 a).mp (List.mem_of_getElem? haj)
                have htt:tts[a]? = some tts[a]:=by simp [show a < tts.length by omega]
                generalize tts[a] = tt at htt
                obtain⟨d,al,kvs,t1,t2,t3,t4,t5⟩:=(hTr3 a tt pc htt hpc).same s8
                have hFl:a < F.length:=by rw [I8.len];exact hal
                have hFa:F[a]? = some F[a]:=by simp [hFl]
                generalize F[a] = fa at hFa
                obtain⟨r,hr,hro,hrv⟩:=O8.get (k:=a) (o:=oK fa) (by rw [List.getElem?_map,hFa];rfl)
                refine⟨_,rfl,_,rfl,tl,_,_,_,rfl,rfl,au.of (s8 _ _ htl3),bg (by rw [List.getElem?_map,htt];rfl),tt,_,0,_,rfl,rfl,aw.of t1,dP,d,rfl,.inl ⟨kvs,.inl t2⟩,_,rfl,_,rfl,_,_,eS.k (k:=Sum.inr x) t2,t3 x,?_⟩
                cases hsx:cx pc.1 x with
                | none =>
                  refine⟨_,rfl,_,rfl,?_⟩
                  refine aM (by decide) ?_
                  refine de ?_
                  refine⟨F,W,wts,_,_,rfl,O8,hw8,hWt8,I8,fun a' ha' pc' hp' y' hy'=>?_,hm8,s8⟩
                  rw [List.take_add_one,haj] at ha'
                  rcases List.mem_append.mp ha' with g | g
                  · exact hcl a' g pc' hp' y' hy'
                  · have:=List.mem_singleton.mp g
                    subst this
                    rw [hpc] at hp'
                    cases hp'
                    rw [hsx] at hy'
                    cases hy'
                | some z =>
                  refine⟨_,rfl,_,rfl,?_⟩
                  refine bH (by simp [oS]) ?_
                  refine⟨_,rfl,_,rfl,_,rfl,fl,_,_,_,rfl,rfl,au.of O8.lst,bg hrv,r,_,rfl,eS.k (k:=Sum.inr z) hro,_,rfl,?_⟩
                  have hfab:=(I8.i6 a fa hFa)
                  have hfal:fa.length<=pool.length:=gw hfab.1 fun x hx=>dW ok (hfab.2 x hx)
                  have hlz:cn ps a z:=.back hlk hpc hkw hsx
                  by_cases hz:z ∈ fa
                  · refine aM (by rw [ni,decide_eq_true hz];rfl) ?_
                    refine⟨F,W,wts,_,_,rfl,O8,hw8,hWt8,I8,fun a' ha' pc' hp' y' hy'=>?_,hm8,s8⟩
                    rw [List.take_add_one,haj] at ha'
                    rcases List.mem_append.mp ha' with g | g
                    · exact hcl a' g pc' hp' y' hy'
                    · have:=List.mem_singleton.mp g
                      subst this
                      rw [hpc] at hp'
                      cases hp'
                      rw [hsx] at hy'
                      cases hy'
                      exact⟨_,hFa,hz⟩
                  · refine bH (by rw [ni,decide_eq_false hz];rfl) ?_
                    refine⟨_,rfl,_,rfl,fl,_,_,_,rfl,rfl,au.of O8.lst,bg hrv,_,rfl,r,_,rfl,gU.k (k:=Sum.inr z) hro (aB (by rw [i7];omega)),?_⟩
                    rw [nj]
                    have hadd:eT fa z=fa ++ [z]:=by unfold eT;rw [if_neg hz]
                    rw [hadd]
                    have hrm:=List.mem_of_getElem? hr
                    have O9:dg (upd H8 r (oK (fa ++ [z]))) fl rs ((F.set a (fa ++ [z])).map oK):=by rw [List.map_set];exact O8.put hr
                    have hw9:(upd H8 r (oK (fa ++ [z]))) wl=some (.lst (wts.map V.ref)):=by rw [ae (hrw r hrm)];exact hw8
                    have s9:ah H3 (upd H8 r (oK (fa ++ [z]))):=s8.put (hr0 r hrm)
                    have hWt9:cR (upd H8 r (oK (fa ++ [z]))) wts W:=hWt8.keep fun c zs e=>by rw [ae (bF e hro (by intro z;cases z))];exact e
                    change (_:Hp->Prop) (upd H8 r (oK (fa ++ [z])))
                    generalize (upd H8 r (oK (fa ++ [z])))=H9 at O9 hw9 s9 hWt9
                    have hwn:wts.length=W.length:=hWt9.len
                    refine⟨_,rfl,.inl ⟨rfl,_,au.of hw9⟩,_,rfl,_,rfl,ln2,fun wt2 nwt2=>?_⟩
                    have sw:=ah.new (o:=.tup [.int (a:Nat),.str z]) nwt2
                    have hw10:=sw _ _ hw9
                    have nw2:wl ≠ wt2:=aG hw9 nwt2
                    refine⟨wl,_,_,rfl,rfl,hw10,aB (by rw [List.length_map];omega),?_⟩
                    have ht:=sum_set (y:=z) hFa
                    have htb:d9 (F.set a (fa ++ [z]))<=ps.length * pool.length:=by
                      have I9:=I8.add hFa hz hlz
                      rw [<-I9.len]
                      refine rA fun xs hxs=>?_
                      obtain⟨k',hk'⟩:=List.getElem?_of_mem hxs
                      have:=I9.i6 k' xs hk'
                      exact gw this.1 fun x hx=>dW ok (this.2 x hx)
                    refine⟨F.set a (fa ++ [z]),W ++ [(a,z)],wts ++ [wt2],_,_,rfl,?_,?_,?_,I8.add hFa hz hlz,fun a' ha' pc' hp' y' hy'=>?_,?_,?_⟩
                    · exact⟨by rw [ae hfw];exact sw _ _ O9.lst,fun j r o g1 g2=>by
                        rw [ae (hrw r (List.mem_of_getElem? g1)).symm];exact sw _ _ (O9.at_ j r o g1 g2),O9.len,O9.nd,O9.out⟩
                    · rw [aa,List.map_append];rfl
                    · refine cR.snoc (q:=(a,z)) ?_ (hWt9.keep fun c zs e=>?_)
                      · rw [ae nw2.symm];exact aa
                      · rw [ae (bF e hw9 (by intro z;cases z))];exact sw _ _ e
                    · rw [List.take_add_one,haj] at ha'
                      rcases List.mem_append.mp ha' with g | g
                      · exact (fX hFa _ _).mpr (.inl (hcl a' g pc' hp' y' hy'))
                      · have:=List.mem_singleton.mp g
                        subst this
                        rw [hpc] at hp'
                        cases hp'
                        rw [hsx] at hy'
                        cases hy'
                        exact (fX hFa _ _).mpr (.inr ⟨rfl,rfl⟩)
                    · rw [List.length_append]
                      simp only [List.length_cons,List.length_nil]
                      omega
                    · exact (s9.trans sw).put nwl3
            · rintro σ H8 ⟨F,W,wts,u7,u8,rfl,O8,hw8,hWt8,I8,hcl,hm8,s8⟩
              rw [List.length_map,List.take_of_length_le (Nat.le_refl _)] at hcl
              refine⟨F,W,wts,_,_,_,_,rfl,O8,hw8,hWt8,I8.close fun a pc hp hk y hy=>?_,hm8,s8⟩
              exact hcl a ((hBb.2 a).mpr ⟨(List.getElem?_eq_some_iff.mp hp).1,pc,hp,hk⟩) pc hp y hy
theorem mG {f:Addr} {fd:FuncData} (F:dh K "_law_bag" "_law_bag" dY f fd) (Z:Bl mg)  : bC P w K mg base cJ 1 f fd ["script", "k"] (mv K):=by
 refine F.ok (k:=0) gC (fun vs H Q E h=>?_) (fun cdv A outer s H vs Q E hr h=>?_)
 ·obtain⟨a,ns,k,rfl,_⟩:=h
  rfl
 ·obtain⟨a,ns,k,rfl,hS,hk,q⟩:=h
  refine⟨_,(af (aD (i:=2) gC.nd rfl (Or.inl rfl) ai)
   (af (bV (aI md (pv 1) (bP bK rfl Z.len eJ (U (pv 0) ab)) (ba _))
   (ao (aD (i:=2) gC.nd rfl (Or.inl rfl) (aF d0 (aH aW (pv 0) (pv 1) (fun _ _=>rfl)) (aF pA (aF iL ai ai) (aF iL ai ai)))))
   bp)
   (af (bV (aI md (pv 2) (aF iL ai ai) (ba _))
   (ao (aP (bu (U ai (U (aF cC ai (aF d0 (aF cC (aF ff (pv 2) ai) (aF ff ai (pv 1))) ai)) ab)))))
   bp)
   (ao (aP (bu (U (pv 2) (U (aF cC ai (aF d0 (aF cC (pv 2) (pv 1)) ai)) ab)))))))),?_⟩
  refine⟨_,rfl,_,rfl,_,_,rfl,.inl hS,_,_,rfl,rfl,_,rfl,?_⟩
  refine fm (fun hc=>?_) (fun hc=>?_)
  ·have hl:k < ((ns.map V.int).length:Nat):=of_decide_eq_true hc
   obtain⟨v,hv,hm⟩:=mr hk hl
   obtain⟨z,_,rfl⟩:=List.mem_map.mp hm
   refine⟨_,rfl,_,rfl,_,_,_,_,rfl,rfl,hS,hv,10,60,rfl,rfl,⟨by decide,by decide,by decide⟩,10,60,rfl,rfl,⟨by decide,by decide,by decide⟩,_,_,rfl,rfl,(by unfold IntMulOk;decide +kernel),_,_,rfl,rfl,(show (0:Int) < 10 ^ (60:Int).toNat * 10 ^ (60:Int).toNat by decide +kernel),?_⟩
   refine⟨_,rfl,10,18,rfl,rfl,⟨by decide,by decide,by decide⟩,_,_,rfl,rfl,_,rfl,?_⟩
   refine fm (fun hd=>?_) (fun hd=>?_)
   ·refine⟨_,rfl,_,_,rfl,rfl,.inr ⟨by decide,by decide⟩,_,rfl,_,_,rfl,rfl,.inl ⟨by decide,by decide⟩,_,_,rfl,rfl,_,_,rfl,rfl,(show (0:Int) < 2147483646 by decide),_,_,rfl,rfl,ln2,fun p hp=>?_⟩
    exact q p _ hp ⟨_,_,aa,by omega,by omega⟩ (ah.new hp)
   ·refine⟨_,rfl,_,rfl,_,rfl,_,_,rfl,rfl,_,_,rfl,rfl,(show (0:Int) < 2147483646 by decide),_,_,rfl,rfl,ln2,fun p hp=>?_⟩
    exact q p _ hp ⟨_,_,aa,by omega,by omega⟩ (ah.new hp)
  ·refine⟨_,rfl,10,18,rfl,rfl,⟨by decide,by decide,by decide⟩,_,_,rfl,rfl,_,rfl,?_⟩
   refine fm (fun hd=>?_) (fun hd=>?_)
   ·refine⟨_,rfl,_,_,rfl,rfl,.inr ⟨by decide,by decide⟩,_,rfl,_,_,rfl,rfl,.inl ⟨by decide,by decide⟩,_,_,rfl,rfl,_,_,rfl,rfl,(show (0:Int) < 2147483646 by decide),_,_,rfl,rfl,ln2,fun p hp=>?_⟩
    exact q p _ hp ⟨_,_,aa,by omega,by omega⟩ (ah.new hp)
   ·refine⟨_,rfl,_,rfl,_,rfl,_,_,rfl,rfl,_,_,rfl,rfl,(show (0:Int) < 2147483646 by decide),_,_,rfl,rfl,ln2,fun p hp=>?_⟩
    exact q p _ hp ⟨_,_,aa,by omega,by omega⟩ (ah.new hp)
theorem kY {f:Addr} {fd:FuncData} (F:dh K "_law_take" "_law_take" dA f fd) (Z:Bl mg)  : bC P w K mg base cJ 1 f fd ["bag", "many"] dG:=by
 refine F.ok (k:=0) iu (fun vs H Q E h=>?_) (fun cdv A outer s H vs Q E hr h=>?_)
 ·obtain⟨b,m,rfl,_⟩:=h
  rfl
 ·obtain⟨b,m,rfl,⟨x,y,hb,h0,h1⟩,hm,q⟩:=h
  refine⟨_,(af (bV (aI rO (aH aW (pv 0) ai (fun _ _=>rfl)) ai (ba _))
   (af (aD (i:=2) iu.nd rfl (Or.inl rfl) (aF d0 (aH aW (pv 0) ai (fun _ _=>rfl)) (pv 1)))
   (af (fc (aF nT (aH aW (pv 0) ai (fun _ _=>rfl)) (pv 1)) (iK (pv 0) ai set_list))
   (ao (aP (pv 2)))))
   bp)
   (af (fc (aF d0 (aF ff (aH aW (pv 0) ai (fun _ _=>rfl)) ai) ai) (iK (pv 0) ai set_list))
   (ao (aP (aF d0 (aF i9 (aF d0 (aF ff (aH aW (pv 0) ai (fun _ _=>rfl)) (aH aW (pv 0) ai (fun _ _=>rfl))) ai) ai) (pv 1)))))),?_⟩
  refine⟨_,rfl,b,_,0,_,rfl,rfl,au.of hb,dP,_,_,rfl,rfl,_,rfl,?_⟩
  refine fm (fun hc=>?_) (fun hc=>?_)
  ·refine⟨_,rfl,b,_,0,_,rfl,rfl,au.of hb,dP,_,rfl,_,_,rfl,rfl,hm.1,?_⟩
   refine⟨_,rfl,b,_,0,_,rfl,rfl,au.of hb,dP,_,rfl,_,_,rfl,rfl,hm,_,rfl,b,_,0,0,rfl,rfl,hb,rfl,?_⟩
   refine⟨_,rfl,?_⟩
   exact q _ _ (Int.emod_nonneg _ (by have:=hm.1;omega)) (Int.emod_lt_of_pos _ hm.1) ⟨_,_,aa,h0,h1⟩ Fix.oR
  ·refine⟨_,rfl,b,_,1,_,rfl,rfl,au.of hb,eU,_,_,rfl,rfl,.inr ⟨by decide,by decide⟩,_,_,rfl,rfl,(show (0:Int) < 2147483647 by decide),_,rfl,b,_,1,1,rfl,rfl,hb,rfl,?_⟩
   refine⟨_,rfl,b,_,1,_,rfl,rfl,au.of aa,eU,_,rfl,b,_,1,_,rfl,rfl,au.of aa,eU,_,_,rfl,rfl,.inl ⟨by omega,by omega⟩,_,_,rfl,rfl,(show (0:Int) < 2147483629 by decide),_,_,rfl,rfl,⟨by decide,by decide⟩,_,rfl,_,_,rfl,rfl,hm.1,?_⟩
   exact q _ _ (Int.emod_nonneg _ (by have:=hm.1;omega)) (Int.emod_lt_of_pos _ hm.1) ⟨_,_,aa,by omega,by omega⟩ Fix.oR
theorem kN {f:Addr} {fd:FuncData} (F:dh K "_law_names" "_law_names" cW f fd) (Z:Bl mg) (O_law_take:Own P w K mg base "_law_take" 1 ["bag", "many"] dG):bC P w K mg base cJ 2 f fd ["bag"] jf:=by
  refine F.ok (k:=1) bL (fun vs H Q E h=>?_) (fun cdv A outer s H vs Q E hr h=>?_)
  · obtain⟨b,rfl,_⟩:=h
    rfl
  · obtain⟨b,rfl,hB,q⟩:=h
    refine⟨_,(af (aD (i:=1) bL.nd rfl (Or.inr rfl) aK)
      (af (aD (i:=2) bL.nd rfl (Or.inl rfl) (aF cC ai (ay O_law_take (hr.mono (by decide)) rfl (U (pv 0) (U ai ab)))))
      (af (fq (i:=3) ["k"] ["letters", "bag"] [1,0] rfl bL.nd rfl rfl rfl (cH rfl Z.range (U (aF cC ai (ay O_law_take (hr.mono (by decide)) rfl (U (pv 0) (U ai ab)))) ab)) rfl (by decide +kernel) (by decide +kernel) (by decide +kernel) ⟨⟨rfl,.inl rfl,rfl⟩,⟨⟨rfl,.inl rfl,rfl⟩,True.intro⟩⟩ (fun _ _ _ _=>(ax (i:=0) (show ((["k"]:List Str)++(["letters", "bag"]:List Str)).Nodup by decide +kernel) rfl (Or.inl rfl) (hf:=Or.inr rfl))) (fun _ _ _ _=>bZ) (fun _ _ _ _=>(aH iN (pv 1) (ay O_law_take (hr.mono (by decide)) rfl (U (pv 2) (U ai ab))) (fun _ _=>rfl))))
      (af (aD (i:=4) bL.nd rfl (Or.inl rfl) (ay O_law_take (hr.mono (by decide)) rfl (U (pv 0) (U (bP bK rfl Z.len eJ (U (pv 3) ab)) ab))))
      (af (aD (i:=5) bL.nd rfl (Or.inl rfl) (bu ab))
      (af (dm PassesOwn.never rfl (cH rfl Z.range (U (pv 2) ab)) (ax (i:=6) bL.nd rfl (Or.inl rfl))
      (af (aD (i:=7) bL.nd rfl (Or.inl rfl) (bA j7 rfl Z.list pB (U (pv 3) ab)))
      (af (fc (aH iN (pv 1) (ay O_law_take (hr.mono (by decide)) rfl (U (pv 0) (U ai ab))) (fun _ _=>rfl)) (iK (pv 7) (pv 4) set_list))
      (ao (bV (aI fj (dJ PySem.F.plainAttrs_str PySem.F.slot_str_join PySem.F.type_str_join lM aK (U (pv 7) ab)) (pv 5) (by with_unfolding_all rfl))
      (ao (cS (dJ PySem.F.plainAttrs_list PySem.F.slot_list_append PySem.F.type_list_append bX (pv 5) (U (dJ PySem.F.plainAttrs_str PySem.F.slot_str_join PySem.F.type_str_join lM aK (U (pv 7) ab)) ab))))
      bp)))))
      (ao (aP (pv 5))))))))),?_⟩
    refine⟨_,rfl,b,4,rfl,hB,⟨by decide,by decide +kernel⟩,fun m H1 m0 m1 B1 X1=>⟨_,_,rfl,rfl,?_⟩⟩
    refine⟨_,rfl,b,8,rfl,B1,⟨by decide,by decide +kernel⟩,fun k H2 k0 k1 B2 X2=>⟨_,_,rfl,rfl,_,rfl,(by omega),(by omega),fun acc na=>?_⟩⟩
    refine ix (lo:=0) (fun i ys τ H'=>∃ (v:Option V) (cs:List Nat),τ = [v,some (.str fU),some (.ref b)]/\ys=(cs.map one).map V.str/\cs.length=i/\(∀ c ∈ cs,97<=c/\c<=122)/\H' acc=some (.lst ys)/\bt H' b/\Fix b H2 H') ?_ ?_ ?_ ?_
    · exact⟨none,[],rfl,rfl,rfl,(fun _ h=>nomatch h),aa,B2.new na,Fix.new na⟩
    · rintro i ys τ H' hi ⟨v,cs,rfl,rfl,hl,_,ha,_⟩
      refine⟨ha,?_⟩
      rw [List.length_map,List.length_map]
      exact bY (by omega)
    · rintro i ys τ H' hi ⟨v,cs,rfl,rfl,hl,hc,ha,B',X'⟩
      refine cm ?_
      refine nV ?_
      refine fH ?_
      refine⟨_,rfl,_,rfl,b,26,rfl,B',⟨by decide,by decide +kernel⟩,fun r H3 r0 r1 B3 X3=>?_⟩
      obtain⟨c,hat,c0,c1⟩:=iT r0 r1
      have hab:acc ≠ b:=B2.cP na
      have ha3:=X3 acc _ ha hab
      refine⟨fU,r,c,rfl,rfl,hJ,hat,ha3,_,cs ++ [c],rfl,?_,?_,?_,aa,?_,?_⟩
      · rw [List.map_append,List.map_append];rfl
      · rw [List.length_append,hl];rfl
      · intro d hd
        rcases List.mem_append.mp hd with hd | hd
        · exact hc d hd
        · rw [List.mem_singleton.mp hd];exact⟨c0,c1⟩
      · obtain⟨x,y,e,z⟩:=B3
        exact⟨x,y,by rw [ae hab.symm];exact e,z⟩
      · intro d o hd nd
        rw [ae (aG hd na)]
        exact (X'.trans X3) d o hd nd
    · rintro ys τ H3 ⟨v,cs,rfl,rfl,hl,hc,ha,B3,X3⟩
      have hab:acc ≠ b:=B2.cP na
      have hl1:1<=cs.length:=by omega
      have hl8:cs.length<=8:=by omega
      have F3:Fix b H H3:=(X1.trans X2).trans X3
      have el:(((cs.map one).map V.str).length:Int)=cs.length:=by simp
      refine⟨_,rfl,_,rfl,acc,_,rfl,.inl (au.of ha),b,_,rfl,B3,⟨by omega,eN (by omega) (by omega)⟩,fun at_ H4 t0 t1 B4 X4=>?_⟩
      refine⟨(by show 0<=sizeLine;decide),fun nl nn=>?_⟩
      have hnb:nl ≠ b:=B4.cP nn
      have ha4:H4 acc=some (.lst ((cs.map one).map V.str)):=X4 acc _ ha hab
      have hna:nl ≠ acc:=fun z=>by rw [z,ha4] at nn;cases nn
      have F4:Fix b H H4:=F3.trans X4
      refine⟨_,rfl,_,rfl,(by omega),(by omega),eI (lo:=0) (fun i σ H'=>∃ (u1 u2:Option V) (xs:List Str),σ = [some (.ref b),some (.str fU),some (.int (1+m)),some (.ref acc),some (.int at_),some (.ref nl),u1,u2] /\
        H' nl=some (.lst (xs.map V.str))/\xs.length<=i/\(0 < i->xs ≠ [])/\(∀ x ∈ xs,cu x)/\H' acc=some (.lst ((cs.map one).map V.str))/\bt H' b/\Fix b H H') ?_ ?_ ?_⟩
      · exact⟨_,_,[],rfl,aa,Nat.le_refl _,(fun h=>absurd h (Nat.lt_irrefl _)),(fun _ h=>nomatch h),(by rw [ae hna.symm];exact ha4),B4.new nn,F4.trans (Fix.new nn)⟩
      · rintro i σ H' hi ⟨u1,u2,xs,rfl,hn,hx,hx0,av,ha',B',X'⟩
        refine⟨_,rfl,acc,_,rfl,.inl (au.of ha'),fun nm mm=>?_⟩
        have nmb:nm ≠ b:=B'.cP mm
        have nma:nm ≠ acc:=fun z=>by rw [z,ha'] at mm;cases mm
        have nmn:nm ≠ nl:=fun z=>by rw [z,hn] at mm;cases mm
        refine⟨_,rfl,_,rfl,b,26,rfl,B'.new mm,⟨by decide,by decide +kernel⟩,fun r H5 r0 r1 B5 X5=>?_⟩
        obtain⟨c,hat,c0,c1⟩:=iT r0 r1
        have h5:H5 nm=some (.lst ((cs.map one).map V.str)):=X5 nm _ aa nmb
        have hn5:H5 nl=some (.lst (xs.map V.str)):=X5 nl _ (by rw [ae nmn.symm];exact hn) hnb
        have ha5:H5 acc=some (.lst ((cs.map one).map V.str)):=X5 acc _ (by rw [ae nma.symm];exact ha') hab
        obtain⟨j,rfl⟩:∃ j:Nat,at_=j:=⟨at_.toNat,by omega⟩
        have hj:j < cs.length:=by omega
        have hix:gQ ((cs.map one).map V.str).length (j:Int)=some j:=by
          unfold gQ
          rw [if_pos (by omega),if_pos (by rw [el];omega)]
          simp
        refine⟨fU,r,c,rfl,rfl,hJ,hat,_,rfl,_,rfl,nm,_,(j:Int),j,rfl,rfl,h5,hix,?_⟩
        have eset:((cs.map one).map V.str).set j (.str ⟨#[c]⟩)=((cs.set j c).map one).map V.str:=by
          rw [List.map_set,List.map_set];rfl
        rw [eset]
        have hc':∀ d ∈ cs.set j c,97<=d/\d<=122:=fun d hd=>by
          rcases List.mem_or_eq_of_mem_set hd with hd | hd
          · exact hc d hd
          · rw [hd];exact⟨c0,c1⟩
        have hjl:(((cs.set j c).map one).map (·.length)).sum+((cs.set j c).map one).length * (Str.ofString "").length<=16777216:=by
          have e1:(Str.ofString "").length=0:=by decide +kernel
          have e2:∀ l:List Nat,((l.map one).map (·.length)).sum=l.length:=by
            intro l
            induction l with
            | nil=>rfl
            | cons a l ih=>simp only [List.map_cons,List.sum_cons,ih,List.length_cons];show 1+l.length=_;omega
          rw [e1,e2,List.length_set]
          omega
        have nk:cu (Txt.join (Str.ofString "") ((cs.set j c).map one)):=by
          rw [nU]
          have ej:=L2.join_ones (cs.set j c)
          have eL:(Txt.join Str.empty ((cs.set j c).map one)).length=(cs.set j c).length:=by
            have:=congrArg List.length ej
            rw [Array.length_toList] at this
            exact this
          refine⟨?_,?_,?_⟩
          · rw [eL,List.length_set];exact hl1
          · rw [eL,List.length_set];exact hl8
          · rw [ej];exact hc'
        have n6:upd H5 nm (.lst (((cs.set j c).map one).map V.str)) nl=some (.lst (xs.map V.str)):=by rw [ae nmn.symm];exact hn5
        have a6:upd H5 nm (.lst (((cs.set j c).map one).map V.str)) acc=some (.lst ((cs.map one).map V.str)):=by rw [ae nma.symm];exact ha5
        have B6:bt (upd H5 nm (.lst (((cs.set j c).map one).map V.str))) b:=by
          obtain⟨x,y,e,z⟩:=B5
          exact⟨x,y,by rw [ae nmb.symm];exact e,z⟩
        have F6:Fix b H (upd H5 nm (.lst (((cs.set j c).map one).map V.str))):=fun d o hd nd=>by
          have h1:=X' d o hd nd
          have nd':d ≠ nm:=fun z=>by rw [z,mm] at h1;cases h1
          rw [ae nd']
          exact X5 d o (by rw [ae nd'];exact h1) nd
        have flat:(xs.map V.str).all eC=true:=by
          rw [List.all_eq_true]
          intro v hv
          obtain⟨x,_,rfl⟩:=List.mem_map.mp hv
          rfl
        refine⟨rfl,_,rfl,_,nm,_,rfl,rfl,au.of aa,hjl,_,rfl,nl,_,rfl,.inl (au.of n6),rfl,flat,_,rfl,?_⟩
        refine fm (fun hin=>?_) (fun hin=>?_)
        · refine⟨_,rfl,.inl ⟨rfl,_,au.of n6⟩,rfl,_,rfl,_,nm,_,rfl,rfl,au.of aa,hjl,nl,_,_,rfl,rfl,n6,?_,?_⟩
          · rw [List.length_map]
            have:i < 4:=by omega
            exact bY (by omega)
          · refine⟨_,_,xs ++ [_],rfl,(by rw [aa,List.map_append];rfl),(by rw [List.length_append];exact Nat.succ_le_succ hx),(fun _=>by simp),?_,(by rw [ae hna.symm];exact a6),?_,?_⟩
            · intro x hxm
              rcases List.mem_append.mp hxm with hxm | hxm
              · exact av x hxm
              · rw [List.mem_singleton.mp hxm];exact nk
            · obtain⟨x,y,e,z⟩:=B6
              exact⟨x,y,by rw [ae hnb.symm];exact e,z⟩
            · intro d o hd nd
              have h1:=F6 d o hd nd
              have nd':d ≠ nl:=fun z=>by
                have h2:=F4 d o hd nd
                rw [z,nn] at h2
                cases h2
              rw [ae nd']
              exact h1
        · have hx':xs ≠ []:=by
            intro e
            subst e
            exact hin rfl
          exact⟨_,_,xs,rfl,n6,Nat.le_succ_of_le hx,fun _=>hx',av,a6,B6,F6⟩
      · rintro σ H' ⟨u1,u2,xs,rfl,hn,hx,hx0,av,ha',B',X'⟩
        refine⟨_,rfl,?_⟩
        have hm:(1+m).toNat<=4:=by omega
        have hm0:0 < (1+m).toNat:=by omega
        exact q nl xs H' ⟨hn,hnb,hx0 hm0,by omega,av⟩ (Nat.le_trans hx hm) B' X'
theorem jO {f:Addr} {fd:FuncData} (F:dh K "_law_number" "_law_number" cG f fd) (Z:Bl mg) (O_law_take:Own P w K mg base "_law_take" 1 ["bag", "many"] dG):bC P w K mg base cJ 2 f fd ["bag"] gm:=by
  refine F.ok (k:=1) jN (fun vs H Q E h=>?_) (fun cdv A outer s H vs Q E hr h=>?_)
  · obtain⟨b,rfl,_⟩:=h
    rfl
  · obtain⟨b,rfl,hB,q⟩:=h
    refine⟨_,(af (bV (aI cL (ay O_law_take (hr.mono (by decide)) rfl (U (pv 0) (U ai ab))) ai (ba _))
      (ao (aP (aF ff (aF gN (aF gN (aF iL ai ai) ai) (ay O_law_take (hr.mono (by decide)) rfl (U (pv 0) (U ai ab)))) (aF gN ai (aF ff ai (ay O_law_take (hr.mono (by decide)) rfl (U (pv 0) (U ai ab))))))))
      bp)
      (ao (aP (aF gN (ay O_law_take (hr.mono (by decide)) rfl (U (pv 0) (U ai ab))) ai)))),?_⟩
    refine⟨_,rfl,b,8,rfl,hB,⟨by decide,by decide +kernel⟩,fun r H1 r0 r1 B1 X1=>⟨rfl,_,rfl,?_⟩⟩
    refine fm (fun hc=>?_) (fun hc=>?_)
    · refine⟨10,40,rfl,rfl,⟨by decide,by decide,by decide⟩,_,_,rfl,rfl,?_⟩
      refine⟨_,rfl,b,3,rfl,B1,⟨by decide,by decide +kernel⟩,fun r2 H2 r20 r21 B2 X2=>⟨_,_,rfl,rfl,?_⟩⟩
      refine⟨_,rfl,b,2,rfl,B2,⟨by decide,by decide +kernel⟩,fun r3 H3 r30 r31 B3 X3=>?_⟩
      refine⟨_,_,rfl,rfl,.inl ⟨by decide,by decide⟩,_,_,rfl,rfl,_,_,rfl,rfl,.inr ⟨by omega,by omega⟩,?_⟩
      refine q _ H3 ?_ B3 ((X1.trans X2).trans X3)
      have e:(10:Int) ^ (40:Int).toNat=10 ^ 40:=by decide +kernel
      rw [e]
      obtain rfl | rfl:r3=0\/r3=1:=by omega
      · rw [show (1:Int) - 2 * 0=1 by decide,Int.mul_one];unfold gh;omega
      · rw [show (1:Int) - 2 * 1 = -1 by decide,Int.mul_neg,Int.mul_one];unfold gh;omega
    · refine⟨_,rfl,b,8,rfl,B1,⟨by decide,by decide +kernel⟩,fun r2 H2 r20 r21 B2 X2=>⟨_,_,rfl,rfl,?_⟩⟩
      exact q _ H2 (by unfold gh;omega) B2 (X1.trans X2)
theorem kZ {f:Addr} {fd:FuncData} (F:dh K "_law_deed" "_law_deed" dB f fd) (Z:Bl mg) (O_law_take:Own P w K mg base "_law_take" 1 ["bag", "many"] dG) (O_law_number:Own P w K mg base "_law_number" 2 ["bag"] gm):bC P w K mg base cJ 3 f fd ["bag", "names"] iR:=by
  refine F.ok (k:=2) fO (fun vs H Q E h=>?_) (fun cdv A outer s H vs Q E hr h=>?_)
  · obtain⟨b,l,xs,rfl,_⟩:=h
    rfl
  · obtain⟨b,l,xs,rfl,hB,hN,q⟩:=h
    refine⟨_,(af (aD (i:=2) fO.nd rfl (Or.inl rfl) (aH aW (bu (U aK (U aK (U aK (U aK (U aK (U aK (U aK ab)))))))) (ay O_law_take (hr.mono (by decide)) rfl (U (pv 0) (U ai ab))) (fun _ _=>rfl)))
      (af (aD (i:=3) fO.nd rfl (Or.inl rfl) (aH aW (pv 1) (ay O_law_take (hr.mono (by decide)) rfl (U (pv 0) (U (bP bK rfl Z.len eJ (U (pv 1) ab)) ab))) (fun _ _=>rfl)))
      (af (bV (aI cL (pv 2) aK (ba _))
      (ao (aP (cD (U (pv 2) (U (pv 3) (U (aH aW (pv 1) (ay O_law_take (hr.mono (by decide)) rfl (U (pv 0) (U (bP bK rfl Z.len eJ (U (pv 1) ab)) ab))) (fun _ _=>rfl)) ab))))))
      bp)
      (af (bV (PW.pt (oH (aI cL (pv 2) aK (ba _)) (mN (aI cL (pv 2) aK (ba _)))))
      (ao (aP (cD (U (pv 2) (U (pv 3) (U (ay O_law_number (hr.mono (by decide)) rfl (U (pv 0) ab)) ab))))))
      bp)
      (ao (aP (cD (U (pv 2) (U (pv 3) ab))))))))),?_⟩
    refine⟨tT,fun l0 m0=>?_⟩
    refine⟨_,rfl,b,7,rfl,hB.new m0,⟨by decide,by decide +kernel⟩,fun r H1 r0 r1 B1 X1=>?_⟩
    have h0:H1 l0=some (.lst [.str "put",.str "copy",.str "add",.str "read",.str "tell",.str "tell",.str "add"]):=X1 l0 _ aa (hB.cP m0)
    have F1:Fix b H H1:=(Fix.new m0).trans X1
    have N1:=hN.fix F1
    have hw:∃ w:Str,(w = "put" \/ w = "copy" \/ w = "add" \/ w = "read" \/ w = "tell")/\dE [V.str "put",.str "copy",.str "add",.str "read",.str "tell",.str "tell",.str "add"] r=some (V.str w):=by
      obtain rfl | rfl | rfl | rfl | rfl | rfl | rfl:r=0\/r=1\/r=2\/r=3\/r=4\/r=5\/r=6:=by omega
      · exact⟨_,.inl rfl,bg (j:=0) rfl⟩
      · exact⟨_,.inr (.inl rfl),bg (j:=1) rfl⟩
      · exact⟨_,.inr (.inr (.inl rfl)),bg (j:=2) rfl⟩
      · exact⟨_,.inr (.inr (.inr (.inl rfl))),bg (j:=3) rfl⟩
      · exact⟨_,.inr (.inr (.inr (.inr rfl))),bg (j:=4) rfl⟩
      · exact⟨_,.inr (.inr (.inr (.inr rfl))),bg (j:=5) rfl⟩
      · exact⟨_,.inr (.inr (.inl rfl)),bg (j:=6) rfl⟩
    obtain⟨w,hw,hat⟩:=hw
    refine⟨l0,_,r,_,rfl,rfl,au.of h0,hat,?_⟩
    obtain⟨p0,p1⟩:=N1.pos
    refine⟨_,rfl,_,rfl,_,rfl,l,_,rfl,.inl (au.of N1.at_),b,_,rfl,B1,⟨p0,eN p0 p1⟩,fun r2 H2 r20 r21 B2 X2=>?_⟩
    have N2:=N1.fix X2
    obtain⟨x,hx,hxm⟩:=iy r20 r21
    refine⟨l,_,r2,_,rfl,rfl,au.of N2.at_,hx,?_⟩
    refine⟨_,rfl,rfl,_,rfl,?_⟩
    rcases hw with rfl | rfl | rfl | rfl | rfl
    ·
      rw [show decide (V.str "put" = V.str "copy")=false by decide +kernel]
      refine de ⟨_,rfl,rfl,_,rfl,?_⟩
      rw [show decide (V.str "put" = V.str "put")=true by decide +kernel]
      refine fH (fH ⟨_,rfl,_,rfl,_,rfl,b,rfl,B2,fun n H3 nk B3 X3=>⟨oU,fun t mt=>?_⟩⟩)
      exact q _ (.put x n) _ (.tup aa (.cons (.str _) (.cons (.str _) (.cons (.int _) .nil)))) ⟨hxm,nk⟩ (B3.new mt) (((F1.trans X2).trans X3).trans (Fix.new mt))
    ·
      rw [show decide (V.str "copy" = V.str "copy")=true by decide +kernel]
      obtain⟨p0,p1⟩:=N2.pos
      refine fH ⟨_,rfl,_,rfl,_,rfl,_,rfl,_,rfl,l,_,rfl,.inl (au.of N2.at_),b,_,rfl,B2,⟨p0,eN p0 p1⟩,fun r3 H3 r30 r31 B3 X3=>?_⟩
      have N3:=N2.fix X3
      obtain⟨y,hy,hym⟩:=iy r30 r31
      refine⟨l,_,r3,_,rfl,rfl,au.of N3.at_,hy,oU,fun t mt=>?_⟩
      exact q _ (.copy x y) _ (.tup aa (.cons (.str _) (.cons (.str _) (.cons (.str _) .nil)))) ⟨hxm,hym⟩ (B3.new mt) (((F1.trans X2).trans X3).trans (Fix.new mt))
    ·
      rw [show decide (V.str "add" = V.str "copy")=false by decide +kernel]
      refine de ⟨_,rfl,rfl,_,rfl,?_⟩
      rw [show decide (V.str "add" = V.str "put")=false by decide +kernel]
      refine de ⟨_,rfl,rfl,_,rfl,?_⟩
      rw [show decide (V.str "add" = V.str "add")=true by decide +kernel]
      refine fH ⟨_,rfl,_,rfl,_,rfl,b,rfl,B2,fun n H3 nk B3 X3=>⟨oU,fun t mt=>?_⟩⟩
      exact q _ (.add x n) _ (.tup aa (.cons (.str _) (.cons (.str _) (.cons (.int _) .nil)))) ⟨hxm,nk⟩ (B3.new mt) (((F1.trans X2).trans X3).trans (Fix.new mt))
    ·
      rw [show decide (V.str "read" = V.str "copy")=false by decide +kernel]
      refine de ⟨_,rfl,rfl,_,rfl,?_⟩
      rw [show decide (V.str "read" = V.str "put")=false by decide +kernel]
      refine de ⟨_,rfl,rfl,_,rfl,?_⟩
      rw [show decide (V.str "read" = V.str "add")=false by decide +kernel]
      refine de ⟨_,rfl,_,rfl,ln2,fun t mt=>?_⟩
      exact q _ (.read x) _ (.tup aa (.cons (.str _) (.cons (.str _) .nil))) hxm (B2.new mt) ((F1.trans X2).trans (Fix.new mt))
    ·
      rw [show decide (V.str "tell" = V.str "copy")=false by decide +kernel]
      refine de ⟨_,rfl,rfl,_,rfl,?_⟩
      rw [show decide (V.str "tell" = V.str "put")=false by decide +kernel]
      refine de ⟨_,rfl,rfl,_,rfl,?_⟩
      rw [show decide (V.str "tell" = V.str "add")=false by decide +kernel]
      refine de ⟨_,rfl,_,rfl,ln2,fun t mt=>?_⟩
      exact q _ (.tell x) _ (.tup aa (.cons (.str _) (.cons (.str _) .nil))) hxm (B2.new mt) ((F1.trans X2).trans (Fix.new mt))
theorem mH {f:Addr} {fd:FuncData} (F:dh K "_law_end" "_law_end" dZ f fd) (Z:Bl mg) (O_law_take:Own P w K mg base "_law_take" 1 ["bag", "many"] dG) (O_law_number:Own P w K mg base "_law_number" 2 ["bag"] gm):bC P w K mg base cJ 3 f fd ["bag", "names", "count"] iS:=by
  refine F.ok (k:=2) eZ (fun vs H Q E h=>?_) (fun cdv A outer s H vs Q E hr h=>?_)
  · obtain⟨b,l,xs,c,rfl,_⟩:=h
    rfl
  · obtain⟨b,l,xs,c,rfl,hB,hN,c0,c1,q⟩:=h
    refine⟨_,(af (aD (i:=3) eZ.nd rfl (Or.inl rfl) (ay O_law_take (hr.mono (by decide)) rfl (U (pv 0) (U ai ab))))
      (af (bV (aI cL (pv 3) ai (ba _))
      (ao (aP (cD (U aK ab))))
      bp)
      (af (bV (aI md (pv 3) ai (ba _))
      (ao (aP (cD (U aK (U (ay O_law_take (hr.mono (by decide)) rfl (U (pv 0) (U (pv 2) ab))) ab)))))
      bp)
      (af (aD (i:=4) eZ.nd rfl (Or.inl rfl) (aH aW (bu (U aK (U aK ab))) (aF i9 (ay O_law_take (hr.mono (by decide)) rfl (U (pv 0) (U ai ab))) ai) (fun _ _=>rfl)))
      (af (aD (i:=5) eZ.nd rfl (Or.inl rfl) (aH aW (pv 1) (ay O_law_take (hr.mono (by decide)) rfl (U (pv 0) (U (bP bK rfl Z.len eJ (U (pv 1) ab)) ab))) (fun _ _=>rfl)))
      (ao (aP (cD (U (pv 4) (U (pv 5) (U (ay O_law_number (hr.mono (by decide)) rfl (U (pv 0) ab)) (U (ay O_law_take (hr.mono (by decide)) rfl (U (pv 0) (U (pv 2) ab))) (U (ay O_law_take (hr.mono (by decide)) rfl (U (pv 0) (U (pv 2) ab))) ab))))))))))))),?_⟩
    have ck:(0:Int) < (c:Int)/\(c:Int).natAbs.log2 < 9000:=⟨by omega,eN (by omega) (by omega)⟩
    refine⟨_,rfl,b,9,rfl,hB,⟨by decide,by decide +kernel⟩,fun r H1 r0 r1 B1 X1=>?_⟩
    refine⟨_,rfl,rfl,_,rfl,?_⟩
    refine fm (fun hc=>?_) (fun hc=>?_)
    · refine⟨oT,fun t mt=>?_⟩
      exact q _ .stop _ (.tup aa (.cons (.str _) .nil)) True.intro (B1.new mt) (X1.trans (Fix.new mt))
    refine⟨_,rfl,_,_,rfl,rfl,_,rfl,?_⟩
    refine fm (fun hd=>?_) (fun hd=>?_)
    · refine⟨_,rfl,_,rfl,b,_,rfl,B1,ck,fun p H2 p0 p1 B2 X2=>⟨ln2,fun t mt=>?_⟩⟩
      obtain⟨k,rfl⟩:∃ k:Nat,p=k:=⟨p.toNat,by omega⟩
      exact q _ (.go k) _ (.tup aa (.cons (.str _) (.cons (.int _) .nil))) (show k < c by omega) (B2.new mt) ((X1.trans X2).trans (Fix.new mt))
    · refine⟨ln2,fun l0 m0=>?_⟩
      refine⟨_,rfl,b,3,rfl,B1.new m0,⟨by decide,by decide +kernel⟩,fun z H2 z0 z1 B2 X2=>⟨_,_,rfl,rfl,⟨by decide,by decide⟩,?_⟩⟩
      have h0:H2 l0=some (.lst [.str "less",.str "is"]):=X2 l0 _ aa (B1.cP m0)
      have hw:∃ w:Bool,dE [V.str "less",V.str "is"] (z / 2)=some (V.str (wT w)):=by
        obtain h | h:z / 2=0\/z / 2=1:=by omega
        · rw [h];exact⟨true,dP⟩
        · rw [h];exact⟨false,eU⟩
      obtain⟨w,hat⟩:=hw
      refine⟨l0,_,_,_,rfl,rfl,au.of h0,hat,?_⟩
      have F2:Fix b H H2:=(X1.trans (Fix.new m0)).trans X2
      have N2:=hN.fix F2
      obtain⟨p0,p1⟩:=N2.pos
      refine⟨_,rfl,_,rfl,_,rfl,l,_,rfl,.inl (au.of N2.at_),b,_,rfl,B2,⟨p0,eN p0 p1⟩,fun r3 H3 r30 r31 B3 X3=>?_⟩
      have N3:=N2.fix X3
      obtain⟨x,hx,hxm⟩:=iy r30 r31
      refine⟨l,_,r3,_,rfl,rfl,au.of N3.at_,hx,?_⟩
      refine⟨_,rfl,_,rfl,_,rfl,b,rfl,B3,fun n H4 nk B4 X4=>?_⟩
      refine⟨_,rfl,_,rfl,b,_,rfl,B4,ck,fun p H5 p0 p1 B5 X5=>?_⟩
      refine⟨_,rfl,_,rfl,b,_,rfl,B5,ck,fun p' H6 p0' p1' B6 X6=>⟨tS,fun t mt=>?_⟩⟩
      obtain⟨k,rfl⟩:∃ k:Nat,p=k:=⟨p.toNat,by omega⟩
      obtain⟨k',rfl⟩:∃ k:Nat,p' = k:=⟨p'.toNat,by omega⟩
      exact q _ (.d4 w x n k k') _ (.tup aa (.cons (.str _) (.cons (.str _) (.cons (.int _) (.cons (.int _) (.cons (.int _) .nil)))))) ⟨hxm,nk,by omega,by omega⟩ (B6.new mt) ((((F2.trans X3).trans X4).trans (X5.trans X6)).trans (Fix.new mt))
theorem lg {f:Addr} {fd:FuncData} (F:dh K "_law_plan" "_law_plan" dC f fd) (Z:Bl mg) (O_law_take:Own P w K mg base "_law_take" 1 ["bag", "many"] dG) (O_law_names:Own P w K mg base "_law_names" 2 ["bag"] jf) (O_law_deed:Own P w K mg base "_law_deed" 3 ["bag", "names"] iR) (O_law_end:Own P w K mg base "_law_end" 3 ["bag", "names", "count"] iS):bC P w K mg base cJ 4 f fd ["bag", "count", "most"] ke:=by
  refine F.ok (k:=3) cX (fun vs H Q E h=>?_) (fun cdv A outer s H vs Q E hr h=>?_)
  · obtain⟨b,c,m,rfl,_⟩:=h
    rfl
  · obtain⟨b,c,m,rfl,hB,c0,c1,hm,q⟩:=h
    refine⟨_,(af (aD (i:=3) cX.nd rfl (Or.inr rfl) (ay O_law_names (hr.mono (by decide)) rfl (U (pv 0) ab)))
      (af (aD (i:=4) cX.nd rfl (Or.inl rfl) (bu ab))
      (af (dm PassesOwn.never rfl (cH rfl Z.range (U (pv 1) ab)) (ax (i:=5) cX.nd rfl (Or.inl rfl))
      (af (aD (i:=6) cX.nd rfl (Or.inl rfl) (ay O_law_take (hr.mono (by decide)) rfl (U (pv 0) (U (aF cC (pv 2) ai) ab))))
      (af (aD (i:=7) cX.nd rfl (Or.inl rfl) (ay O_law_end (hr.mono (by decide)) rfl (U (pv 0) (U (pv 3) (U (pv 1) ab)))))
      (ao (cS (dJ PySem.F.plainAttrs_list PySem.F.slot_list_append PySem.F.type_list_append bX (pv 4) (U (cD (U (bA bB rfl Z.tuple cN (U (cg ["j"] ["bag", "names"] [0,3] rfl (cH rfl Z.range (U (pv 6) ab)) rfl (by decide +kernel) (by decide +kernel) (by decide +kernel) ⟨⟨rfl,.inl rfl,rfl⟩,⟨⟨rfl,.inl rfl,rfl⟩,True.intro⟩⟩ (fun _ _ _ _=>(ax (i:=0) (show ((["j"]:List Str)++(["bag", "names"]:List Str)).Nodup by decide +kernel) rfl (Or.inl rfl) (hf:=Or.inr rfl))) (fun _ _ _ _=>bZ) (fun _ _ _ _=>(ay O_law_deed (hr.mono (by decide)) rfl (U (pv 1) (U (pv 2) ab))))) ab)) (U (pv 7) ab))) ab)))))))
      (ao (aP (bA bB rfl Z.tuple cN (U (pv 4) ab))))))),?_⟩
    refine⟨_,rfl,b,rfl,hB,fun l xs H1 N1 x4 B1 X1=>?_⟩
    refine⟨(by show 0<=sizeLine;decide),fun pl pn=>?_⟩
    have hpb:pl ≠ b:=B1.cP pn
    refine⟨_,rfl,_,rfl,(by omega),(by omega),eI (lo:=0) (fun i σ H'=>∃ (u1 u2 u3:Option V) (ps:List Piece) (vs:List V),σ = [some (.ref b),some (.int c),some (.int m),some (.ref l),some (.ref pl),u1,u2,u3] /\
      H' pl=some (.lst vs)/\aC H' vs (ps.map cQ)/\ps.length=i/\(∀ p ∈ ps,(p.1.length<=m/\∀ d ∈ p.1,dI xs d)/\jR xs c p.2)/\cE H' b l xs/\bt H' b/\Fix b H H'/\(∀ d o,H1 d=some o->d ≠ b->H' d=some o)) ?_ ?_ ?_⟩
    · exact⟨_,_,_,[],[],rfl,aa,.nil,rfl,(fun _ h=>nomatch h),N1.fix (Fix.new pn),B1.new pn,X1.trans (Fix.new pn),Fix.new pn⟩
    · rintro i σ H' hi ⟨u1,u2,u3,ps,vs,rfl,hp,hr,hl,av,N',B',X',Y'⟩
      refine⟨_,rfl,_,rfl,_,_,rfl,rfl,b,_,rfl,B',⟨by omega,eN (by omega) (by omega)⟩,fun k H2 k0 k1 B2 X2=>?_⟩
      have N2:=N'.fix X2
      refine⟨_,rfl,_,rfl,_,rfl,b,l,xs,c,rfl,B2,N2,c0,(by omega),fun ev e H3 re ek B3 X3=>?_⟩
      have N3:=N2.fix X3
      have hp3:H3 pl=some (.lst vs):=(X2.trans X3) pl _ hp hpb
      have hr3:aC H3 vs (ps.map cQ):=hr.fix B' (X2.trans X3) (aO ps)
      refine⟨_,rfl,.inl ⟨rfl,_,au.of hp3⟩,_,rfl,_,rfl,(by omega),(by omega),fun acc na=>?_⟩
      have hab:acc ≠ b:=B3.cP na
      refine ix (lo:=0) (fun i ys τ H'=>∃ (v:Option V) (ds:List aT),τ = [v,some (.ref b),some (.ref l)]/\aC H' ys (ds.map cq)/\ds.length=i/\(∀ d ∈ ds,dI xs d)/\H' acc=some (.lst ys)/\bt H' b/\Fix b H3 H') ?_ ?_ ?_ ?_
      · exact⟨none,[],rfl,.nil,rfl,(fun _ h=>nomatch h),aa,B3.new na,Fix.new na⟩
      · rintro i' ys τ H4 hi' ⟨v,ds,rfl,rds,hl',_,ha,_⟩
        refine⟨ha,?_⟩
        rw [rds.len,List.length_map]
        exact bY (by omega)
      · rintro i' ys τ H4 hi' ⟨v,ds,rfl,rds,hl',hdk,ha,B4,X4⟩
        refine cm ?_
        refine nV ?_
        refine fH ?_
        refine⟨_,rfl,_,rfl,b,l,xs,rfl,B4,N3.fix X4,fun dv d H5 rd dk B5 X5=>?_⟩
        have ha5:=X5 acc _ ha hab
        refine⟨ha5,_,ds ++ [d],rfl,?_,(by rw [List.length_append,hl'];rfl),?_,aa,?_,?_⟩
        · rw [List.map_append]
          refine aC.app ((rds.fix B4 X5 (aZ ds)).put ha5 (aZ ds)) ?_
          exact rd.bO (fun p zs e=>by rw [ae (bF e ha5 (by intro z;cases z))];exact e) (fI d)
        · intro d' hd
          rcases List.mem_append.mp hd with hd | hd
          · exact hdk d' hd
          · rw [List.mem_singleton.mp hd];exact dk
        · obtain⟨x,y,e,z⟩:=B5
          exact⟨x,y,by rw [ae hab.symm];exact e,z⟩
        · intro d' o hd nd
          rw [ae (aG hd na)]
          exact (X4.trans X5) d' o hd nd
      · rintro ys τ H4 ⟨v,ds,rfl,rds,hl',hdk,ha,B4,X4⟩
        refine⟨acc,ys,rfl,.inl ⟨au.of ha,fun tp tn=>?_⟩⟩
        refine⟨_,rfl,ln2,fun pc pcn=>?_⟩
        have S6:ah H4 (upd (upd H4 tp (.tup ys)) pc (.tup [.ref tp,ev])):=(ah.new tn).trans (ah.new pcn)
        have hp6:(upd (upd H4 tp (.tup ys)) pc (.tup [.ref tp,ev])) pl=some (.lst vs):=S6 _ _ (X4 pl _ hp3 hpb)
        refine⟨pl,_,_,rfl,rfl,hp6,?_,?_⟩
        · rw [hr.len,List.length_map,hl]
          exact bY (by omega)
        have hpiece:aR (upd (upd H4 tp (.tup ys)) pc (.tup [.ref tp,ev])) (.ref pc) (cQ (ds,e)):=by
          refine .tup aa (.cons (.tup (ah.new pcn _ _ aa) (rds.same S6 (aZ ds))) (.cons ?_ .nil))
          exact (re.fix B3 X4 (eX e)).same S6 (eX e)
        have F6:Fix b H (upd (upd H4 tp (.tup ys)) pc (.tup [.ref tp,ev])):=((X'.trans (X2.trans X3)).trans X4).trans (Fix.of_same S6)
        have plH:∀ d o,H1 d=some o->d ≠ b->d ≠ pl:=fun d o hd nd z=>by rw [z,pn] at hd;cases hd
        refine⟨_,_,_,ps ++ [(ds,e)],vs ++ [.ref pc],rfl,aa,?_,(by rw [List.length_append,hl];rfl),?_,?_,?_,?_,?_⟩
        · rw [List.map_append]
          refine aC.app (((hr3.fix B3 X4 (aO ps)).same S6 (aO ps)).put hp6 (aO ps)) ?_
          exact hpiece.bO (fun p zs e=>by rw [ae (bF e hp6 (by intro z;cases z))];exact e) (ft (ds,e))
        · intro p hpm
          rcases List.mem_append.mp hpm with hpm | hpm
          · exact av p hpm
          · rw [List.mem_singleton.mp hpm]
            exact⟨⟨by show ds.length<=m;omega,hdk⟩,ek⟩
        · have hll:l ≠ pl:=fun z=>by
            have:=N1.at_
            rw [z,pn] at this
            cases this
          have N6:=(N3.fix X4).fix (Fix.of_same (b:=b) S6)
          exact⟨by rw [ae hll];exact N6.at_,N6.ne,N6.jS,N6.jE,N6.ok⟩
        · obtain⟨x,y,e',z⟩:=B4.same S6
          exact⟨x,y,by rw [ae hpb.symm];exact e',z⟩
        · intro d o hd nd
          have h1:=X1 d o hd nd
          rw [ae (plH d o h1 nd)]
          exact F6 d o hd nd
        · intro d o hd nd
          rw [ae (plH d o hd nd)]
          exact S6 d o (X4 d o ((X2.trans X3) d o (Y' d o hd nd) nd) nd)
    · rintro σ H' ⟨u1,u2,u3,ps,vs,rfl,hp,hr,hl,av,N',B',X',Y'⟩
      have hl':ps.length=c:=by rw [hl];omega
      refine⟨_,rfl,pl,_,rfl,.inl ⟨au.of hp,fun tp tn=>?_⟩⟩
      refine q (.ref tp) xs ps _ (.tup aa (hr.same (ah.new tn) (aO ps))) hl' ⟨fun p hpm=>(av p hpm).1,fun p hpm=>?_⟩ ⟨N'.ok,x4⟩ (B'.new tn) (X'.trans (Fix.new tn))
      rw [hl']
      exact (av p hpm).2
theorem kO {f:Addr} {fd:FuncData} (F:dh K "_law_count" "_law_count" cY f fd) (Z:Bl mg) (O_law_take:Own P w K mg base "_law_take" 1 ["bag", "many"] dG):bC P w K mg base cJ 2 f fd ["bag", "most"] jg:=by
 refine F.ok (k:=1) kL (fun vs H Q E h=>?_) (fun cdv A outer s H vs Q E hr h=>?_)
 ·obtain⟨b,m,rfl,_⟩:=h
  rfl
 ·obtain⟨b,m,rfl,hB,m0,m1,q⟩:=h
  refine⟨_,(ao (aP (aH aW (bu (U (aF cC ai (ay O_law_take (hr.mono (by decide)) rfl (U (pv 0) (U (pv 1) ab)))) (U (aF cC ai (ay O_law_take (hr.mono (by decide)) rfl (U (pv 0) (U (bP (mR rfl) rfl Z.min qJ (U ai (U (pv 1) ab))) ab)))) (U (pv 1) ab)))) (ay O_law_take (hr.mono (by decide)) rfl (U (pv 0) (U ai ab))) (fun _ _=>rfl)))),?_⟩
  refine⟨_,rfl,_,rfl,b,_,rfl,hB,⟨by omega,eN (by omega) (by omega)⟩,fun r H1 r0 r1 B1 X1=>⟨_,_,rfl,rfl,?_⟩⟩
  refine⟨_,rfl,_,rfl,_,_,rfl,b,_,rfl,B1,⟨(by split <;> omega),eN (by split <;> omega) (by split <;> omega)⟩,fun r2 H2 r20 r21 B2 X2=>⟨_,_,rfl,rfl,?_⟩⟩
  refine⟨_,rfl,oU,fun l0 n0=>?_⟩
  refine⟨_,rfl,b,3,rfl,B2.new n0,⟨by decide,by decide +kernel⟩,fun z H3 z0 z1 B3 X3=>?_⟩
  have h0:H3 l0=some (.lst [.int (1+r),.int (1+r2),.int m]):=X3 l0 _ aa (B2.cP n0)
  have hr2:r2 < 4:=by
   have:=r21
   split at this <;> omega
  have F3:Fix b H H3:=((X1.trans X2).trans (Fix.new n0)).trans X3
  obtain rfl | rfl | rfl:z=0\/z=1\/z=2:=by omega
  ·refine⟨l0,_,0,_,rfl,rfl,au.of h0,dP,?_⟩
   have e:(1+r)=(((1+r).toNat:Nat):Int):=by omega
   rw [e]
   exact q _ H3 (by omega) (by omega) B3 F3
  ·refine⟨l0,_,1,_,rfl,rfl,au.of h0,eU,?_⟩
   have e:(1+r2)=(((1+r2).toNat:Nat):Int):=by omega
   rw [e]
   exact q _ H3 (by omega) (by omega) B3 F3
  ·refine⟨l0,_,2,_,rfl,rfl,au.of h0,at2,?_⟩
   exact q _ H3 m0 (by omega) B3 F3
theorem kP {f:Addr} {fd:FuncData} (F:dh K "_law_ahead" "_law_ahead" cZ f fd) (Z:Bl mg)  : bC P w K mg base cJ 1 f fd ["deed", "names"] jr:=by
  refine F.ok (k:=0) eh (fun vs H Q E h=>?_) (fun cdv A outer s H vs Q E hr h=>?_)
  · obtain⟨dp,l,d,ns,rfl,_⟩:=h
    rfl
  · obtain⟨dp,l,d,ns,rfl,hdp,hl,hnd,hnl,q⟩:=h
    refine⟨_,(af (fc (cD (U (aH bJ (pv 0) ai (fun _ _=>rfl)) (U (aH bJ (pv 0) ai (fun _ _=>rfl)) ab))) (eF rfl (bo (ax (i:=2) eh.nd rfl (Or.inl rfl)) (bo (ax (i:=3) eh.nd rfl (Or.inr rfl)) dN))))
      (af (bV (PW.pt (j0 (aI cL (pv 2) aK (ba _)) (i8 (aI fj (pv 3) (pv 1) (by with_unfolding_all rfl)))))
      (ao (aP (aF mW (pv 1) (bu (U (pv 3) ab)))))
      bp)
      (af (bV (PW.pt (oH (aI cL (pv 2) aK (ba _)) (mN (aI cL (pv 2) aK (ba _)))))
      (ao (aP (cg ["one"] ["name"] [3] rfl (cB (pv 1)) rfl (by decide +kernel) (by decide +kernel) (by decide +kernel) ⟨⟨rfl,.inl rfl,rfl⟩,True.intro⟩ (fun _ _ _ _=>(ax (i:=0) (show ((["one"]:List Str)++(["name"]:List Str)).Nodup by decide +kernel) rfl (Or.inl rfl) (hf:=Or.inr rfl))) (fun _ _ _ _=>(e6 (aI ma (pv 0) (pv 1) (ba _)))) (fun _ _ _ _=>(pv 0)))))
      bp)
      (af (bV (PW.pt (j0 (aI cL (pv 2) aK (ba _)) (i8 (aI jB (pv 3) (pv 1) (by with_unfolding_all rfl)))))
      (af (aD (i:=4) eh.nd rfl (Or.inr rfl) (cg ["one"] ["name"] [3] rfl (cB (pv 1)) rfl (by decide +kernel) (by decide +kernel) (by decide +kernel) ⟨⟨rfl,.inl rfl,rfl⟩,True.intro⟩ (fun _ _ _ _=>(ax (i:=0) (show ((["one"]:List Str)++(["name"]:List Str)).Nodup by decide +kernel) rfl (Or.inl rfl) (hf:=Or.inr rfl))) (fun _ _ _ _=>(e6 (aI ma (pv 0) (pv 1) (ba _)))) (fun _ _ _ _=>(pv 0))))
      (ao (aP (aF mW (pv 4) (cg ["one"] ["left"] [4] rfl (cB (bu (U (aH bJ (pv 0) ai (fun _ _=>rfl)) ab))) rfl (by decide +kernel) (by decide +kernel) (by decide +kernel) ⟨⟨rfl,.inl rfl,rfl⟩,True.intro⟩ (fun _ _ _ _=>(ax (i:=0) (show ((["one"]:List Str)++(["left"]:List Str)).Nodup by decide +kernel) rfl (Or.inl rfl) (hf:=Or.inr rfl))) (fun _ _ _ _=>(e6 (aI (jJ (K:=K) rfl) (pv 0) (pv 1) (by with_unfolding_all rfl)))) (fun _ _ _ _=>(pv 0)))))))
      bp)
      (ao (aP (pv 1))))))),?_⟩
    have e0:dE (jU d) 0=some (V.str (wD d)):=by cases d <;> exact dP
    refine⟨_,rfl,dp,_,0,_,rfl,rfl,aw.of hdp,e0,_,rfl,dp,_,1,_,rfl,rfl,aw.of hdp,nZ d,ln2,fun t0 nt0=>⟨t0,_,rfl,aw.of aa,rfl,_,_,rfl,_,_,rfl,rfl,?_⟩⟩
    have st0:=ah.new (o:=.tup [.str (wD d),.str (hX d)]) nt0
    have hdp:=st0 _ _ hdp
    have hl:=st0 _ _ hl
    have q:∀ (l':Addr) (ns':List Str) H',H' l' = some (.lst (ns'.map V.str))->ns'.Nodup->(∀ x,x ∈ ns' ↔ cz (· ∈ ns) d x)->(l' = l\/(upd H t0 (.tup [.str (wD d),.str (hX d)])) l' = none)->ah (upd H t0 (.tup [.str (wD d),.str (hX d)])) H'->Q (.ref l') H':=fun l' ns' H' a b c f s=>q l' ns' H' a b c (f.imp id fun z=>st0.free z) (st0.trans s)
    change (_:Hp->Prop) (upd H t0 (.tup [.str (wD d),.str (hX d)]))
    generalize (upd H t0 (.tup [.str (wD d),.str (hX d)]))=H at hdp hl q
    clear st0 nt0
    cases d with
    | tell y =>
      refine⟨_,rfl,rfl,_,rfl,?_⟩
      refine bH (show decide (V.str "tell" = V.str "tell")=true by decide +kernel) ?_
      refine⟨_,rfl,_,rfl,l,_,rfl,.inl (au.of hl),rfl,eQ ns,_,rfl,?_⟩
      refine fm (fun hc=>?_) (fun hc=>?_)
      · have hy:y ∉ ns:=by
          have hc:(!fC (V.str y) (ns.map V.str))=true:=hc
          rw [en] at hc
          simpa using hc
        refine⟨_,rfl,_,rfl,oT,fun p np=>⟨l,p,_,_,rfl,rfl,ah.new np _ _ hl,aa,(by rw [List.length_map];exact Nat.le_of_lt (bY (by show _+1<=1000;omega))),fun p2 np2=>?_⟩⟩
        refine q p2 (ns ++ [y]) _ (by rw [List.map_append];exact aa) ?_ (fun x=>?_) (.inr ((ah.new np).free np2)) ((ah.new np).trans (ah.new np2))
        · rw [List.nodup_append]
          exact⟨hnd,by simp,fun a ha b hb z=>by rw [List.mem_singleton] at hb;subst hb;subst z;exact hy ha⟩
        · rw [List.mem_append,List.mem_singleton]
          exact or_comm
      · have hy:y ∈ ns:=by
          have hc:¬ (!fC (V.str y) (ns.map V.str))=true:=hc
          rw [en] at hc
          simpa using hc
        refine⟨_,rfl,rfl,_,rfl,?_⟩
        refine aM (show decide (V.str "tell" = V.str "put")=false by decide +kernel) ?_
        refine⟨_,rfl,rfl,_,rfl,?_⟩
        refine aM (show decide (V.str "tell" = V.str "read")=false by decide +kernel) ?_
        refine⟨_,rfl,rfl,_,rfl,?_⟩
        refine aM (show decide (V.str "tell" = V.str "copy")=false by decide +kernel) (de ?_)
        refine⟨_,rfl,q l ns H hl hnd (fun x=>⟨.inr,fun h=>?_⟩) (.inl rfl) (ah.refl H)⟩
        rcases h with h | h
        · rw [h];exact hy
        · exact h
    | put y n =>
      refine⟨_,rfl,rfl,_,rfl,?_⟩
      refine aM (show decide (V.str "put" = V.str "tell")=false by decide +kernel) (de ?_)
      refine⟨_,rfl,rfl,_,rfl,?_⟩
      refine bH (show decide (V.str "put" = V.str "put")=true by decide +kernel) (fH ?_)
      refine⟨_,rfl,l,rfl,⟨_,au.of hl⟩,fun acc na=>?_⟩
      refine cT (K:=K) (a:=l) (xs:=ns.map V.str) (fun i ys τ H'=>∃ c1:Option V,τ = [c1,some (.str y)]/\ys=(ns.take i |>.filter fun z=>!decide (z=y)).map V.str/\H' acc=some (.lst ys)/\ah H H') ?_ ?_ ?_ ?_
      · exact⟨none,rfl,rfl,aa,ah.new na⟩
      · rintro i ys τ H2 hi ⟨c1,rfl,rfl,h1,h2⟩
        refine⟨au.of (h2 _ _ hl),h1,aB ?_⟩
        rw [List.length_map]
        have g1:=List.length_filter_le (fun z=>!decide (z=y)) (ns.take i)
        rw [List.length_take] at g1
        omega
      · rintro i x ys τ H2 hx ⟨c1,rfl,rfl,h1,h2⟩
        rw [List.getElem?_map] at hx
        cases hz:ns[i]? with
        | none=>rw [hz] at hx;cases hx
        | some z =>
          rw [hz] at hx
          cases hx
          refine cm ?_
          refine⟨_,rfl,_,rfl,rfl,_,rfl,?_⟩
          have ht:(ns.take (i+1)).filter (fun z=>!decide (z=y))=(ns.take i).filter (fun z=>!decide (z=y))++(if z=y then [] else [z]):=by
            rw [List.take_add_one,hz,List.filter_append]
            by_cases e:z=y
            · simp [e]
            · simp [e]
          by_cases e:z=y
          · refine aM (by subst e;simp) ?_
            exact⟨_,rfl,(by rw [ht,if_pos e,List.append_nil]),h1,h2⟩
          · refine bH (by simp [e]) ?_
            refine⟨_,rfl,h1,_,rfl,(by rw [ht,if_neg e,List.map_append];rfl),(by rw [aa]),h2.put na⟩
      · rintro ys τ H2 ⟨c1,rfl,rfl,h1,h2⟩
        rw [List.length_map,List.take_of_length_le (Nat.le_refl _)] at h1
        refine q acc _ H2 h1 (hnd.filter _) (fun x=>?_) (.inr na) h2
        rw [List.mem_filter]
        show _ ↔ x ≠ y/\x ∈ ns
        simp [and_comm]
    | read y =>
      refine⟨_,rfl,rfl,_,rfl,?_⟩
      refine aM (show decide (V.str "read" = V.str "tell")=false by decide +kernel) (de ?_)
      refine⟨_,rfl,rfl,_,rfl,?_⟩
      refine aM (show decide (V.str "read" = V.str "put")=false by decide +kernel) ?_
      refine⟨_,rfl,rfl,_,rfl,?_⟩
      refine bH (show decide (V.str "read" = V.str "read")=true by decide +kernel) ?_
      refine⟨_,rfl,l,rfl,⟨_,au.of hl⟩,fun acc na=>?_⟩
      refine cT (K:=K) (a:=l) (xs:=ns.map V.str) (fun i ys τ H'=>∃ c1:Option V,τ = [c1,some (.str y)]/\ys=(ns.take i |>.filter fun z=>!decide (z=y)).map V.str/\H' acc=some (.lst ys)/\ah H H') ?_ ?_ ?_ ?_
      · exact⟨none,rfl,rfl,aa,ah.new na⟩
      · rintro i ys τ H2 hi ⟨c1,rfl,rfl,h1,h2⟩
        refine⟨au.of (h2 _ _ hl),h1,aB ?_⟩
        rw [List.length_map]
        have g1:=List.length_filter_le (fun z=>!decide (z=y)) (ns.take i)
        rw [List.length_take] at g1
        omega
      · rintro i x ys τ H2 hx ⟨c1,rfl,rfl,h1,h2⟩
        rw [List.getElem?_map] at hx
        cases hz:ns[i]? with
        | none=>rw [hz] at hx;cases hx
        | some z =>
          rw [hz] at hx
          cases hx
          refine cm ?_
          refine⟨_,rfl,_,rfl,rfl,_,rfl,?_⟩
          have ht:(ns.take (i+1)).filter (fun z=>!decide (z=y))=(ns.take i).filter (fun z=>!decide (z=y))++(if z=y then [] else [z]):=by
            rw [List.take_add_one,hz,List.filter_append]
            by_cases e:z=y
            · simp [e]
            · simp [e]
          by_cases e:z=y
          · refine aM (by subst e;simp) ?_
            exact⟨_,rfl,(by rw [ht,if_pos e,List.append_nil]),h1,h2⟩
          · refine bH (by simp [e]) ?_
            refine⟨_,rfl,h1,_,rfl,(by rw [ht,if_neg e,List.map_append];rfl),(by rw [aa]),h2.put na⟩
      · rintro ys τ H2 ⟨c1,rfl,rfl,h1,h2⟩
        rw [List.length_map,List.take_of_length_le (Nat.le_refl _)] at h1
        refine q acc _ H2 h1 (hnd.filter _) (fun x=>?_) (.inr na) h2
        rw [List.mem_filter]
        show _ ↔ x ≠ y/\x ∈ ns
        simp [and_comm]
    | add y n =>
      refine⟨_,rfl,rfl,_,rfl,?_⟩
      refine aM (show decide (V.str "add" = V.str "tell")=false by decide +kernel) (de ?_)
      refine⟨_,rfl,rfl,_,rfl,?_⟩
      refine aM (show decide (V.str "add" = V.str "put")=false by decide +kernel) ?_
      refine⟨_,rfl,rfl,_,rfl,?_⟩
      refine aM (show decide (V.str "add" = V.str "read")=false by decide +kernel) ?_
      refine⟨_,rfl,rfl,_,rfl,?_⟩
      refine aM (show decide (V.str "add" = V.str "copy")=false by decide +kernel) (de ?_)
      exact⟨_,rfl,q l ns H hl hnd (fun x=>Iff.rfl) (.inl rfl) (ah.refl H)⟩
    | copy y z =>
      refine⟨_,rfl,rfl,_,rfl,?_⟩
      refine aM (show decide (V.str "copy" = V.str "tell")=false by decide +kernel) (de ?_)
      refine⟨_,rfl,rfl,_,rfl,?_⟩
      refine aM (show decide (V.str "copy" = V.str "put")=false by decide +kernel) ?_
      refine⟨_,rfl,rfl,_,rfl,?_⟩
      refine aM (show decide (V.str "copy" = V.str "read")=false by decide +kernel) ?_
      refine⟨_,rfl,rfl,_,rfl,?_⟩
      refine bH (show decide (V.str "copy" = V.str "copy")=true by decide +kernel) ?_
      refine⟨_,rfl,_,rfl,l,_,rfl,.inl (au.of hl),rfl,eQ ns,_,rfl,?_⟩
      refine fm (fun hc=>?_) (fun hc=>?_)
      · have hy:y ∈ ns:=by
          have hc:fC (V.str y) (ns.map V.str)=true:=hc
          rw [en] at hc
          simpa using hc
        refine⟨_,rfl,l,rfl,⟨_,au.of hl⟩,fun acc na=>?_⟩
        refine cT (K:=K) (a:=l) (xs:=ns.map V.str) (fun i ys τ H'=>∃ c1:Option V,τ = [c1,some (.str y)]/\ys=(ns.take i |>.filter fun z=>!decide (z=y)).map V.str/\H' acc=some (.lst ys)/\ah H H') ?_ ?_ ?_ ?_
        · exact⟨none,rfl,rfl,aa,ah.new na⟩
        · rintro i ys τ H2 hi ⟨c1,rfl,rfl,h1,h2⟩
          refine⟨au.of (h2 _ _ hl),h1,aB ?_⟩
          rw [List.length_map]
          have g1:=List.length_filter_le (fun z=>!decide (z=y)) (ns.take i)
          rw [List.length_take] at g1
          omega
        · rintro i x ys τ H2 hx ⟨c1,rfl,rfl,h1,h2⟩
          rw [List.getElem?_map] at hx
          cases hz:ns[i]? with
          | none=>rw [hz] at hx;cases hx
          | some z =>
            rw [hz] at hx
            cases hx
            refine cm ?_
            refine⟨_,rfl,_,rfl,rfl,_,rfl,?_⟩
            have ht:(ns.take (i+1)).filter (fun z=>!decide (z=y))=(ns.take i).filter (fun z=>!decide (z=y))++(if z=y then [] else [z]):=by
              rw [List.take_add_one,hz,List.filter_append]
              by_cases e:z=y
              · simp [e]
              · simp [e]
            by_cases e:z=y
            · refine aM (by subst e;simp) ?_
              exact⟨_,rfl,(by rw [ht,if_pos e,List.append_nil]),h1,h2⟩
            · refine bH (by simp [e]) ?_
              refine⟨_,rfl,h1,_,rfl,(by rw [ht,if_neg e,List.map_append];rfl),(by rw [aa]),h2.put na⟩
        · rintro ys τ H2 ⟨c1,rfl,rfl,h1,h2⟩
          rw [List.length_map,List.take_of_length_le (Nat.le_refl _)] at h1
          refine cm ?_
          have hnf:(ns.filter fun z=>!decide (z=y)).Nodup:=hnd.filter _
          have hmf:∀ x,x ∈ (ns.filter fun z=>!decide (z=y)) ↔ x ≠ y/\x ∈ ns:=fun x=>by rw [List.mem_filter];simp [and_comm]
          have hlf:(ns.filter fun z=>!decide (z=y)).length<=100:=Nat.le_trans (List.length_filter_le _ _) hnl
          generalize (ns.filter fun z=>!decide (z=y))=lf at h1 hnf hmf hlf
          refine⟨_,rfl,_,rfl,dp,_,2,_,rfl,rfl,aw.of (h2 _ _ hdp),at2,oT,fun p np=>⟨p,rfl,⟨_,au.of aa⟩,fun acc2 na2=>?_⟩⟩
          have sp:=ah.new (o:=.lst [.str z]) np
          have h1':=sp _ _ h1
          have hp':(upd H2 p (.lst [.str z])) p=some (.lst [.str z]):=aa
          generalize (upd H2 p (.lst [.str z]))=H3 at sp h1' hp' na2
          refine cT (K:=K) (a:=p) (xs:=[V.str z]) (fun i ys τ H'=>∃ c1:Option V,τ = [c1,some (.ref acc)]/\ys=(if i=0 then [] else (if z ∈ lf then [] else [V.str z]))/\H' acc2=some (.lst ys)/\ah H3 H') ?_ ?_ ?_ ?_
          · exact⟨none,rfl,rfl,aa,ah.new na2⟩
          · rintro i ys τ H4 hi ⟨c1,rfl,rfl,g1,g2⟩
            refine⟨au.of (g2 _ _ hp'),g1,aB ?_⟩
            split
            · exact Nat.zero_le _
            · split
              · exact Nat.zero_le _
              · show 1<=_;decide
          · rintro i x ys τ H4 hx ⟨c1,rfl,rfl,g1,g2⟩
            have hi0:i=0:=by
              have:=(List.getElem?_eq_some_iff.mp hx).1
              simp at this
              exact this
            subst hi0
            cases hx
            refine cm ?_
            refine⟨_,rfl,_,rfl,acc,_,rfl,.inl (au.of (g2 _ _ h1')),rfl,eQ lf,_,rfl,?_⟩
            have hin:(!fC (V.str z) (lf.map V.str)) = !decide (z ∈ lf):=by rw [en]
            by_cases e:z ∈ lf
            · refine aM (by show (!fC (V.str z) (lf.map V.str))=false;rw [hin];simp [e]) ?_
              exact⟨_,rfl,(by simp [e]),g1,g2⟩
            · refine bH (by show (!fC (V.str z) (lf.map V.str))=true;rw [hin];simp [e]) ?_
              exact⟨_,rfl,g1,_,rfl,(by simp [e]),aa,g2.put na2⟩
          · rintro ys τ H4 ⟨c1,rfl,rfl,g1,g2⟩
            rw [if_neg (show ¬ [V.str z].length=0 by simp)] at g1
            have tail:∀ (zs:List Str) H',H' acc2=some (.lst (zs.map V.str))->zs.length<=1->ah H3 H'->(lf++zs).Nodup->(∀ x,x ∈ lf++zs ↔ cz (· ∈ ns) (.copy y z) x)->∃ l b xs zs,V.ref acc=.ref l/\V.ref acc2=.ref b/\H' l=some (.lst xs)/\H' b=some (.lst zs)/\xs.length+zs.length<=sizeLine/\∀ p,H' p=none->Q (.ref p) (upd H' p (.lst (xs++zs))):=fun zs H' a1 a2 a3 a4 a5=>by
              refine⟨acc,acc2,_,_,rfl,rfl,a3 _ _ h1',a1,(by rw [List.length_map,List.length_map];exact Nat.le_of_lt (bY (by omega))),fun p4 np4=>?_⟩
              exact q p4 (lf++zs) _ (by rw [List.map_append];exact aa) a4 a5 (.inr (h2.free (sp.free (a3.free np4)))) ((h2.trans sp).trans (a3.trans (ah.new np4)))
            by_cases e:z ∈ lf
            · rw [if_pos e] at g1
              refine tail [] H4 g1 (by decide) g2 (by simpa using hnf) fun x=>?_
              rw [List.append_nil,hmf x]
              refine⟨.inl,fun h=>h.elim id fun h=>?_⟩
              rw [h.1]
              exact (hmf z).mp e
            · rw [if_neg e] at g1
              refine tail [z] H4 g1 (Nat.le_refl 1) g2 ?_ fun x=>?_
              · rw [List.nodup_append]
                exact⟨hnf,by simp,fun a ha b hb zz=>by rw [List.mem_singleton] at hb;subst hb;subst zz;exact e ha⟩
              · rw [List.mem_append,hmf x,List.mem_singleton]
                exact⟨fun h=>h.elim .inl fun h=>.inr ⟨h,hy⟩,fun h=>h.elim .inl fun h=>.inr h.1⟩
      · have hy:y ∉ ns:=by
          have hc:¬ fC (V.str y) (ns.map V.str)=true:=hc
          rw [en] at hc
          simpa using hc
        refine⟨_,rfl,q l ns H hl hnd (fun x=>⟨fun h=>.inl ⟨fun e=>hy (e ▸ h),h⟩,fun h=>?_⟩) (.inl rfl) (ah.refl H)⟩
        rcases h with h | h
        · exact h.2
        · exact absurd h.2 hy
theorem ic {f:Addr} {fd:FuncData} (F:dh K "_law_behind_all" "_law_behind_all" bD f fd) (Z:Bl mg)  : bC P w K mg base cJ 1 f fd ["plan", "piece", "rows"] fN:=by
  refine F.ok (k:=0) cA (fun vs H Q E h=>?_) (fun cdv A outer s H vs Q E hr h=>?_)
  · obtain⟨plv,rl,ps,F,k,ds,e,rfl,_⟩:=h
    rfl
  · obtain⟨plv,rl,ps,F,k,ds,e,rfl,hp,hin,hpk,hF,hpl,hR,hrow,q⟩:=h
    refine⟨_,(af (aD (i:=3) cA.nd rfl (Or.inl rfl) (aH bJ (aH bJ (pv 0) (pv 1) (fun _ _=>rfl)) ai (fun _ _=>rfl)))
      (af (aD (i:=4) cA.nd rfl (Or.inr rfl) (bu ab))
      (af (m3 (bV (aI cL (bP bK rfl Z.len eJ (U (pv 3) ab)) ai (ba _))
      (ao (cS (dJ PySem.F.plainAttrs_list PySem.F.slot_list_append PySem.F.type_list_append bX (pv 4) (U (aH bJ (pv 3) ai (fun _ _=>rfl)) ab))))
      bp))
      (af (dm PassesOwn.never rfl (fe (j6 mT (pv 3) (jb (aF gN (bP bK rfl Z.len eJ (U (pv 3) ab)) (eO (eV hr) (pG (kj aK ai (kj aK ai pF)) rfl rfl (List.cons_ne_nil _ _) (by show 2<=15;decide)) (aH bJ (pv 3) ai (fun _ _=>rfl)) ai ⟨rfl,rfl,rfl,rfl⟩))) lI)) (ax (i:=5) cA.nd rfl (Or.inl rfl))
      (ao (cS (dJ PySem.F.plainAttrs_list PySem.F.slot_list_extend PySem.F.type_list_extend jC (pv 4) (U (cg ["name"] ["names"] [4] rfl (cB (aH aW (pv 2) (pv 5) (fun _ _=>rfl))) rfl (by decide +kernel) (by decide +kernel) (by decide +kernel) ⟨⟨rfl,.inl rfl,rfl⟩,True.intro⟩ (fun _ _ _ _=>(ax (i:=0) (show ((["name"]:List Str)++(["names"]:List Str)).Nodup by decide +kernel) rfl (Or.inl rfl) (hf:=Or.inr rfl))) (fun _ _ _ _=>(e6 (aI (jJ (K:=K) rfl) (pv 0) (pv 1) (by with_unfolding_all rfl)))) (fun _ _ _ _=>(pv 0))) ab)))))
      (ao (aP (pv 4))))))),?_⟩
    obtain⟨p',xs',pc,da,ea,ws,ep,e1,el,hx,e2,e3,r3,e4⟩:=gr hp hpk
    subst ep
    refine⟨_,rfl,_,rfl,p',_,_,_,rfl,rfl,aw.of e1,bg hx,pc,_,1,_,rfl,rfl,aw.of e2,eU,?_⟩
    refine⟨(by show 0<=sizeLine;decide),fun na nna=>?_⟩
    have s0:=ah.new (o:=.lst []) nna
    have hna0:(upd H na (.lst [])) na=some (.lst []):=aa
    generalize (upd H na (.lst []))=H0 at s0 hna0
    refine⟨fun σ' H'=>σ' = [some (.ref p'),some (.int (k:Nat)),some (.ref rl),some (.ref ea),some (.ref na),none]/\H' na=some (.lst ((bf e).map V.str))/\ah H H',?_,?_⟩
    · refine⟨_,rfl,ea,_,rfl,.inr (aw.of (s0 _ _ e4)),rfl,_,rfl,?_⟩
      cases e with
      | stop =>
        refine aM (show decide (V.int ((1:Nat):Int)=V.int 5)=false by decide +kernel) ?_
        exact⟨rfl,hna0,s0⟩
      | go q1 =>
        refine aM (show decide (V.int ((2:Nat):Int)=V.int 5)=false by decide +kernel) ?_
        exact⟨rfl,hna0,s0⟩
      | d4 b x n q1 q2 =>
        refine bH (show decide (V.int ((5:Nat):Int)=V.int 5)=true by decide +kernel) ?_
        refine⟨_,rfl,.inl ⟨rfl,_,au.of hna0⟩,_,rfl,ea,_,1,_,rfl,rfl,aw.of (s0 _ _ e4),eU,na,_,_,rfl,rfl,hna0,(by show 0 < sizeLine;decide),?_⟩
        exact⟨rfl,aa,s0.put nna⟩
    rintro σ' H1 ⟨rfl,hna,s1⟩
    have e0:dE (fK e) 0=some (V.str (wE e)):=by cases e <;> exact dP
    refine⟨_,rfl,_,rfl,ea,_,rfl,.inr (aw.of (s1 _ _ e4)),?_⟩
    refine fun nd nnd=>⟨aa,[(Sum.inr "stop",.int 0),(Sum.inr "go",.int 1)],rfl,(by decide),?_⟩
    have hnd:(upd (upd H1 nd (.dK [])) nd (.dK (dr [] [((Sum.inr ("stop" : Str):Key),V.int 0),(Sum.inr ("go" : Str),V.int 1)]))) nd=some (.dK (dr [] [((Sum.inr ("stop" : Str):Key),V.int 0),(Sum.inr ("go" : Str),V.int 1)])):=aa
    have s2:ah H1 (upd (upd H1 nd (.dK [])) nd (.dK (dr [] [((Sum.inr ("stop" : Str):Key),V.int 0),(Sum.inr ("go" : Str),V.int 1)]))):=(ah.new nnd).put nnd
    have hcut:(bW (dr [] [((Sum.inr ("stop" : Str):Key),V.int 0),(Sum.inr ("go" : Str),V.int 1)]) (Sum.inr (wE e):Key)).getD (.int 2)=.int ((aU e).length:Nat):=by
      cases e with
      | stop=>rfl
      | go _=>rfl
      | d4 b _ _ _ _=>cases b <;> rfl
    refine⟨nd,rfl,.inl ⟨_,.inl hnd⟩,?_⟩
    generalize (upd (upd H1 nd (.dK [])) nd (.dK (dr [] [((Sum.inr ("stop" : Str):Key),V.int 0),(Sum.inr ("go" : Str),V.int 1)])))=H2 at hnd s2
    generalize (dr [] [((Sum.inr ("stop" : Str):Key),V.int 0),(Sum.inr ("go" : Str),V.int 1)])=kd at hcut hnd
    refine⟨_,rfl,ea,_,0,_,rfl,rfl,aw.of (s2 _ _ (s1 _ _ e4)),e0,_,_,eS.k (k:=Sum.inr (wE e)) hnd,hcut,_,_,rfl,rfl,_,rfl,?_⟩
    refine⟨ea,_,rfl,aw.of (s2 _ _ (s1 _ _ e4)),(by cases e <;> simp [fK,aU,HT.aS]),fun wp nwp=>?_⟩
    have hcv:gP (fK e) (some (((fK e).length:Int) - ((aU e).length:Nat))) none=vN (aU e):=by
      cases e <;> rfl
    rw [hcv]
    have s3:=ah.new (o:=.tup (vN (aU e))) nwp
    have hwp:(upd H2 wp (.tup (vN (aU e)))) wp=some (.tup (vN (aU e))):=aa
    have hna3:=s3 _ _ (s2 _ _ hna)
    have s13:=(s1.trans s2).trans s3
    generalize (upd H2 wp (.tup (vN (aU e))))=H3 at s3 hwp hna3 s13
    refine⟨wp,rfl,⟨_,aw.of hwp⟩,?_⟩
    have hnw:na ≠ wp:=bF hna3 hwp (by intro z;cases z)
    have hends:=gY e
    refine hG (K:=K) (a:=wp) (xs:=vN (aU e)) (fun j σ H'=>∃ (ns:List Str) (u4:Option V),σ = [some (.ref p'),some (.int (k:Nat)),some (.ref rl),some (.ref ea),some (.ref na),u4]/\H' na=some (.lst (ns.map V.str))/\ns.length<=1+100 * j/\ns.Nodup/\(∀ x,x ∈ ns ↔ x ∈ bf e\/∃ k ∈ (aU e).take j,bT F k x)/\H' wp=some (.tup (vN (aU e)))/\ah H H') ?_ ?_ ?_ ?_
    · refine⟨bf e,_,rfl,hna3,?_,?_,(by simp),hwp,s13⟩
      · cases e <;> simp [bf]
      · cases e <;> simp [bf]
    · rintro j σ H5 hj ⟨ns,u4,rfl,g1,g2,g3,g4,g5,g6⟩
      exact aw.of g5
    · rintro j y σ H5 hy ⟨ns,u4,rfl,g1,g2,g3,g4,g5,g6⟩
      rw [List.getElem?_map] at hy
      cases hwj:(aU e)[j]? with
      | none=>rw [hwj] at hy;cases hy
      | some w =>
        rw [hwj] at hy
        cases hy
        have hj2:j < 2:=by
          have h9:=(List.getElem?_eq_some_iff.mp hwj).1
          omega
        have hw:w < F.length:=by rw [hF];exact kB hin hpk w (List.mem_of_getElem? hwj)
        have hFw:F[w]? = some F[w]:=by simp [hw]
        generalize F[w] = fs at hFw
        obtain⟨fn,fl⟩:=hrow w fs hFw
        obtain⟨rvs,hrl,hRV⟩:=hR.same g6
        obtain⟨fa,hfa1,hfa2,hfa3⟩:=hRV.2 w fs hFw
        refine cm ?_
        refine⟨_,rfl,.inl ⟨rfl,_,au.of g1⟩,_,rfl,_,rfl,rl,_,_,_,rfl,rfl,au.of hrl,bg hfa1,fa,rfl,⟨_,au.of hfa3⟩,fun acc nacc=>?_⟩
        refine cT (K:=K) (a:=fa) (xs:=fs.map V.str) (fun i ys τ H'=>∃ c1:Option V,τ = [c1,some (.ref na)]/\ys=(fs.take i |>.filter fun z=>!decide (z ∈ ns)).map V.str/\H' acc=some (.lst ys)/\ah H5 H') ?_ ?_ ?_ ?_
        · exact⟨none,rfl,rfl,aa,ah.new nacc⟩
        · rintro i ys τ H6 hi ⟨c1,rfl,rfl,h1,h2⟩
          refine⟨au.of (h2 _ _ hfa3),h1,aB ?_⟩
          rw [List.length_map]
          have g1:=List.length_filter_le (fun z=>!decide (z ∈ ns)) (fs.take i)
          rw [List.length_take] at g1
          omega
        · rintro i x ys τ H6 hx ⟨c1,rfl,rfl,h1,h2⟩
          rw [List.getElem?_map] at hx
          cases hz:fs[i]? with
          | none=>rw [hz] at hx;cases hx
          | some z =>
            rw [hz] at hx
            cases hx
            refine cm ?_
            refine⟨_,rfl,_,rfl,na,_,rfl,.inl (au.of (h2 _ _ g1)),rfl,eQ ns,_,rfl,?_⟩
            have ht:(fs.take (i+1)).filter (fun z=>!decide (z ∈ ns))=(fs.take i).filter (fun z=>!decide (z ∈ ns))++(if z ∈ ns then [] else [z]):=by
              rw [List.take_add_one,hz,List.filter_append]
              by_cases e:z ∈ ns
              · simp [e]
              · simp [e]
            have hinv:(!fC (V.str z) (ns.map V.str)) = !decide (z ∈ ns):=by rw [en]
            by_cases e:z ∈ ns
            · refine aM (by show (!fC (V.str z) (ns.map V.str))=false;rw [hinv];simp [e]) ?_
              exact⟨_,rfl,(by rw [ht,if_pos e,List.append_nil]),h1,h2⟩
            · refine bH (by show (!fC (V.str z) (ns.map V.str))=true;rw [hinv];simp [e]) ?_
              exact⟨_,rfl,h1,_,rfl,(by rw [ht,if_neg e,List.map_append];rfl),(by rw [aa]),h2.put nacc⟩
        · rintro ys τ H6 ⟨c1,rfl,rfl,h1,h2⟩
          rw [List.length_map,List.take_of_length_le (Nat.le_refl _)] at h1
          have hfl:=List.length_filter_le (fun z=>!decide (z ∈ ns)) fs
          have hfm:∀ x,x ∈ fs.filter (fun z=>!decide (z ∈ ns)) ↔ x ∈ fs/\x ∉ ns:=fun x=>by rw [List.mem_filter];simp
          have hfn:(fs.filter (fun z=>!decide (z ∈ ns))).Nodup:=fn.filter _
          generalize (fs.filter (fun z=>!decide (z ∈ ns)))=gs at h1 hfl hfm hfn
          refine⟨na,acc,_,_,rfl,rfl,h2 _ _ g1,h1,?_,?_⟩
          · rw [List.length_map,List.length_map]
            exact Nat.le_of_lt (aB (by omega))
          refine⟨ns++gs,_,rfl,(by rw [aa,List.map_append]),(by rw [List.length_append];omega),?_,fun x=>?_,(by rw [ae hnw.symm];exact h2 _ _ g5),(g6.trans h2).put nna⟩
          · rw [List.nodup_append]
            exact⟨g3,hfn,fun a ha b hb z=>by subst z;exact ((hfm a).mp hb).2 ha⟩
          · rw [List.mem_append,g4 x,hfm x,List.take_add_one,hwj]
            constructor
            · rintro ((h | ⟨k',h,h'⟩) | h)
              · exact .inl h
              · exact .inr ⟨k',List.mem_append_left _ h,h'⟩
              · exact .inr ⟨w,List.mem_append_right _ (List.mem_singleton.mpr rfl),fs,hFw,h.1⟩
            · intro h
              by_cases hx:x ∈ ns
              · exact .inl ((g4 x).mp hx)
              · rcases h with h | ⟨k',h,h'⟩
                · exact .inl (.inl h)
                · rcases List.mem_append.mp h with h | h
                  · exact .inl (.inr ⟨k',h,h'⟩)
                  · have:=List.mem_singleton.mp h
                    subst this
                    obtain⟨fs',a1,a2⟩:=h'
                    rw [hFw] at a1
                    cases a1
                    exact .inr ⟨a2,hx⟩
    · rintro σ H5 ⟨ns,u4,rfl,g1,g2,g3,g4,g5,g6⟩
      rw [List.length_map,List.take_of_length_le (Nat.le_refl _)] at g4
      exact⟨_,rfl,q na ns H5 g1 g3 g4 nna g6⟩
theorem lh {f:Addr} {fd:FuncData} (F:dh K "_law_live" "_law_live" dD f fd) (Z:Bl mg) (O_law_behind_all:Own P w K mg base "_law_behind_all" 1 ["plan", "piece", "rows"] fN) (O_law_ahead:Own P w K mg base "_law_ahead" 1 ["deed", "names"] jr):bC P w K mg base cJ 5 f fd ["plan"] gB:=by
  refine F.ok (k:=4) bI (fun vs H Q E h=>?_) (fun cdv A outer s H vs Q E hr h=>?_)
  · obtain⟨plv,ps,pool,mm,rfl,_⟩:=h
    rfl
  · obtain⟨plv,ps,pool,mm,rfl,hp,ok,nok,hmm,h64,hpl,q⟩:=h
    refine⟨_,(af (fq (i:=1) ["piece"] [] [] rfl bI.nd rfl rfl rfl (fe (pv 0)) rfl (by decide +kernel) (by decide +kernel) (by decide +kernel) True.intro (fun _ _ _ _=>(ax (i:=0) (show ((["piece"]:List Str)++([]:List Str)).Nodup by decide +kernel) rfl (Or.inl rfl) (hf:=Or.inr rfl))) (fun _ _ _ _=>bZ) (fun _ _ _ _=>(bu ab)))
      (af (aD (i:=2) bI.nd rfl (Or.inl rfl) iI)
      (af (j2 PassesOwn.never (qh (pv 2))
      (af (aD (i:=2) bI.nd rfl (Or.inl rfl) iI)
      (ao (dm PassesOwn.never rfl (cH rfl Z.range (U (bP bK rfl Z.len eJ (U (pv 0) ab)) ab)) (ax (i:=3) bI.nd rfl (Or.inl rfl))
      (af (aD (i:=4) bI.nd rfl (Or.inl rfl) (ay O_law_behind_all (hr.mono (by decide)) rfl (U (pv 0) (U (pv 3) (U (pv 1) ab)))))
      (af (dm PassesOwn.never rfl (fe (pZ (aH bJ (aH bJ (pv 0) (pv 3) (fun _ _=>rfl)) ai (fun _ _=>rfl)) (jb (rN qr ai)))) (ax (i:=5) bI.nd rfl (Or.inl rfl))
      (ao (aD (i:=4) bI.nd rfl (Or.inl rfl) (ay O_law_ahead (hr.mono (by decide)) rfl (U (pv 5) (U (pv 4) ab))))))
      (ao (bV (aI (qO hr.units) (bP gF rfl Z.sorted gW (U (pv 4) ab)) (aH aW (pv 1) (pv 3) (fun _ _=>rfl)) (ba _))
      (af (fc (bP gF rfl Z.sorted gW (U (pv 4) ab)) (iK (pv 1) (pv 3) set_list))
      (ao (aD (i:=2) bI.nd rfl (Or.inl rfl) iI)))
      bp))))))))
      (ao (aP (pv 1)))))),?_⟩
    have hin:=ok.km
    obtain⟨p,xs,rfl,e1,rp⟩:=aR.cU hp
    have hxl:xs.length=ps.length:=by rw [rp.len,List.length_map]
    refine⟨_,rfl,p,rfl,⟨_,aw.of e1⟩,fun acc na=>?_⟩
    refine ka (K:=K) (a:=p) (xs:=xs) (fun i zs τ H'=>∃ (c1:Option V),τ = [c1]/\H' acc=some (.lst zs)/\fE H' acc zs (List.replicate i [])/\ah H H') ?_ ?_ ?_ ?_
    · exact⟨none,rfl,aa,⟨rfl,fun i xs h=>by simp at h⟩,ah.new na⟩
    · rintro i zs τ H2 hi ⟨c1,rfl,h1,h2,h3⟩
      refine⟨aw.of (h3 _ _ e1),h1,aB ?_⟩
      have:=h2.1
      rw [List.length_replicate] at this
      omega
    · rintro i x zs τ H2 hx ⟨c1,rfl,h1,h2,h3⟩
      change _<=sizeLine/\_
      refine⟨(by show 0<=sizeLine;decide),fun r nr=>?_⟩
      have s1:=ah.new (o:=.lst []) nr
      have nra:acc ≠ r:=fun z=>by rw [z,nr] at h1;cases h1
      refine⟨s1 _ _ h1,_,rfl,aa,?_,(h3.trans s1).put na⟩
      rw [List.replicate_succ']
      exact h2.snoc (fun c o hc hn=>by rw [ae hn];exact s1 _ _ hc) (ys:=[]) (by rw [ae nra.symm,aa];rfl) nra.symm
    · rintro zs τ H2 ⟨c1,rfl,h1,h2,h3⟩
      rw [hxl] at h2
      refine cm ?_
      refine⟨fun m σ H'=>∃ (F:List (List Str)) (g:Bool) (u1 u2 u3:Option V),σ = [some (.ref p),some (.ref acc),some (.bl g),u1,u2,u3]/\eg H' acc F/\er ps F/\(g=false->∀ k x,nv ps F k x->bT F k x)/\m=2 * (400 * 64 - total F)+(if g=true then 1 else 0)/\ah H H',⟨_,List.replicate ps.length [],true,none,none,none,rfl,⟨zs,h1,h2⟩,er.start,(fun h=>nomatch h),rfl,h3⟩,?_⟩
      rintro m σ H3 ⟨F,g,u1,u2,u3,rfl,hR,I,hc,rfl,s3⟩
      refine⟨_,rfl,_,rfl,?_⟩
      have poolF:∀ {F:List (List Str)},er ps F->∀ (k:Nat) (xs:List Str),F[k]? = some xs->xs.Nodup/\xs.length < 64/\∀ x ∈ xs,x ∈ pool:=fun {F} I k xs h=>by
        have hn:=(I.row k xs h).2
        have hm:∀ x ∈ xs,x ∈ pool:=fun x hx=>dW ok (I.sound k x ⟨xs,h,hx⟩)
        have:=gw hn hm
        exact⟨hn,by omega,hm⟩
      have d9:∀ {F:List (List Str)},er ps F->total F<=400 * 64:=fun {F} I=>by
        have h5:=kJ F 64 fun xs hx=>by
          obtain⟨k,hk,e⟩:=List.getElem_of_mem hx
          have:=(poolF I k xs (by rw [List.getElem?_eq_getElem hk,e])).2.1
          omega
        have:=I.len
        have h6:F.length * 64<=400 * 64:=Nat.mul_le_mul_right _ (by omega)
        omega
      cases g with
      | false =>
        refine de ?_
        refine⟨_,rfl,q acc F H3 hR I.len (fun k xs h=>⟨(I.row k xs h).1,(I.row k xs h).2,fun x=>⟨fun hx=>I.sound k x ⟨xs,h,hx⟩,fun hx=>?_⟩⟩) s3⟩
        obtain⟨ys,a,b⟩:=er.done (hc rfl) hx
        rw [h] at a
        cases a
        exact b
      | true =>
        refine fH ?_
        refine⟨fun σ' H'=>∃ (F':List (List Str)) (g:Bool) (u1 u2 u3:Option V),σ' = [some (.ref p),some (.ref acc),some (.bl g),u1,u2,u3]/\eg H' acc F'/\er ps F'/\(g=false->F' = F/\∀ k x,nv ps F' k x->bT F' k x)/\(g=true->total F < total F')/\ah H H',fun σ' H' h=>?_,?_⟩
        · obtain⟨F',g,v1,v2,v3,rfl,a1,a2,a3,a4,a5⟩:=h
          refine⟨_,?_,F',g,v1,v2,v3,rfl,a1,a2,fun hg=>(a3 hg).2,rfl,a5⟩
          have t1:=d9 a2
          have t2:=d9 I
          cases g with
          | false=>rw [(a3 rfl).1];simp
          | true =>
            have:=a4 rfl
            simp only [if_true]
            omega
        refine⟨_,rfl,p,_,rfl,.inr (aw.of (s3 _ _ e1)),_,rfl,(by omega),(by omega),?_⟩
        refine eI (lo:=0) (fun i σ H'=>∃ (F':List (List Str)) (g:Bool) (u1 u2 u3:Option V),σ = [some (.ref p),some (.ref acc),some (.bl g),u1,u2,u3]/\eg H' acc F'/\er ps F'/\(g=false->F' = F/\∀ k x,k < i->nv ps F' k x->bT F' k x)/\(g=true->total F < total F')/\total F<=total F'/\ah H H') ?_ ?_ ?_
        · exact⟨F,false,_,_,_,rfl,hR,I,(fun _=>⟨rfl,fun k x h=>absurd h (Nat.not_lt_zero _)⟩),(fun h=>nomatch h),Nat.le_refl _,s3⟩
        · rintro i σ H4 hi ⟨F',g,v1,v2,v3,rfl,a1,a2,a3,a4,a5,a6⟩
          have hil:i < ps.length:=by omega
          have hpi:ps[i]? = some ps[i]:=by simp [hil]
          generalize ps[i] = pce at hpi
          obtain⟨ds,e⟩:=pce
          have hFi:F'[i]? = some (F'[i]'(by rw [a2.len];exact hil)):=List.getElem?_eq_getElem _
          generalize (F'[i]'(by rw [a2.len];exact hil))=old at hFi
          have rp4:aR H4 (.ref p) (eD ps):=.tup (a6 _ _ e1) (rp.same a6 (aO _))
          obtain⟨p',xs',pc,da,ea,ws,ep,e1',el',hx',e2,e3,r3,e4⟩:=gr rp4 hpi
          cases ep
          rw [a6 _ _ e1] at e1'
          cases e1'
          have hx2:dE xs (0+(i:Int))=some (V.ref pc):=by rw [Int.zero_add];exact bg hx'
          refine cm ?_
          refine⟨_,rfl,_,rfl,_,rfl,.ref p,acc,ps,F',i,ds,e,congrArg (fun z=>[V.ref p,V.int z,V.ref acc]) (Int.zero_add _),rp4,hin,hpi,a2.len,hpl,a1,(fun k xs h=>⟨(poolF a2 k xs h).1,by have:=(poolF a2 k xs h).2.1;omega⟩),fun nl ns0 H5 hnl hnn hnm nnl s5=>?_⟩
          have okd:=(ok.d6 _ (List.mem_of_getElem? hpi)).2
          have hdl:ds.length<=mm:=(ok.d6 _ (List.mem_of_getElem? hpi)).1
          have hask:∀ x,fM F' e x->x ∈ pool:=fun x hx=>ny ok a2.sound (p:=(ds,e)) hpi hx
          have hwl:ws.length=ds.length:=by rw [r3.len,List.length_map]
          refine⟨_,rfl,_,rfl,p,_,_,_,rfl,rfl,aw.of (s5 _ _ (a6 _ _ e1)),hx2,pc,_,0,_,rfl,rfl,aw.of (s5 _ _ e2),dP,1,rfl,-1,rfl,rfl,da,_,rfl,aw.of (s5 _ _ e3),fun rv nrv=>⟨rv,rfl,⟨_,aw.of aa⟩,?_⟩⟩
          have s6:=ah.new (o:=.tup ws.reverse) nrv
          have hrv:(upd H5 rv (.tup ws.reverse)) rv=some (.tup ws.reverse):=aa
          have hnl6:=s6 _ _ hnl
          generalize (upd H5 rv (.tup ws.reverse))=H6 at s6 hrv hnl6
          refine hG (K:=K) (a:=rv) (xs:=ws.reverse) (fun j σ H'=>∃ (l:Addr) (ns:List Str) (u5:Option V),σ = [some (.ref p),some (.ref acc),some (.bl g),some (.int (0+(i:Int))),some (.ref l),u5]/\H' l=some (.lst (ns.map V.str))/\ns.Nodup/\(∀ x,x ∈ ns ↔ cv (ds.reverse.take j).reverse (fM F' e) x)/\ah H6 H') ?_ ?_ ?_ ?_
          · exact⟨nl,ns0,_,rfl,hnl6,hnn,(by simpa [cv] using hnm),ah.refl _⟩
          · rintro j σ H7 hj ⟨l,ns,u5,rfl,b1,b2,b3,b4⟩
            exact aw.of (b4 _ _ hrv)
          · rintro j y σ H7 hy ⟨l,ns,u5,rfl,b1,b2,b3,b4⟩
            have hj:j < ds.reverse.length:=by
              have:=(List.getElem?_eq_some_iff.mp hy).1
              rw [List.length_reverse] at this ⊢
              omega
            have hdd:ds.reverse[j]? = some ds.reverse[j]:=List.getElem?_eq_getElem hj
            generalize ds.reverse[j] = dd at hdd
            have hwr:aC H4 ws.reverse (ds.reverse.map cq):=r3.rD
            obtain⟨v,hv,rd⟩:=hwr.get (i:=j) (d:=cq dd) (by rw [List.getElem?_map,hdd];rfl)
            rw [hy] at hv
            cases hv
            obtain⟨dp,rfl,hdp0⟩:=lN rd
            have hnp:∀ x ∈ ns,x ∈ pool:=fun x hx=>gA hask (fun d' h'=>okd d' (List.mem_reverse.mp (List.mem_of_mem_take (List.mem_reverse.mp h')))) ((b3 x).mp hx)
            have hnl:=gw b2 hnp
            refine cm ?_
            refine⟨_,rfl,_,rfl,dp,l,dd,ns,rfl,b4 _ _ (s6 _ _ (s5 _ _ hdp0)),b1,b2,(by omega),fun l' ns' H8 c1 c2 c3 _ c4=>?_⟩
            refine⟨l',ns',_,rfl,c1,c2,fun x=>?_,b4.trans c4⟩
            rw [oA hdd,c3 x]
            exact⟨gx (fun z hz=>(b3 z).mp hz) dd x,gx (fun z hz=>(b3 z).mpr hz) dd x⟩
          · rintro σ H7 ⟨l,ns,u5,rfl,b1,b2,b3,b4⟩
            rw [List.length_reverse,hwl,List.take_of_length_le (by rw [List.length_reverse];exact Nat.le_refl _),List.reverse_reverse] at b3
            have hnp:∀ x ∈ ns,x ∈ pool:=fun x hx=>gA hask okd ((b3 x).mp hx)
            have hnl:=gw b2 hnp
            have s47:=(s5.trans s6).trans b4
            refine⟨_,rfl,l,ns,rfl,au.of b1,(by omega),fun l2 ys hperm hsort nl2=>?_⟩
            have s8:=ah.new (o:=.lst (ys.map V.str)) nl2
            have hl2:(upd H7 l2 (.lst (ys.map V.str))) l2=some (.lst (ys.map V.str)):=aa
            generalize (upd H7 l2 (.lst (ys.map V.str)))=H8 at s8 hl2
            have s48:=s47.trans s8
            obtain⟨rvs,hrl,hRV⟩:=a1.same s48
            obtain⟨oa,ho1,ho2,ho3⟩:=hRV.2 i old hFi
            have yn:ys.Nodup:=hperm.nodup_iff.mpr b2
            have ym:∀ x,x ∈ ys ↔ cv ds (fM F' e) x:=fun x=>hperm.mem_iff.trans (b3 x)
            have yp:∀ x ∈ ys,cu x:=fun x hx=>nok x (hnp x (hperm.mem_iff.mp hx))
            have op:∀ x ∈ old,cu x:=fun x hx=>nok x ((poolF a2 i old hFi).2.2 x hx)
            refine⟨_,rfl,_,rfl,acc,_,_,_,rfl,rfl,au.of hrl,(by rw [Int.zero_add];exact bg ho1),?_⟩
            refine⟨.list (ys.map PyData.str),.list (old.map PyData.str),.lst hl2 (gy ys),.lst ho3 (gy old),g0 yp,g0 op,(by have:=gZ ys;have:=gZ old;omega),_,rfl,?_⟩
            have heq:PyData.eqv (.list (ys.map PyData.str)) (.list (old.map PyData.str))=decide (ys=old):=kK ys old
            by_cases ey:ys=old
            · refine aM (by rw [heq];simp [ey]) ?_
              refine⟨F',g,_,_,_,rfl,a1.same s48,a2,fun hg=>⟨(a3 hg).1,fun k x hk h=>?_⟩,a4,a5,a6.trans s48⟩
              by_cases e':k=i
              · subst e'
                obtain⟨pe,g1,g2⟩:=h
                rw [hpi] at g1
                cases g1
                exact⟨old,hFi,ey ▸ (ym x).mpr g2⟩
              · exact (a3 hg).2 k x (by omega) h
            · refine bH (by rw [heq];simp [ey]) ?_
              refine⟨_,rfl,l,ns,rfl,au.of (s8 _ _ b1),(by omega),fun l3 zs hperm3 hsort3 nl3=>?_⟩
              have ez:zs=ys:=ik.unique ⟨dU hsort3,hperm3.nodup_iff.mpr b2⟩ ⟨dU hsort,yn⟩ fun x=>hperm3.mem_iff.trans hperm.mem_iff.symm
              subst ez
              have s9:=ah.new (o:=.lst (zs.map V.str)) nl3
              have hl3:(upd H8 l3 (.lst (zs.map V.str))) l3=some (.lst (zs.map V.str)):=aa
              generalize (upd H8 l3 (.lst (zs.map V.str)))=H9 at s9 hl3
              have hac:l3 ≠ acc:=fun z=>by rw [z,hrl] at nl3;cases nl3
              have hrl9:=s9 _ _ hrl
              have hRV9:fE H9 acc rvs F':=⟨hRV.1,fun i xs hx=>by obtain⟨a,c1,c2,c3⟩:=hRV.2 i xs hx;exact⟨a,c1,c2,s9 _ _ c3⟩⟩
              have hiF:i < F'.length:=by rw [a2.len];exact hil
              obtain⟨I',tI⟩:=a2.set hFi hpi hsort3 yn ym
              have tI:=tI ey
              refine⟨_,rfl,_,rfl,acc,_,_,i,rfl,rfl,hrl9,(by rw [Int.zero_add];exact rF (by rw [hRV.1];exact hiF)),?_⟩
              refine⟨F'.set i zs,true,_,_,_,rfl,hRV9.put hiF hl3 hac,I',(fun h=>nomatch h),(fun _=>by omega),(by omega),((a6.trans s48).trans s9).put na⟩
        · rintro σ H4 ⟨F',g,v1,v2,v3,rfl,a1,a2,a3,a4,a5,a6⟩
          refine⟨F',g,v1,v2,v3,rfl,a1,a2,fun hg=>⟨(a3 hg).1,fun k x h=>(a3 hg).2 k x ?_ h⟩,a4,a6⟩
          obtain⟨pe,h,_⟩:=h
          have:=(List.getElem?_eq_some_iff.mp h).1
          omega
theorem iH {f:Addr} {fd:FuncData} (F:dh K "_law_wide_plan" "_law_wide_plan" bN f fd) (Z:Bl mg) (O_law_take:Own P w K mg base "_law_take" 1 ["bag", "many"] dG) (O_law_deed:Own P w K mg base "_law_deed" 3 ["bag", "names"] iR) (O_law_end:Own P w K mg base "_law_end" 3 ["bag", "names", "count"] iS):bC P w K mg base cJ 4 f fd ["bag", "count"] iE:=by
  refine F.ok (k:=3) aX (fun vs H Q E h=>?_) (fun cdv A outer s H vs Q E hr h=>?_)
  · obtain⟨b,c,rfl,_⟩:=h
    rfl
  · obtain⟨b,c,rfl,hB,c0,c1,q⟩:=h
    refine⟨_,(af (aD (i:=2) aX.nd rfl (Or.inl rfl) aK)
      (af (aD (i:=3) aX.nd rfl (Or.inl rfl) (ay O_law_take (hr.mono (by decide)) rfl (U (pv 0) (U ai ab))))
      (af (aD (i:=4) aX.nd rfl (Or.inr rfl) (bu ab))
      (af (dm PassesOwn.never rfl (cH rfl Z.range (U (aF cC ai (ay O_law_take (hr.mono (by decide)) rfl (U (pv 0) (U ai ab)))) ab)) (ax (i:=5) aX.nd rfl (Or.inl rfl))
      (af (aD (i:=6) aX.nd rfl (Or.inl rfl) (aH iN (pv 2) (aF d0 (aF cC (aF ff ai (pv 5)) (pv 3)) ai) (fun _ _=>rfl)))
      (ao (cS (dJ PySem.F.plainAttrs_list PySem.F.slot_list_append PySem.F.type_list_append bX (pv 4) (U (aF mf (pv 6) (aF p3 (aH iN (pv 2) (aF i9 (pv 5) ai) (fun _ _=>rfl)) (aF cC ai (aF d0 (pv 5) ai)))) ab))))))
      (af (aD (i:=7) aX.nd rfl (Or.inl rfl) (bu ab))
      (af (dm PassesOwn.never rfl (cH rfl Z.range (U (pv 1) ab)) (ax (i:=5) aX.nd rfl (Or.inl rfl))
      (af (aD (i:=8) aX.nd rfl (Or.inl rfl) (bA bB rfl Z.tuple cN (U (cg ["j"] ["bag", "names"] [0,4] rfl (cH rfl Z.range (U (ay O_law_take (hr.mono (by decide)) rfl (U (pv 0) (U ai ab))) ab)) rfl (by decide +kernel) (by decide +kernel) (by decide +kernel) ⟨⟨rfl,.inl rfl,rfl⟩,⟨⟨rfl,.inl rfl,rfl⟩,True.intro⟩⟩ (fun _ _ _ _=>(ax (i:=0) (show ((["j"]:List Str)++(["bag", "names"]:List Str)).Nodup by decide +kernel) rfl (Or.inl rfl) (hf:=Or.inr rfl))) (fun _ _ _ _=>bZ) (fun _ _ _ _=>(ay O_law_deed (hr.mono (by decide)) rfl (U (pv 1) (U (pv 2) ab))))) ab)))
      (ao (cS (dJ PySem.F.plainAttrs_list PySem.F.slot_list_append PySem.F.type_list_append bX (pv 7) (U (cD (U (pv 8) (U (ay O_law_end (hr.mono (by decide)) rfl (U (pv 0) (U (pv 4) (U (pv 1) ab)))) ab))) ab))))))
      (ao (aP (bA bB rfl Z.tuple cN (U (pv 7) ab)))))))))),?_⟩
    refine⟨_,rfl,b,26,rfl,hB,⟨by decide,by decide +kernel⟩,fun sh H1 sh0 sh1 B1 X1=>?_⟩
    refine⟨(by show 0<=sizeLine;decide),fun l nn=>?_⟩
    have hlb:l ≠ b:=B1.cP nn
    refine⟨_,rfl,b,41,rfl,B1.new nn,⟨by decide,by decide +kernel⟩,fun mm H2 mm0 mm1 B2 X2=>⟨_,_,rfl,rfl,?_⟩⟩
    have hl2:H2 l=some (.lst []):=X2 l _ aa hlb
    have F2:Fix b H H2:=(X1.trans (Fix.new nn)).trans X2
    have nnl:∀ d o,H d=some o->d ≠ b->d ≠ l:=fun d o hd nd z=>by
      have:=X1 d o hd nd
      rw [z,nn] at this;cases this
    refine⟨_,rfl,(by omega),(by omega),eI (lo:=0) (fun i σ H'=>∃ (u1 u2 u3 u4:Option V) (xs:List Str),σ = [some (.ref b),some (.int c),some (.str fU),some (.int sh),some (.ref l),u1,u2,u3,u4]/\H' l=some (.lst (xs.map V.str))/\xs.length=i/\(∀ x ∈ xs,cu x)/\bt H' b/\Fix b H H') ?_ ?_ ?_⟩
    · exact⟨_,_,_,_,[],rfl,hl2,rfl,(fun _ h=>nomatch h),B2,F2⟩
    · rintro i σ H3 hi ⟨u1,u2,u3,u4,xs,rfl,h1,h2,h3,B3,X3⟩
      refine cm ?_
      obtain⟨ca,hat,ca0,ca1⟩:=iT (r:=(7 * (0+(i:Int))+sh) % 26) (Int.emod_nonneg _ (by decide)) (Int.emod_lt_of_pos _ (by decide))
      obtain⟨cb,hbt,cb0,cb1⟩:=iT (r:=(0+(i:Int)) / 26) (by omega) (by omega)
      obtain⟨mk,ml,nk⟩:=oB (c0:=ca) (c:=cb) (n:=1+(0+(i:Int)) % 4) ⟨ca0,ca1⟩ ⟨cb0,cb1⟩ (by omega) (by omega)
      refine⟨_,rfl,_,rfl,_,_,rfl,rfl,.inl ⟨by decide,by decide⟩,_,rfl,_,_,rfl,rfl,_,_,rfl,rfl,(show (0:Int) < 26 by decide),fU,_,ca,rfl,rfl,hJ,hat,?_⟩
      refine⟨_,rfl,.inl ⟨rfl,_,au.of h1⟩,_,rfl,_,rfl,_,rfl,_,_,rfl,rfl,⟨by decide,by decide⟩,fU,_,cb,rfl,rfl,hJ,hbt,_,rfl,_,_,rfl,rfl,(show (0:Int) < 4 by decide),_,_,rfl,rfl,_,_,rfl,rfl,mk,_,_,rfl,rfl,?_,l,_,_,rfl,rfl,h1,?_,?_⟩
      · have:(⟨#[ca]⟩:Str).length=1:=rfl
        rw [this]
        exact Nat.le_of_lt (bY (by omega))
      · rw [List.length_map]
        exact bY (by omega)
      refine⟨_,_,_,_,xs ++ [_],rfl,(by rw [aa,List.map_append];rfl),(by rw [List.length_append,h2];rfl),?_,B3.put hlb.symm,?_⟩
      · intro x hxm
        rcases List.mem_append.mp hxm with hxm | hxm
        · exact h3 x hxm
        · rw [List.mem_singleton.mp hxm];exact nk
      · intro d o hd nd
        rw [ae (nnl d o hd nd)]
        exact X3 d o hd nd
    · rintro σ H3 ⟨u1,u2,u3,u4,xs,rfl,h1,h2,h3,B3,X3⟩
      have N3:cE H3 b l xs:=⟨h1,hlb,(by intro z;rw [z] at h2;simp at h2;omega),(by omega),h3⟩
      have x4:xs.length<=60:=by omega
      refine⟨(by show 0<=sizeLine;decide),fun pl pn=>?_⟩
      have hpb:pl ≠ b:=B3.cP pn
      refine⟨_,rfl,_,rfl,(by omega),(by omega),eI (lo:=0) (fun i σ H'=>∃ (u1 u2 u3:Option V) (ps:List Piece) (vs:List V),σ = [some (.ref b),some (.int c),some (.str fU),some (.int sh),some (.ref l),u1,u2,some (.ref pl),u3] /\
        H' pl=some (.lst vs)/\aC H' vs (ps.map cQ)/\ps.length=i/\(∀ p ∈ ps,(p.1.length<=4/\∀ d ∈ p.1,dI xs d)/\jR xs c p.2)/\cE H' b l xs/\bt H' b/\Fix b H H'/\(∀ d o,H3 d=some o->d ≠ b->H' d=some o)) ?_ ?_ ?_⟩
      · exact⟨_,_,_,[],[],rfl,aa,.nil,rfl,(fun _ h=>nomatch h),N3.fix (Fix.new pn),B3.new pn,X3.trans (Fix.new pn),Fix.new pn⟩
      · rintro i σ H' hi ⟨v1,v2,v3,ps,vs,rfl,hp,hr,hl,av,N',B',X',Y'⟩
        refine cm ?_
        refine⟨_,rfl,b,5,rfl,B',⟨by decide,by decide +kernel⟩,fun k H4 k0 k1 B4 X4=>?_⟩
        have N4:=N'.fix X4
        have hp4:H4 pl=some (.lst vs):=X4 pl _ hp hpb
        have hr4:aC H4 vs (ps.map cQ):=hr.fix B' X4 (aO ps)
        refine⟨_,rfl,(by omega),(by omega),fun acc na=>?_⟩
        have hab:acc ≠ b:=B4.cP na
        refine ix (lo:=0) (fun i ys τ H'=>∃ (v:Option V) (ds:List aT),τ = [v,some (.ref b),some (.ref l)]/\aC H' ys (ds.map cq)/\ds.length=i/\(∀ d ∈ ds,dI xs d)/\H' acc=some (.lst ys)/\bt H' b/\Fix b H4 H') ?_ ?_ ?_ ?_
        · exact⟨none,[],rfl,.nil,rfl,(fun _ h=>nomatch h),aa,B4.new na,Fix.new na⟩
        · rintro i' ys τ H5 hi' ⟨v,ds,rfl,rds,hl',_,ha,_⟩
          refine⟨ha,?_⟩
          rw [rds.len,List.length_map]
          exact bY (by omega)
        · rintro i' ys τ H5 hi' ⟨v,ds,rfl,rds,hl',hdk,ha,B5,X5⟩
          refine cm ?_
          refine nV ?_
          refine fH ?_
          refine⟨_,rfl,_,rfl,b,l,xs,rfl,B5,N4.fix X5,fun dv d H6 rd dk B6 X6=>?_⟩
          have ha6:=X6 acc _ ha hab
          refine⟨ha6,_,ds ++ [d],rfl,?_,(by rw [List.length_append,hl'];rfl),?_,aa,?_,?_⟩
          · rw [List.map_append]
            refine aC.app ((rds.fix B5 X6 (aZ ds)).put ha6 (aZ ds)) ?_
            exact rd.bO (fun p zs e=>by rw [ae (bF e ha6 (by intro z;cases z))];exact e) (fI d)
          · intro d' hd
            rcases List.mem_append.mp hd with hd | hd
            · exact hdk d' hd
            · rw [List.mem_singleton.mp hd];exact dk
          · obtain⟨x,y,e,z⟩:=B6
            exact⟨x,y,by rw [ae hab.symm];exact e,z⟩
          · intro d' o hd nd
            rw [ae (aG hd na)]
            exact (X5.trans X6) d' o hd nd
        · rintro ys τ H5 ⟨v,ds,rfl,rds,hl',hdk,ha,B5,X5⟩
          refine⟨acc,ys,rfl,.inl ⟨au.of ha,fun tp tn=>?_⟩⟩
          have S5:=ah.new (o:=.tup ys) tn
          have htp:(upd H5 tp (.tup ys)) tp=some (.tup ys):=aa
          have rds5:=rds.same S5 (aZ ds)
          have B5':=B5.same S5
          have X45:Fix b H4 (upd H5 tp (.tup ys)):=X5.trans (Fix.of_same S5)
          generalize (upd H5 tp (.tup ys))=H6 at S5 htp rds5 B5' X45
          have hp6:=X45 pl _ hp4 hpb
          refine⟨_,rfl,.inl ⟨rfl,_,au.of hp6⟩,_,rfl,_,rfl,_,rfl,_,rfl,b,l,xs,c,rfl,B5',N4.fix X45,c0,(by omega),fun ev e H7 re ek B7 X7=>⟨ln2,fun pc pcn=>?_⟩⟩
          have S7:=ah.new (o:=.tup [.ref tp,ev]) pcn
          have hp7:(upd H7 pc (.tup [.ref tp,ev])) pl=some (.lst vs):=S7 _ _ (X7 pl _ hp6 hpb)
          have htpb:tp ≠ b:=B5'.j8 htp
          refine⟨pl,_,_,rfl,rfl,hp7,?_,?_⟩
          · rw [hr.len,List.length_map,hl]
            exact bY (by omega)
          have hpiece:aR (upd H7 pc (.tup [.ref tp,ev])) (.ref pc) (cQ (ds,e)) :=
            .tup aa (.cons (.tup (S7 _ _ (X7 _ _ htp htpb)) ((rds5.fix B5' X7 (aZ ds)).same S7 (aZ ds))) (.cons (re.same S7 (eX e)) .nil))
          have X47:Fix b H4 (upd H7 pc (.tup [.ref tp,ev])):=(X45.trans X7).trans (Fix.of_same S7)
          have F7:Fix b H (upd H7 pc (.tup [.ref tp,ev])):=(X'.trans X4).trans X47
          have plH:∀ d o,H3 d=some o->d ≠ b->d ≠ pl:=fun d o hd nd z=>by rw [z,pn] at hd;cases hd
          have N7:=N4.fix X47
          refine⟨_,_,_,ps ++ [(ds,e)],vs ++ [.ref pc],rfl,aa,?_,(by rw [List.length_append,hl];rfl),?_,?_,?_,?_,?_⟩
          · rw [List.map_append]
            refine aC.app ((hr4.fix B4 X47 (aO ps)).put hp7 (aO ps)) ?_
            exact hpiece.bO (fun p zs e=>by rw [ae (bF e hp7 (by intro z;cases z))];exact e) (ft (ds,e))
          · intro p hpm
            rcases List.mem_append.mp hpm with hpm | hpm
            · exact av p hpm
            · rw [List.mem_singleton.mp hpm]
              exact⟨⟨by show ds.length<=4;omega,hdk⟩,ek⟩
          · have hll:l ≠ pl:=fun z=>by
              have:=N3.at_
              rw [z,pn] at this
              cases this
            exact⟨by rw [ae hll];exact N7.at_,N7.ne,N7.jS,N7.jE,N7.ok⟩
          · obtain⟨x,y,e',z⟩:=B7.same S7
            exact⟨x,y,by rw [ae hpb.symm];exact e',z⟩
          · intro d o hd nd
            rw [ae (plH d o (X3 d o hd nd) nd)]
            exact F7 d o hd nd
          · intro d o hd nd
            rw [ae (plH d o hd nd)]
            exact X47 d o (X4 d o (Y' d o hd nd) nd) nd
      · rintro σ H' ⟨v1,v2,v3,ps,vs,rfl,hp,hr,hl,av,N',B',X',Y'⟩
        have hl':ps.length=c:=by rw [hl];omega
        refine⟨_,rfl,pl,_,rfl,.inl ⟨au.of hp,fun tp tn=>?_⟩⟩
        refine q (.ref tp) xs ps _ (.tup aa (hr.same (ah.new tn) (aO ps))) hl' ⟨fun p hpm=>(av p hpm).1,fun p hpm=>?_⟩ ⟨N'.ok,x4⟩ (B'.new tn) (X'.trans (Fix.new tn))
        rw [hl']
        exact (av p hpm).2
theorem rG {f:Addr} {fd:FuncData} (F:dh K "law" "law" e5 f fd) (Z:Bl mg) (O_law_bag:Own P w K mg base "_law_bag" 1 ["script", "k"] (mv K)) (O_law_take:Own P w K mg base "_law_take" 1 ["bag", "many"] dG) (O_law_plan:Own P w K mg base "_law_plan" 4 ["bag", "count", "most"] ke) (O_law_count:Own P w K mg base "_law_count" 2 ["bag", "most"] jg) (O_law_wide_plan:Own P w K mg base "_law_wide_plan" 4 ["bag", "count"] iE) (O_law_live:Own P w K mg base "_law_live" 5 ["plan"] gB) (O_live:Own P w K mg base "live" 5 ["plan"] kG):bC P w K mg base cJ 8 f fd ["script"] (jQ K):=by
  refine F.ok (k:=7) g9 (fun vs H Q E h=>?_) (fun cdv A outer s H vs Q E hr h=>?_)
  · obtain⟨a,ns,rfl,_⟩:=h
    rfl
  · obtain⟨a,ns,rfl,hS,hlen,q⟩:=h
    refine⟨_,(af (aD (i:=1) g9.nd rfl (Or.inl rfl) (ay O_law_bag (hr.mono (by decide)) rfl (U (pv 0) (U ai ab))))
      (af (aD (i:=2) g9.nd rfl (Or.inl rfl) (lG cL (ay O_law_take (hr.mono (by decide)) rfl (U (pv 1) (U ai ab))) ai (ba _)))
      (af (aD (i:=3) g9.nd rfl (Or.inl rfl) (ay O_law_plan (hr.mono (by decide)) rfl (U (pv 1) (U (aH aW (bu (U (ay O_law_count (hr.mono (by decide)) rfl (U (pv 1) (U ai ab))) (U ai ab))) (bA jv rfl Z.int mZ (U (pv 2) ab)) (fun _ _=>rfl)) (U (aH aW (bu (U ai (U ai ab))) (bA jv rfl Z.int mZ (U (pv 2) ab)) (fun _ _=>rfl)) ab)))))
      (af (m3 (bV (aI cL (ay O_law_take (hr.mono (by decide)) rfl (U (pv 1) (U ai ab))) ai (ba _))
      (ao (aD (i:=3) g9.nd rfl (Or.inl rfl) (ay O_law_wide_plan (hr.mono (by decide)) rfl (U (pv 1) (U (aF cC ai (ay O_law_take (hr.mono (by decide)) rfl (U (pv 1) (U ai ab)))) ab)))))
      bp))
      (ao (aP (lG (qN hr.units) (ay O_live (hr.mono (by decide)) rfl (U (pv 3) ab)) (bA bB rfl Z.tuple cN (U (cg ["names"] [] [] rfl (cB (ay O_law_live (hr.mono (by decide)) rfl (U (pv 3) ab))) rfl (by decide +kernel) (by decide +kernel) (by decide +kernel) True.intro (fun _ _ _ _=>(ax (i:=0) (show ((["names"]:List Str)++([]:List Str)).Nodup by decide +kernel) rfl (Or.inl rfl) (hf:=Or.inr rfl))) (fun _ _ _ _=>bZ) (fun _ _ _ _=>(bA (fY (K:=K) rfl) rfl Z.tuple cN (U (pv 0) ab)))) ab)) (ba _)))))))),?_⟩
    refine⟨_,rfl,a,ns,0,rfl,hS,(by decide),fun b H1 nb B1 s1=>?_⟩
    refine⟨_,rfl,b,8,rfl,B1,⟨by decide,by decide +kernel⟩,fun z H2 z0 z1 B2 X2=>?_⟩
    refine⟨rfl,?_⟩
    refine⟨_,rfl,_,rfl,b,40,rfl,B2,(by omega),(by omega),fun c H3 c0 c1 B3 X3=>?_⟩
    refine⟨ln2,fun l0 n0=>?_⟩
    have h0:(upd H3 l0 (.lst [.int c,.int 400])) l0=some (.lst [.int c,.int 400]):=aa
    obtain⟨g,hg,hg2⟩:∃ g:Nat,dE [V.int c,V.int 400] (if decide (V.int z=V.int 0)=true then 1 else 0)=some (V.int g)/\(0 < g/\g<=400):=by
      cases decide (V.int z=V.int 0)
      · exact⟨c,dP,by omega⟩
      · exact⟨400,eU,by omega⟩
    obtain⟨g2,hgg,hgg2⟩:∃ g:Nat,dE [V.int 12,V.int 2] (if decide (V.int z=V.int 0)=true then 1 else 0)=some (V.int g)/\g<=12:=by
      cases decide (V.int z=V.int 0)
      · exact⟨12,dP,by omega⟩
      · exact⟨2,eU,by omega⟩
    refine⟨_,rfl,.inr ⟨_,rfl,l0,_,_,_,rfl,rfl,au.of h0,hg,?_⟩⟩
    refine⟨ln2,fun l1 n1=>?_⟩
    have h1:(upd (upd H3 l0 (.lst [.int c,.int 400])) l1 (.lst [.int 12,.int 2])) l1=some (.lst [.int 12,.int 2]):=aa
    refine⟨_,rfl,.inr ⟨_,rfl,l1,_,_,_,rfl,rfl,au.of h1,hgg,?_⟩⟩
    refine⟨b,g,g2,rfl,(B3.new n0).new n1,hg2.1,(by omega),(by omega),fun plv xs ps H4 r4 hc4 pok xok B4 X4=>?_⟩
    have s4:ah H H4:=ah.qK s1 nb (((X2.trans X3).trans ((Fix.new n0).trans (Fix.new n1))).trans X4)
    refine⟨fun σ' H'=>∃ (plv:V) (ps:List Piece) (xs:List Str) (u1 u2:Option V),σ' = [some (.ref a),u1,u2,some plv]/\aR H' plv (eD ps)/\d5 xs 12 ps/\(∀ x ∈ xs,cu x)/\xs.length < 64/\ps.length<=400/\ah H H',?_,?_⟩
    · refine⟨_,rfl,b,6,rfl,B4,⟨by decide,by decide +kernel⟩,fun z2 H5 z20 z21 B5 X5=>⟨rfl,_,rfl,?_⟩⟩
      have s5:ah H H5:=fun c o e=>X5 c o (s4 c o e) (aG e nb)
      refine fm (fun hc=>?_) (fun hc=>?_)
      · refine⟨_,rfl,_,rfl,b,40,rfl,B5,⟨by decide,by decide +kernel⟩,fun z3 H6 z30 z31 B6 X6=>⟨_,_,rfl,rfl,?_⟩⟩
        obtain⟨k,rfl⟩:∃ k:Nat,z3=k:=⟨z3.toNat,by omega⟩
        refine⟨b,1+k,congrArg (fun z=>[V.ref b,V.int z]) (show (1:Int)+(k:Int)=((1+k:Nat):Int) by omega),B6,(by omega),(by omega),fun plv xs ps H7 r7 hc7 pok xok B7 X7=>?_⟩
        exact⟨plv,ps,xs,_,_,rfl,r7,⟨fun p hp=>⟨Nat.le_trans (pok.d6 p hp).1 (by decide),(pok.d6 p hp).2⟩,pok.ends⟩,xok.1,(by have:=xok.2;omega),(by omega),fun c o e=>X7 c o (X6 c o (s5 c o e) (aG e nb)) (aG e nb)⟩
      · exact⟨plv,ps,xs,_,_,rfl,r4.fix B4 X5 (fJ ps),⟨fun p hp=>⟨Nat.le_trans (pok.d6 p hp).1 hgg2,(pok.d6 p hp).2⟩,pok.ends⟩,xok.1,(by have:=xok.2;omega),(by omega),s5⟩
    clear r4 pok hc4 s4 B4
    rintro σ' H5 ⟨plv,ps,xs,u1,u2,rfl,r5,pok,nok,hx64,hn4,s5⟩
    have hin:=pok.km
    refine⟨_,rfl,plv,ps,xs,12,rfl,r5,pok,(by decide),hx64,hn4,fun lv L H6 hL hLl hLs s6=>?_⟩
    refine⟨_,rfl,plv,ps,xs,12,rfl,r5.same s6 (fJ ps),pok,nok,(by decide),hx64,hn4,fun rl F H7 hR hFl hFs s7=>?_⟩
    obtain⟨rvs,hrl,hRV⟩:=hR
    refine⟨rl,rfl,⟨_,au.of hrl⟩,fun acc na=>?_⟩
    have hLF:L=F:=by
      refine List.ext_getElem? fun k=>?_
      by_cases hk:k < ps.length
      · have h1:L[k]? = some (L[k]'(by omega)):=List.getElem?_eq_getElem _
        have h2:F[k]? = some (F[k]'(by omega)):=List.getElem?_eq_getElem _
        generalize (L[k]'(by omega))=l1 at h1
        generalize (F[k]'(by omega))=l2 at h2
        obtain⟨a1,a2,a3⟩:=hLs k l1 h1
        obtain⟨b1,b2,b3⟩:=hFs k l2 h2
        rw [h1,h2,ik.unique ⟨dU a1,a2⟩ ⟨dU b1,b2⟩ fun x=>(a3 x).trans (b3 x).symm]
      · rw [List.getElem?_eq_none (by omega),List.getElem?_eq_none (by omega)]
    subst hLF
    refine cT (K:=K) (a:=rl) (xs:=rvs) (fun i ys τ H'=>∃ c1:Option V,τ = [c1]/\H' acc=some (.lst ys)/\ys.length=i/\aC H' ys ((L.take i).map fun xs=>PyData.tuple (xs.map PyData.str))/\ah H7 H') ?_ ?_ ?_ ?_
    · exact⟨none,rfl,aa,rfl,.nil,ah.new na⟩
    · rintro i ys τ H8 hi ⟨c1,rfl,h1,h2,h3,h4⟩
      exact⟨au.of (h4 _ _ hrl),h1,aB (by have:=hRV.1;omega)⟩
    · rintro i x ys τ H8 hx ⟨c1,rfl,h1,h2,h3,h4⟩
      have hi:i < L.length:=by
        have:=(List.getElem?_eq_some_iff.mp hx).1
        rw [hRV.1] at this
        exact this
      have hLi:L[i]? = some L[i]:=by simp [hi]
      generalize L[i] = fs at hLi
      obtain⟨fa,f1,f2,f3⟩:=hRV.2 i fs hLi
      rw [hx] at f1
      cases f1
      change ∃ v,_/\_
      refine⟨_,rfl,fa,_,rfl,.inl ⟨au.of (h4 _ _ f3),fun t nt=>?_⟩⟩
      have st:=ah.new (o:=.tup (fs.map V.str)) nt
      have h1':=st _ _ h1
      have htt:(upd H8 t (.tup (fs.map V.str))) t=some (.tup (fs.map V.str)):=aa
      have h3':=h3.same st (cy _)
      have h4':=h4.trans st
      generalize (upd H8 t (.tup (fs.map V.str)))=H9 at h1' htt h3' h4'
      refine⟨h1',_,rfl,aa,(by rw [List.length_append,h2];rfl),?_,h4'.put na⟩
      rw [List.take_add_one,hLi]
      show aC _ _ (((L.take i) ++ [fs]).map _)
      rw [List.map_append]
      refine (h3'.put h1' (cy _)).app ?_
      exact .tup (by rw [ae (bF htt h1' (by intro z;cases z))];exact htt) (gy fs)
    · rintro ys τ H8 ⟨c1,rfl,h1,h2,h3,h4⟩
      rw [List.take_of_length_le (by rw [hRV.1];exact Nat.le_refl _)] at h3
      refine⟨acc,_,rfl,.inl ⟨au.of h1,fun t nt=>?_⟩⟩
      have st:=ah.new (o:=.tup ys) nt
      have lay:(hZ L).canLay0=true:=oD fun zs hz x hx=>by
        obtain⟨k,hk,e⟩:=List.getElem_of_mem hz
        exact nok x (dW pok (((hLs k zs (by rw [List.getElem?_eq_getElem hk,e])).2.2 x).mp hx))
      refine⟨hZ L,hZ L,hL.same ((s7.trans h4).trans st) (cy L),.tup aa (h3.same st (cy L)),lay,lay,?_,?_⟩
      · have:=oC L;omega
      · rw [PySem.SeqAt.eqv_refl _ lay]
        exact q _
end
theorem all_mk {l:PySem.W.OpenLaw} {w:World} {K:PySem.W.Frag} {h:Heap} {mg:Str->Option Value} {fa:Addr} (X:K.In h) (G:h.Ns mainGlobals mg) (hfa:mg "law" = some (.ref fa))
  {f0:Addr} {od0 an0:Option Addr} {sl0:Array (Option Value)} {oc0 kV0 dc0 pm0 cd0 ct0:Value}
  {f1:Addr} {od1 an1:Option Addr} {sl1:Array (Option Value)} {oc1 kV1 dc1 pm1 cd1 ct1:Value}
  {f2:Addr} {od2 an2:Option Addr} {sl2:Array (Option Value)} {oc2 kV2 dc2 pm2 cd2 ct2:Value}
  {f3:Addr} {od3 an3:Option Addr} {sl3:Array (Option Value)} {oc3 kV3 dc3 pm3 cd3 ct3:Value}
  {f4:Addr} {od4 an4:Option Addr} {sl4:Array (Option Value)} {oc4 kV4 dc4 pm4 cd4 ct4:Value}
  {f5:Addr} {od5 an5:Option Addr} {sl5:Array (Option Value)} {oc5 kV5 dc5 pm5 cd5 ct5:Value}
  {f6:Addr} {od6 an6:Option Addr} {sl6:Array (Option Value)} {oc6 kV6 dc6 pm6 cd6 ct6:Value}
  {f7:Addr} {od7 an7:Option Addr} {sl7:Array (Option Value)} {oc7 kV7 dc7 pm7 cd7 ct7:Value}
  {f8:Addr} {od8 an8:Option Addr} {sl8:Array (Option Value)} {oc8 kV8 dc8 pm8 cd8 ct8:Value}
  {f9:Addr} {od9 an9:Option Addr} {sl9:Array (Option Value)} {oc9 kV9 dc9 pm9 cd9 ct9:Value}
  {f10:Addr} {od10 an10:Option Addr} {sl10:Array (Option Value)} {oc10 kV10 dc10 pm10 cd10 ct10:Value}
  {f11:Addr} {od11 an11:Option Addr} {sl11:Array (Option Value)} {oc11 kV11 dc11 pm11 cd11 ct11:Value}
  {f12:Addr} {od12 an12:Option Addr} {sl12:Array (Option Value)} {oc12 kV12 dc12 pm12 cd12 ct12:Value}
  {f13:Addr} {od13 an13:Option Addr} {sl13:Array (Option Value)} {oc13 kV13 dc13 pm13 cd13 ct13:Value}
  {f14:Addr} {od14 an14:Option Addr} {sl14:Array (Option Value)} {oc14 kV14 dc14 pm14 cd14 ct14:Value}
  {f15:Addr} {od15 an15:Option Addr} {sl15:Array (Option Value)} {oc15 kV15 dc15 pm15 cd15 ct15:Value}
  {f16:Addr} {od16 an16:Option Addr} {sl16:Array (Option Value)} {oc16 kV16 dc16 pm16 cd16 ct16:Value}
  {f17:Addr} {od17 an17:Option Addr} {sl17:Array (Option Value)} {oc17 kV17 dc17 pm17 cd17 ct17:Value}
  {f18:Addr} {od18 an18:Option Addr} {sl18:Array (Option Value)} {oc18 kV18 dc18 pm18 cd18 ct18:Value}
  {aE:Addr} {epE:Nat} {s0:Addr} {hsE0:Int} {tkE0:Tok} {dcE0:Option Addr} {nnE0:Nat} {slE0:Array (Option Value)}  {s1:Addr} {hsE1:Int} {tkE1:Tok} {dcE1:Option Addr} {nnE1:Nat} {slE1:Array (Option Value)} {ttE1_0:Tok} {s2:Addr} {hsE2:Int} {tkE2:Tok} {dcE2:Option Addr} {nnE2:Nat} {slE2:Array (Option Value)} {ttE2_0:Tok} {ttE2_1:Tok} {ttE2_2:Tok} {ttE2_3:Tok} {s3:Addr} {hsE3:Int} {tkE3:Tok} {dcE3:Option Addr} {nnE3:Nat} {slE3:Array (Option Value)} {ttE3_0:Tok} {ttE3_1:Tok} {ttE3_2:Tok} {ttE3_3:Tok}
  (a0:PySem.W.nsIn K mainGlobals "parts_of_kind" = some (some (.ref f0))) (l0:K.lookup f0=some ⟨oc0,od0,.func (PySem.W.fnOf "parts_of_kind" "parts_of_kind" (aQ bM) (aN bM) (ar bM) .none kV0 dc0 pm0 an0 cd0 ct0),sl0⟩) (c0:PySem.W.codeIn K cd0 "parts_of_kind" = true) (k0:PySem.W.keepIn K (.ref f0)=true)
  (a1:PySem.W.nsIn K mainGlobals "ways_on" = some (some (.ref f1))) (l1:K.lookup f1=some ⟨oc1,od1,.func (PySem.W.fnOf "ways_on" "ways_on" (aQ dX) (aN dX) (ar dX) .none kV1 dc1 pm1 an1 cd1 ct1),sl1⟩) (c1:PySem.W.codeIn K cd1 "ways_on" = true) (k1:PySem.W.keepIn K (.ref f1)=true)
  (a2:PySem.W.nsIn K mainGlobals "asked_by" = some (some (.ref f2))) (l2:K.lookup f2=some ⟨oc2,od2,.func (PySem.W.fnOf "asked_by" "asked_by" (aQ du) (aN du) (ar du) .none kV2 dc2 pm2 an2 cd2 ct2),sl2⟩) (c2:PySem.W.codeIn K cd2 "asked_by" = true) (k2:PySem.W.keepIn K (.ref f2)=true)
  (a3:PySem.W.nsIn K mainGlobals "traced" = some (some (.ref f3))) (l3:K.lookup f3=some ⟨oc3,od3,.func (PySem.W.fnOf "traced" "traced" (aQ eu) (aN eu) (ar eu) .none kV3 dc3 pm3 an3 cd3 ct3),sl3⟩) (c3:PySem.W.codeIn K cd3 "traced" = true) (k3:PySem.W.keepIn K (.ref f3)=true)
  (a4:PySem.W.nsIn K mainGlobals "ways_back" = some (some (.ref f4))) (l4:K.lookup f4=some ⟨oc4,od4,.func (PySem.W.fnOf "ways_back" "ways_back" (aQ cV) (aN cV) (ar cV) .none kV4 dc4 pm4 an4 cd4 ct4),sl4⟩) (c4:PySem.W.codeIn K cd4 "ways_back" = true) (k4:PySem.W.keepIn K (.ref f4)=true)
  (a5:PySem.W.nsIn K mainGlobals "live" = some (some (.ref f5))) (l5:K.lookup f5=some ⟨oc5,od5,.func (PySem.W.fnOf "live" "live" (aQ fZ) (aN fZ) (ar fZ) .none kV5 dc5 pm5 an5 cd5 ct5),sl5⟩) (c5:PySem.W.codeIn K cd5 "live" = true) (k5:PySem.W.keepIn K (.ref f5)=true)
  (a6:PySem.W.nsIn K mainGlobals "_law_bag" = some (some (.ref f6))) (l6:K.lookup f6=some ⟨oc6,od6,.func (PySem.W.fnOf "_law_bag" "_law_bag" (aQ dY) (aN dY) (ar dY) .none kV6 dc6 pm6 an6 cd6 ct6),sl6⟩) (c6:PySem.W.codeIn K cd6 "_law_bag" = true) (k6:PySem.W.keepIn K (.ref f6)=true)
  (a7:PySem.W.nsIn K mainGlobals "_law_take" = some (some (.ref f7))) (l7:K.lookup f7=some ⟨oc7,od7,.func (PySem.W.fnOf "_law_take" "_law_take" (aQ dA) (aN dA) (ar dA) .none kV7 dc7 pm7 an7 cd7 ct7),sl7⟩) (c7:PySem.W.codeIn K cd7 "_law_take" = true) (k7:PySem.W.keepIn K (.ref f7)=true)
  (a8:PySem.W.nsIn K mainGlobals "_law_names" = some (some (.ref f8))) (l8:K.lookup f8=some ⟨oc8,od8,.func (PySem.W.fnOf "_law_names" "_law_names" (aQ cW) (aN cW) (ar cW) .none kV8 dc8 pm8 an8 cd8 ct8),sl8⟩) (c8:PySem.W.codeIn K cd8 "_law_names" = true) (k8:PySem.W.keepIn K (.ref f8)=true)
  (a9:PySem.W.nsIn K mainGlobals "_law_number" = some (some (.ref f9))) (l9:K.lookup f9=some ⟨oc9,od9,.func (PySem.W.fnOf "_law_number" "_law_number" (aQ cG) (aN cG) (ar cG) .none kV9 dc9 pm9 an9 cd9 ct9),sl9⟩) (c9:PySem.W.codeIn K cd9 "_law_number" = true) (k9:PySem.W.keepIn K (.ref f9)=true)
  (a10:PySem.W.nsIn K mainGlobals "_law_deed" = some (some (.ref f10))) (l10:K.lookup f10=some ⟨oc10,od10,.func (PySem.W.fnOf "_law_deed" "_law_deed" (aQ dB) (aN dB) (ar dB) .none kV10 dc10 pm10 an10 cd10 ct10),sl10⟩) (c10:PySem.W.codeIn K cd10 "_law_deed" = true) (k10:PySem.W.keepIn K (.ref f10)=true)
  (a11:PySem.W.nsIn K mainGlobals "_law_end" = some (some (.ref f11))) (l11:K.lookup f11=some ⟨oc11,od11,.func (PySem.W.fnOf "_law_end" "_law_end" (aQ dZ) (aN dZ) (ar dZ) .none kV11 dc11 pm11 an11 cd11 ct11),sl11⟩) (c11:PySem.W.codeIn K cd11 "_law_end" = true) (k11:PySem.W.keepIn K (.ref f11)=true)
  (a12:PySem.W.nsIn K mainGlobals "_law_plan" = some (some (.ref f12))) (l12:K.lookup f12=some ⟨oc12,od12,.func (PySem.W.fnOf "_law_plan" "_law_plan" (aQ dC) (aN dC) (ar dC) .none kV12 dc12 pm12 an12 cd12 ct12),sl12⟩) (c12:PySem.W.codeIn K cd12 "_law_plan" = true) (k12:PySem.W.keepIn K (.ref f12)=true)
  (a13:PySem.W.nsIn K mainGlobals "_law_count" = some (some (.ref f13))) (l13:K.lookup f13=some ⟨oc13,od13,.func (PySem.W.fnOf "_law_count" "_law_count" (aQ cY) (aN cY) (ar cY) .none kV13 dc13 pm13 an13 cd13 ct13),sl13⟩) (c13:PySem.W.codeIn K cd13 "_law_count" = true) (k13:PySem.W.keepIn K (.ref f13)=true)
  (a14:PySem.W.nsIn K mainGlobals "_law_ahead" = some (some (.ref f14))) (l14:K.lookup f14=some ⟨oc14,od14,.func (PySem.W.fnOf "_law_ahead" "_law_ahead" (aQ cZ) (aN cZ) (ar cZ) .none kV14 dc14 pm14 an14 cd14 ct14),sl14⟩) (c14:PySem.W.codeIn K cd14 "_law_ahead" = true) (k14:PySem.W.keepIn K (.ref f14)=true)
  (a15:PySem.W.nsIn K mainGlobals "_law_behind_all" = some (some (.ref f15))) (l15:K.lookup f15=some ⟨oc15,od15,.func (PySem.W.fnOf "_law_behind_all" "_law_behind_all" (aQ bD) (aN bD) (ar bD) .none kV15 dc15 pm15 an15 cd15 ct15),sl15⟩) (c15:PySem.W.codeIn K cd15 "_law_behind_all" = true) (k15:PySem.W.keepIn K (.ref f15)=true)
  (a16:PySem.W.nsIn K mainGlobals "_law_live" = some (some (.ref f16))) (l16:K.lookup f16=some ⟨oc16,od16,.func (PySem.W.fnOf "_law_live" "_law_live" (aQ dD) (aN dD) (ar dD) .none kV16 dc16 pm16 an16 cd16 ct16),sl16⟩) (c16:PySem.W.codeIn K cd16 "_law_live" = true) (k16:PySem.W.keepIn K (.ref f16)=true)
  (a17:PySem.W.nsIn K mainGlobals "_law_wide_plan" = some (some (.ref f17))) (l17:K.lookup f17=some ⟨oc17,od17,.func (PySem.W.fnOf "_law_wide_plan" "_law_wide_plan" (aQ bN) (aN bN) (ar bN) .none kV17 dc17 pm17 an17 cd17 ct17),sl17⟩) (c17:PySem.W.codeIn K cd17 "_law_wide_plan" = true) (k17:PySem.W.keepIn K (.ref f17)=true)
  (a18:PySem.W.nsIn K mainGlobals "law" = some (some (.ref f18))) (l18:K.lookup f18=some ⟨oc18,od18,.func (PySem.W.fnOf "law" "law" (aQ e5) (aN e5) (ar e5) .none kV18 dc18 pm18 an18 cd18 ct18),sl18⟩) (c18:PySem.W.codeIn K cd18 "law" = true) (k18:PySem.W.keepIn K (.ref f18)=true)
  (z_len:PySem.W.nsIn K mainGlobals "len" = some none)
  (z_zip:PySem.W.nsIn K mainGlobals "zip" = some none)
  (z_tuple:PySem.W.nsIn K mainGlobals "tuple" = some none)
  (z_set:PySem.W.nsIn K mainGlobals "set" = some none)
  (z_min:PySem.W.nsIn K mainGlobals "min" = some none)
  (z_range:PySem.W.nsIn K mainGlobals "range" = some none)
  (z_list:PySem.W.nsIn K mainGlobals "list" = some none)
  (z_int:PySem.W.nsIn K mainGlobals "int" = some none)
  (z_enumerate:PySem.W.nsIn K mainGlobals "enumerate" = some none)
  (z_sorted:PySem.W.nsIn K mainGlobals "sorted" = some none)
  (gE:PySem.W.nsIn K mainGlobals "END_PARTS" = some (some (.ref aE))) (lE:K.lookup aE=some ⟨.type "dict",none,.dict #[⟨hsE0,.str "stop" tkE0,.ref s0⟩,⟨hsE1,.str "go" tkE1,.ref s1⟩,⟨hsE2,.str "less" tkE2,.ref s2⟩,⟨hsE3,.str "is" tkE3,.ref s3⟩] epE,#[]⟩) (qE0:K.lookup s0=some ⟨.type "tuple",dcE0,.seq #[] nnE0,slE0⟩) (qE1:K.lookup s1=some ⟨.type "tuple",dcE1,.seq #[.str "piece" ttE1_0] nnE1,slE1⟩) (qE2:K.lookup s2=some ⟨.type "tuple",dcE2,.seq #[.str "name" ttE2_0,.str "number" ttE2_1,.str "piece" ttE2_2,.str "piece" ttE2_3] nnE2,slE2⟩) (qE3:K.lookup s3=some ⟨.type "tuple",dcE3,.seq #[.str "name" ttE3_0,.str "number" ttE3_1,.str "piece" ttE3_2,.str "piece" ttE3_3] nnE3,slE3⟩) :
  ∃ fd:FuncData,(∀ (s:Shared) (v:Value),BindsTo s fd ⟨[v],[]⟩ [("script",v)])/\∀ base:Heap,K.In base->base.Ns mainGlobals mg->bC l.prog w K mg base cJ 8 fa fd ["script"] (jQ K):=by
 have e:=hfa.symm.trans (PySem.W.mg_of X G a18)
 cases e
 have Z:Bl mg:=⟨PySem.W.mg_none_of X G z_len,PySem.W.mg_none_of X G z_zip,PySem.W.mg_none_of X G z_tuple,PySem.W.mg_none_of X G z_set,PySem.W.mg_none_of X G z_min,PySem.W.mg_none_of X G z_range,PySem.W.mg_none_of X G z_list,PySem.W.mg_none_of X G z_int,PySem.W.mg_none_of X G z_enumerate,PySem.W.mg_none_of X G z_sorted⟩
 have GE:mx K mg aE s0 s1 s2 s3:=⟨⟨PySem.W.mg_of X G gE,_,_,lE,(.cons rfl rfl (.cons rfl rfl (.cons rfl rfl (.cons rfl rfl .nil))))⟩,⟨_,_,_,qE0,rfl,rfl,(by show 0<=sizeLine;decide),.nil⟩,⟨_,_,_,qE1,rfl,rfl,(by show 1<=sizeLine;decide),(.cons ⟨_,rfl⟩ .nil)⟩,⟨_,_,_,qE2,rfl,rfl,(by show 4<=sizeLine;decide),(.cons ⟨_,rfl⟩ (.cons ⟨_,rfl⟩ (.cons ⟨_,rfl⟩ (.cons ⟨_,rfl⟩ .nil))))⟩,⟨_,_,_,qE3,rfl,rfl,(by show 4<=sizeLine;decide),(.cons ⟨_,rfl⟩ (.cons ⟨_,rfl⟩ (.cons ⟨_,rfl⟩ (.cons ⟨_,rfl⟩ .nil))))⟩⟩
 have F0:=bw (st:=bM) l0 c0 k0
 have b0:=F0.binds (ps:=["thing", "kinds", "wanted"]) fun _ _ _ _ _ _ us hl=>match us,hl with | [_,_,_],_=>rfl
 have F1:=bw (st:=dX) l1 c1 k1
 have b1:=F1.binds (ps:=["end"]) fun _ _ _ _ _ _ us hl=>match us,hl with | [_],_=>rfl
 have F2:=bw (st:=du) l2 c2 k2
 have b2:=F2.binds (ps:=["end"]) fun _ _ _ _ _ _ us hl=>match us,hl with | [_],_=>rfl
 have F3:=bw (st:=eu) l3 c3 k3
 have b3:=F3.binds (ps:=["piece"]) fun _ _ _ _ _ _ us hl=>match us,hl with | [_],_=>rfl
 have F4:=bw (st:=cV) l4 c4 k4
 have b4:=F4.binds (ps:=["plan"]) fun _ _ _ _ _ _ us hl=>match us,hl with | [_],_=>rfl
 have F5:=bw (st:=fZ) l5 c5 k5
 have b5:=F5.binds (ps:=["plan"]) fun _ _ _ _ _ _ us hl=>match us,hl with | [_],_=>rfl
 have F6:=bw (st:=dY) l6 c6 k6
 have b6:=F6.binds (ps:=["script", "k"]) fun _ _ _ _ _ _ us hl=>match us,hl with | [_,_],_=>rfl
 have F7:=bw (st:=dA) l7 c7 k7
 have b7:=F7.binds (ps:=["bag", "many"]) fun _ _ _ _ _ _ us hl=>match us,hl with | [_,_],_=>rfl
 have F8:=bw (st:=cW) l8 c8 k8
 have b8:=F8.binds (ps:=["bag"]) fun _ _ _ _ _ _ us hl=>match us,hl with | [_],_=>rfl
 have F9:=bw (st:=cG) l9 c9 k9
 have b9:=F9.binds (ps:=["bag"]) fun _ _ _ _ _ _ us hl=>match us,hl with | [_],_=>rfl
 have F10:=bw (st:=dB) l10 c10 k10
 have b10:=F10.binds (ps:=["bag", "names"]) fun _ _ _ _ _ _ us hl=>match us,hl with | [_,_],_=>rfl
 have F11:=bw (st:=dZ) l11 c11 k11
 have b11:=F11.binds (ps:=["bag", "names", "count"]) fun _ _ _ _ _ _ us hl=>match us,hl with | [_,_,_],_=>rfl
 have F12:=bw (st:=dC) l12 c12 k12
 have b12:=F12.binds (ps:=["bag", "count", "most"]) fun _ _ _ _ _ _ us hl=>match us,hl with | [_,_,_],_=>rfl
 have F13:=bw (st:=cY) l13 c13 k13
 have b13:=F13.binds (ps:=["bag", "most"]) fun _ _ _ _ _ _ us hl=>match us,hl with | [_,_],_=>rfl
 have F14:=bw (st:=cZ) l14 c14 k14
 have b14:=F14.binds (ps:=["deed", "names"]) fun _ _ _ _ _ _ us hl=>match us,hl with | [_,_],_=>rfl
 have F15:=bw (st:=bD) l15 c15 k15
 have b15:=F15.binds (ps:=["plan", "piece", "rows"]) fun _ _ _ _ _ _ us hl=>match us,hl with | [_,_,_],_=>rfl
 have F16:=bw (st:=dD) l16 c16 k16
 have b16:=F16.binds (ps:=["plan"]) fun _ _ _ _ _ _ us hl=>match us,hl with | [_],_=>rfl
 have F17:=bw (st:=bN) l17 c17 k17
 have b17:=F17.binds (ps:=["bag", "count"]) fun _ _ _ _ _ _ us hl=>match us,hl with | [_,_],_=>rfl
 have F18:=bw (st:=e5) l18 c18 k18
 refine⟨PySem.W.fnOf "law" "law" (aQ e5) (aN e5) (ar e5) .none kV18 dc18 pm18 an18 cd18 ct18,fun s v=>.of_eq rfl,fun base _ _=>?_⟩
 have O_parts_of_kind:Own l.prog w K mg base "parts_of_kind" 1 ["thing", "kinds", "wanted"] (jl K):=⟨⟨_,_,iG F0 Z ,PySem.W.mg_of X G a0,k0,b0⟩⟩
 have O_ways_on:Own l.prog w K mg base "ways_on" 3 ["end"] kq:=⟨⟨_,_,mF F1 Z GE O_parts_of_kind,PySem.W.mg_of X G a1,k1,b1⟩⟩
 have O_asked_by:Own l.prog w K mg base "asked_by" 1 ["end"] gX:=⟨⟨_,_,kX F2 Z ,PySem.W.mg_of X G a2,k2,b2⟩⟩
 have O_traced:Own l.prog w K mg base "traced" 3 ["piece"] iA:=⟨⟨_,_,nz F3 Z O_asked_by,PySem.W.mg_of X G a3,k3,b3⟩⟩
 have O_ways_back:Own l.prog w K mg base "ways_back" 4 ["plan"] kA:=⟨⟨_,_,kM F4 Z O_ways_on,PySem.W.mg_of X G a4,k4,b4⟩⟩
 have O_live:Own l.prog w K mg base "live" 5 ["plan"] kG:=⟨⟨_,_,p5 F5 Z O_traced O_ways_back,PySem.W.mg_of X G a5,k5,b5⟩⟩
 have O_law_bag:Own l.prog w K mg base "_law_bag" 1 ["script", "k"] (mv K):=⟨⟨_,_,mG F6 Z ,PySem.W.mg_of X G a6,k6,b6⟩⟩
 have O_law_take:Own l.prog w K mg base "_law_take" 1 ["bag", "many"] dG:=⟨⟨_,_,kY F7 Z ,PySem.W.mg_of X G a7,k7,b7⟩⟩
 have O_law_names:Own l.prog w K mg base "_law_names" 2 ["bag"] jf:=⟨⟨_,_,kN F8 Z O_law_take,PySem.W.mg_of X G a8,k8,b8⟩⟩
 have O_law_number:Own l.prog w K mg base "_law_number" 2 ["bag"] gm:=⟨⟨_,_,jO F9 Z O_law_take,PySem.W.mg_of X G a9,k9,b9⟩⟩
 have O_law_deed:Own l.prog w K mg base "_law_deed" 3 ["bag", "names"] iR:=⟨⟨_,_,kZ F10 Z O_law_take O_law_number,PySem.W.mg_of X G a10,k10,b10⟩⟩
 have O_law_end:Own l.prog w K mg base "_law_end" 3 ["bag", "names", "count"] iS:=⟨⟨_,_,mH F11 Z O_law_take O_law_number,PySem.W.mg_of X G a11,k11,b11⟩⟩
 have O_law_plan:Own l.prog w K mg base "_law_plan" 4 ["bag", "count", "most"] ke:=⟨⟨_,_,lg F12 Z O_law_take O_law_names O_law_deed O_law_end,PySem.W.mg_of X G a12,k12,b12⟩⟩
 have O_law_count:Own l.prog w K mg base "_law_count" 2 ["bag", "most"] jg:=⟨⟨_,_,kO F13 Z O_law_take,PySem.W.mg_of X G a13,k13,b13⟩⟩
 have O_law_ahead:Own l.prog w K mg base "_law_ahead" 1 ["deed", "names"] jr:=⟨⟨_,_,kP F14 Z ,PySem.W.mg_of X G a14,k14,b14⟩⟩
 have O_law_behind_all:Own l.prog w K mg base "_law_behind_all" 1 ["plan", "piece", "rows"] fN:=⟨⟨_,_,ic F15 Z ,PySem.W.mg_of X G a15,k15,b15⟩⟩
 have O_law_live:Own l.prog w K mg base "_law_live" 5 ["plan"] gB:=⟨⟨_,_,lh F16 Z O_law_behind_all O_law_ahead,PySem.W.mg_of X G a16,k16,b16⟩⟩
 have O_law_wide_plan:Own l.prog w K mg base "_law_wide_plan" 4 ["bag", "count"] iE:=⟨⟨_,_,iH F17 Z O_law_take O_law_deed O_law_end,PySem.W.mg_of X G a17,k17,b17⟩⟩
 exact rG F18 Z O_law_bag O_law_take O_law_plan O_law_count O_law_wide_plan O_law_live O_live
theorem walk {l:PySem.W.OpenLaw} {q:Program} {loose:List Str} {XP:(Str->Option Value)->Heap->Prop} {YP:World->Heap->Prop} {d:DefRec} {K:Params->PySem.W.Frag} (hn:l.most=some 63) (hdf:d.params.defaults = [])
  (hY:∀ (w:World) (h:Heap),YP w h->(K w.params).In h)
  (F:∀ (w:World) (mg:Str->Option Value) (fa:Addr) (h:Heap),(K w.params).In h->h.Ns mainGlobals mg->mg d.name=some (.ref fa) ->
   ∃ fd:FuncData,(∀ (s:Shared) (u:Value),BindsTo s fd ⟨[u],[]⟩ [("script",u)])/\∀ base:Heap,(K w.params).In base->base.Ns mainGlobals mg->bC l.prog w (K w.params) mg base cJ 8 fa fd ["script"] (jQ (K w.params))) :
  PySem.W.WalkO q loose XP YP l.row.toRowW d [] (fun f vs=>PySem.call f vs) :=
 L2.ph (n:=63) (k:=8) (x := "script") (CX:=fun _=>cJ) (sp:=fun w=>jQ (K w.params)) hn (by decide) hdf ⟨rfl,by decide,by decide⟩ hY F (fun _ _ a ns hl _ hS=>⟨a,ns,rfl,hS,hl,fun _=>rfl⟩) fun _ _ _ _ _ z=>z
end My
theorem PySem.W.Fast.tw17298276370135047573:True:=trivial
theorem PySem.W.Fast.tw4144573403179391413:True:=trivial
theorem PySem.W.Fast.tw8586524573138488048:True:=trivial
theorem PySem.W.Fast.tw10031534662255901466:True:=trivial
theorem PySem.W.Fast.tw6273999778566566741:True:=trivial
theorem PySem.W.Fast.tw10730085695637144404:True:=trivial
theorem PySem.W.Fast.tw18088446538391983357:True:=trivial
theorem PySem.W.Fast.tw15592798990361054542:True:=trivial
theorem PySem.W.Fast.tw12727681788198971916:True:=trivial
theorem PySem.W.Fast.tw18065634534468509208:True:=trivial
theorem PySem.W.Fast.tw8793225325514164911:True:=trivial
theorem PySem.W.Fast.tw6476106425365235491:True:=trivial
theorem PySem.W.Fast.tw1700386069388671776:True:=trivial
theorem PySem.W.Fast.tw8165309156624301582:True:=trivial
theorem PySem.W.Fast.tw12217601203899989629:True:=trivial
theorem PySem.W.Fast.tw8575006045784845015:True:=trivial
theorem PySem.W.Fast.tw15015582703607112293:True:=trivial
theorem PySem.W.Fast.tw12990963704001121475:True:=trivial
theorem PySem.W.Fast.tw430761495268311776:True:=trivial
theorem PySem.W.Fast.tw15068550317591963479:True:=trivial
theorem PySem.W.Fast.tw5588474032255157324:True:=trivial
theorem PySem.W.Fast.tw10580758627775090323:True:=trivial
theorem PySem.W.Fast.tw8776006347226942813:True:=trivial
theorem PySem.W.Fast.tw14494392942924141024:True:=trivial
theorem PySem.W.Fast.tw409907329375540072:True:=trivial
theorem PySem.W.Fast.tw6766801335479941603:True:=trivial
theorem PySem.W.Fast.tw9978498452137723579:True:=trivial
theorem PySem.W.Fast.tw3235098698038752225:True:=trivial
theorem PySem.W.Fast.tw12271273633779601422:True:=trivial
theorem PySem.W.Fast.tw977889106619187890:True:=trivial
theorem PySem.W.Fast.tw15440731998518328568:True:=trivial
theorem PySem.W.Fast.tw14541320520198797497:True:=trivial
theorem PySem.W.Fast.tw4215679441134728957:True:=trivial
theorem PySem.W.Fast.tw13834764140007683870:True:=trivial
theorem PySem.W.Fast.tw3252850216682438078:True:=trivial
theorem PySem.W.Fast.tw3279398584483423612:True:=trivial
theorem PySem.W.Fast.tw10420660378290772245:True:=trivial
theorem PySem.W.Fast.tw6948196623141113206:True:=trivial
theorem PySem.W.Fast.tw13865939430108623912:True:=trivial
theorem PySem.W.Fast.tw47662936427302917:True:=trivial
theorem PySem.W.Fast.tw11459644166391676933:True:=trivial
theorem PySem.W.Fast.tw1221441960602921801:True:=trivial
theorem PySem.W.Fast.tw17597532861122102011:True:=trivial
theorem PySem.W.Fast.tw13213272054420687578:True:=trivial
theorem PySem.W.Fast.tw10284391748440675340:True:=trivial
theorem PySem.W.Fast.tw8773954631629472233:True:=trivial
theorem PySem.W.Fast.tw4287300440697769688:True:=trivial
open PySem PySem.W PyProof.Rows
set_option maxRecDepth 100000 in
set_option maxHeartbeats 0 in
theorem PySem.Challenge.cw_ledpast_k35_live_names_by_hand_holds : PySem.Challenge.rw_ledpast_k35_live_names_by_hand.Holds := by
 w_on; o_law; k_head; (case hw => w_witness2)
 k_fill
 refine My.walk (l := PySem.Challenge.rw_ledpast_k35_live_names_by_hand) rfl rfl (fun w h Y => PySem.W.kIn_of Y) ?F
 case F =>
  intro w mg fa h KX G hmg
  refine' My.all_mk KX G hmg ?a0 ?l0 ?c0 ?k0 ?a1 ?l1 ?c1 ?k1 ?a2 ?l2 ?c2 ?k2 ?a3 ?l3 ?c3 ?k3 ?a4 ?l4 ?c4 ?k4 ?a5 ?l5 ?c5 ?k5 ?a6 ?l6 ?c6 ?k6 ?a7 ?l7 ?c7 ?k7 ?a8 ?l8 ?c8 ?k8 ?a9 ?l9 ?c9 ?k9 ?a10 ?l10 ?c10 ?k10 ?a11 ?l11 ?c11 ?k11 ?a12 ?l12 ?c12 ?k12 ?a13 ?l13 ?c13 ?k13 ?a14 ?l14 ?c14 ?k14 ?a15 ?l15 ?c15 ?k15 ?a16 ?l16 ?c16 ?k16 ?a17 ?l17 ?c17 ?k17 ?a18 ?l18 ?c18 ?k18 ?z_len ?z_zip ?z_tuple ?z_set ?z_min ?z_range ?z_list ?z_int ?z_enumerate ?z_sorted ?gE ?lE ?qE0 ?qE1 ?qE2 ?qE3
  (case gE => k_is)
  (case lE => k_is)
  (case qE0 => k_is)
  (case qE1 => k_is)
  (case qE2 => k_is)
  (case qE3 => k_is)
  (case a0 => k_is)
  (case l0 => k_is)
  (case c0 => k_is)
  (case k0 => k_is)
  (case a1 => k_is)
  (case l1 => k_is)
  (case c1 => k_is)
  (case k1 => k_is)
  (case a2 => k_is)
  (case l2 => k_is)
  (case c2 => k_is)
  (case k2 => k_is)
  (case a3 => k_is)
  (case l3 => k_is)
  (case c3 => k_is)
  (case k3 => k_is)
  (case a4 => k_is)
  (case l4 => k_is)
  (case c4 => k_is)
  (case k4 => k_is)
  (case a5 => k_is)
  (case l5 => k_is)
  (case c5 => k_is)
  (case k5 => k_is)
  (case a6 => k_is)
  (case l6 => k_is)
  (case c6 => k_is)
  (case k6 => k_is)
  (case a7 => k_is)
  (case l7 => k_is)
  (case c7 => k_is)
  (case k7 => k_is)
  (case a8 => k_is)
  (case l8 => k_is)
  (case c8 => k_is)
  (case k8 => k_is)
  (case a9 => k_is)
  (case l9 => k_is)
  (case c9 => k_is)
  (case k9 => k_is)
  (case a10 => k_is)
  (case l10 => k_is)
  (case c10 => k_is)
  (case k10 => k_is)
  (case a11 => k_is)
  (case l11 => k_is)
  (case c11 => k_is)
  (case k11 => k_is)
  (case a12 => k_is)
  (case l12 => k_is)
  (case c12 => k_is)
  (case k12 => k_is)
  (case a13 => k_is)
  (case l13 => k_is)
  (case c13 => k_is)
  (case k13 => k_is)
  (case a14 => k_is)
  (case l14 => k_is)
  (case c14 => k_is)
  (case k14 => k_is)
  (case a15 => k_is)
  (case l15 => k_is)
  (case c15 => k_is)
  (case k15 => k_is)
  (case a16 => k_is)
  (case l16 => k_is)
  (case c16 => k_is)
  (case k16 => k_is)
  (case a17 => k_is)
  (case l17 => k_is)
  (case c17 => k_is)
  (case k17 => k_is)
  (case a18 => k_is)
  (case l18 => k_is)
  (case c18 => k_is)
  (case k18 => k_is)
  (case z_len => k_is)
  (case z_zip => k_is)
  (case z_tuple => k_is)
  (case z_set => k_is)
  (case z_min => k_is)
  (case z_range => k_is)
  (case z_list => k_is)
  (case z_int => k_is)
  (case z_enumerate => k_is)
  (case z_sorted => k_is)
