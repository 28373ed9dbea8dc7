import PyProof.Rows.All
import Wide.All
import OpenK.AllK
import Wide.FinOn
import Lean
import PyProof.EqAt
import PyProof.EqKinds
import PyProof.TupleCall
import PyProof.NeData
import Wide.Seal
import Wide.OfPy
import KE.KSetDisp
import PySem.Challenge.RW_ledpast_k12_whole_same_tellings
set_option maxHeartbeats 8000000
set_option Elab.async false
set_option linter.all false
set_option maxRecDepth 100000
namespace L2
open PySem PySem.Spec PyProof.Rows
abbrev Key:=Sum Int Str
def iF:Key->Value->Bool
 | .inl k,v=>Value.isInt k v
 | .inr x,v=>Value.isStrOf x v
def Dr (w:World):Key->Int
 | .inl k=>hashInt k
 | .inr x=>hashStr w x
theorem cJ:∀ {k:Key} {v:Value},iF k v=true->(∃ i t,k=Sum.inl i/\v=Value.int i t)\/(∃ x t,k=Sum.inr x/\v=Value.str x t)
 | .inl i,v,h=>by
  obtain⟨t,e⟩:=Value.isInt_shape (k:=i) (v:=v) h
  exact .inl ⟨i,t,rfl,e⟩
 | .inr x,v,h=>by
  obtain⟨t,e⟩:=Value.isStrOf_shape (x:=x) (v:=v) h
  exact .inr ⟨x,t,rfl,e⟩
theorem wY (i:Int) (t:Tok):iF (.inl i) (.int i t)=true:=by simp [iF,Value.isInt]
theorem wZ (x:Str) (t:Tok):iF (.inr x) (.str x t)=true:=by simp [iF,Value.isStrOf]
theorem Bz (a b:Int):decide ((Sum.inl a:Key)=Sum.inl b)=(a == b):=by
 by_cases e:a=b
 ·subst e;simp
 ·have h:¬ (Sum.inl a:Key)=Sum.inl b:=fun q=>e (Sum.inl.inj q)
  rw [decide_eq_false h]
  exact (beq_eq_false_iff_ne.mpr e).symm
theorem BA (a b:Str):decide ((Sum.inr a:Key)=Sum.inr b)=decide (a=b):=by
 by_cases e:a=b
 ·subst e;simp
 ·have h:¬ (Sum.inr a:Key)=Sum.inr b:=fun q=>e (Sum.inr.inj q)
  rw [decide_eq_false h,decide_eq_false e]
theorem BB (a:Int) (b:Str):decide ((Sum.inl a:Key)=Sum.inr b)=false:=decide_eq_false (fun q=>nomatch q)
theorem BC (a:Str) (b:Int):decide ((Sum.inr a:Key)=Sum.inl b)=false:=decide_eq_false (fun q=>nomatch q)
def aP (prog:Program) (w:World):PySem.KeyKind prog w Key where
 is:=iF
 hash:=Dr w
 inj:=fun v a b ha hb=>by
  rcases cJ ha with ⟨i,t,rfl,rfl⟩ | ⟨x,t,rfl,rfl⟩
  ·rcases cJ hb with ⟨j,u,rfl,e⟩ | ⟨y,u,rfl,e⟩
   ·injection e with e1 _;rw [e1]
   ·exact nomatch e
  ·rcases cJ hb with ⟨j,u,rfl,e⟩ | ⟨y,u,rfl,e⟩
   ·exact nomatch e
   ·injection e with e1 _;rw [e1]
 byValue:=fun k v h=>by
  rcases cJ h with ⟨i,t,rfl,rfl⟩ | ⟨x,t,rfl,rfl⟩ <;> rfl
 pyHash:=fun hv h=>by
  rcases cJ hv with ⟨i,t,rfl,rfl⟩ | ⟨x,t,rfl,rfl⟩
  ·exact wpAny_pyHash_int h
  ·exact wpAny_pyHash_str h
 eqBool:=fun hu hv h=>by
  rcases cJ hu with ⟨i,t,rfl,rfl⟩ | ⟨x,t,rfl,rfl⟩
  ·rcases cJ hv with ⟨j,u,rfl,rfl⟩ | ⟨y,u,rfl,rfl⟩
   ·rw [Bz] at h;exact wpAny_eqBool_int h
   ·rw [BB] at h;exact SeqAt.EqAt.int_str i t y u _ _ _ _ h
  ·rcases cJ hv with ⟨j,u,rfl,rfl⟩ | ⟨y,u,rfl,rfl⟩
   ·rw [BC] at h;exact SeqAt.EqAt.str_int x t j u _ _ _ _ h
   ·rw [BA] at h;exact wpAny_eqBool_str h
 «strs»:=fun k x t v h=>by
  rcases cJ h with ⟨i,u,rfl,e⟩ | ⟨y,u,rfl,e⟩
  ·exact nomatch e
  ·injection e with e1 _
   subst e1
   cases v <;> rfl
theorem mV (prog:Program) (w:World) (i:Int) (t:Tok):(aP prog w).is (.inl i) (.int i t)=true:=wY i t
theorem mW (prog:Program) (w:World) (x:Str) (t:Tok):(aP prog w).is (.inr x) (.str x t)=true:=wZ x t
inductive V where
 | bI | bl (b:Bool) | int (i:Int) | str (x:Str) | j1 (b:Array UInt8) | w5 (b:UInt64) | ref (a:Addr) | ty (n:String)
 deriving DecidableEq
def RelV:V->Value->Prop
 | .bI,u=>u=Value.none
 | .bl b,u=>u=Value.bool b
 | .int i,u=>∃ t,u=Value.int i t
 | .str x,u=>∃ t,u=Value.str x t
 | .j1 b,u=>∃ t,u=Value.bytes b t
 | .w5 b,u=>∃ t,u=Value.float b t
 | .ref a,u=>u=Value.ref a
 | .ty n,u=>u=Value.type n
abbrev Vals:List V->List Value->Prop:=Paired RelV
theorem Vals.length {xs:List V} {us:List Value} (r:Vals xs us):xs.length=us.length:=Paired.length r
theorem Vals.get:∀ {xs:List V} {us:List Value} {i:Nat} {x:V},Vals xs us->xs[i]? = some x->∃ u,us[i]? = some u/\RelV x u
 | _,_,_,_,.nil,e=>by simp at e
 | _,_,0,_,.cons r _,e=>by simp at e;subst e;exact⟨_,rfl,r⟩
 | _,_,i+1,x,.cons _ t,e=>by
  obtain⟨u,h1,h2⟩:=Vals.get (i:=i) (x:=x) t (by simpa using e)
  exact⟨u,by simpa using h1,h2⟩
theorem Vals.set {x:V} {u:Value} (r:RelV x u):∀ {xs:List V} {us:List Value} (i:Nat),Vals xs us->Vals (xs.set i x) (us.set i u)
 | _,_,_,.nil=>.nil
 | _,_,0,.cons _ t=>.cons r t
 | _,_,i+1,.cons q t=>.cons q (Vals.set r i t)
theorem Vals.append:∀ {xs ys:List V} {us ws:List Value},Vals xs us->Vals ys ws->Vals (xs++ys) (us++ws)
 | _,_,_,_,.nil,s=>s
 | _,_,_,_,.cons r t,s=>.cons r (Vals.append t s)
theorem Vals.take:∀ {xs:List V} {us:List Value} (n:Nat),Vals xs us->Vals (xs.take n) (us.take n)
 | _,_,0,_=>.nil
 | _,_,_+1,.nil=>.nil
 | _,_,n+1,.cons r t=>.cons r (Vals.take n t)
theorem Vals.drop:∀ {xs:List V} {us:List Value} (n:Nat),Vals xs us->Vals (xs.drop n) (us.drop n)
 | _,_,0,r=>r
 | _,_,_+1,.nil=>.nil
 | _,_,n+1,.cons _ t=>Vals.drop n t
def fM:Option V->Option Value->Prop
 | some v,some u=>RelV v u
 | none,none=>True
 | _,_=>False
def KV {κ : Type}:List (κ × V)->List (κ × Value)->Prop:=Paired fun (p:κ × V) (q:κ × Value)=>p.1=q.1/\RelV p.2 q.2
def kV:Key->V
 | .inl i=>.int i
 | .inr x=>.str x
inductive HO where
 | lst (xs:List V)
 | tup (xs:List V)
 | dK (kvs:List (Key × V)) | dT (kvs:List (List Key × V))
 | set (S:Int->Bool) (n:Nat)
 | ins (C dx:Addr) (fs:List (Str × V))
 | own (x:Addr)
 | xd (fs:List (Str × V))
 | met (f x:Addr)
 | BD (lo hi:Int)
 | mX (o:Obj) (u:HO)
 | sg (ps:Array Value)
 | ext (φ : Heap->Prop)
abbrev Hp:=Addr->Option HO
def upd (H:Hp) (a:Addr) (o:HO):Hp:=fun b=>if b=a then some o else H b
theorem ae {H:Hp} {a:Addr} {o:HO}:upd H a o a=some o:=by unfold upd;rw [if_pos rfl]
theorem ai {H:Hp} {a b:Addr} {o:HO} (h:b ≠ a):upd H a o b=H b:=by unfold upd;rw [if_neg h]
theorem Aw {H:Hp} {a:Addr} {o u:HO}:upd (upd H a o) a u=upd H a u:=by
 funext b;unfold upd;split <;> rfl
theorem bA {H:Hp} {a b:Addr} {o u:HO} (h:H a=some o) (h':H b=some u) (d:o ≠ u):a ≠ b:=by
 intro e;subst e;rw [h] at h';exact d (Option.some.inj h')
theorem aw {H:Hp} {a b:Addr} {o:HO} (h:H a=some o) (h':H b=none):a ≠ b:=by
 intro e;subst e;rw [h] at h';cases h'
section
variable (P:Program) (w:World)
def cf (H:Hp) (h:Heap) (a:Addr):HO->Prop
 | .lst xs=>xs.length<=sizeLine/\∃ (its:List Value) (n:Nat),Vals xs its/\h.get? a=some { cls:=.type "list",data:=.seq its.toArray n }
 | .tup xs=>xs.length<=sizeLine/\∃ its:List Value,Vals xs its/\∃ o,h.get? a=some o/\o.cls=.type "tuple" /\ ∃ n,o.data=.seq its.toArray n/\o.dict=none
 | .dK kvs=>kvs.length<=sizeLine/\(a == sysModules)=false/\∃ vs,KV kvs vs/\h.DictOf (aP P w) a vs
 | .dT kvs=>kvs.length<=sizeLine/\(a == sysModules)=false/\∃ xs:List (List Key × Addr × Value),
   Paired (fun (p:List Key × V) (q:List Key × Addr × Value)=>p.1=q.1/\H q.2.1=some (.tup (p.1.map kV))/\RelV p.2 q.2.2) kvs xs /\
   ∃ o es ep,h.get? a=some o/\o.ExactDict/\o.data=.dict es ep/\es.toList=xs.map (entryOfKey (tupleKind (aP P w)))/\(xs.map (·.1)).Nodup
 | .set S n=>h.SetOf (intKind P w) a S n
 | .ins C dx fs=>H dx=some (.own a)/\fs.length<=1000/\dx ≠ a/\h.get? a=some (PySem.W.instObj C dx) /\
   ∃ mA,h.Ns1 dx mA/\(∀ f,fM (fs.lookup f) (mA f))/\PySem.Within mA (fs.map (·.1))
 | .own _=>∃ o,h.get? a=some o
 | .xd fs=>∃ mA,h.Ns1 a mA/\∀ f,fM (fs.lookup f) (mA f)
 | .BD lo hi=>∃ t u v,h.get? a=some { cls:=.type "range",data:=.fields #[.int lo t,.int hi u,.int 1 v] }
 | .mX o u=>h.get? a=some o/\cf H h a u
 | .sg ps=>h.get? a=some { cls:=.none,data:=.fields ps }
 | .met f x=>h.get? a=some (PySem.W.methodObj (.ref f) (.ref x))
 | .ext φ=>φ h/\(∃ o,h.get? a=some o)/\∀ h1 h2:Heap,φ h1->(∀ o,h1.get? a=some o->h2.get? a=some o)->φ h2
def d8 (H:Hp) (h:Heap):Prop:=∀ a o,H a=some o->cf P w H h a o
end
section
variable {P:Program} {w:World} {H H':Hp} {h h':Heap} {a:Addr} {o:HO}
theorem cf.lt (x:cf P w H h a o):a < h.objs.size:=by
 cases o with
 | lst xs=>obtain⟨_,_,_,_,e⟩:=x;exact Heap.lt_size e
 | tup xs=>obtain⟨_,_,_,p⟩:=x;exact (let ⟨o,e,_⟩:=p;Heap.lt_size e)
 | dK kvs=>obtain⟨_,_,_,_,o,_,_,e,_⟩:=x;exact Heap.lt_size e
 | dT kvs=>obtain⟨_,_,_,_,o,_,_,e,_⟩:=x;exact Heap.lt_size e
 | set S n=>obtain⟨o,_,_,_,e,_⟩:=x;exact Heap.lt_size e
 | ins C dx fs=>obtain⟨_,_,_,e,_⟩:=x;exact Heap.lt_size e
 | own y=>obtain⟨_,e⟩:=x;exact Heap.lt_size e
 | xd fs=>obtain⟨_,⟨_,_,_,e,_⟩,_⟩:=x;exact Heap.lt_size e
 | BD lo hi=>obtain⟨_,_,_,e⟩:=x;exact Heap.lt_size e
 | mX ob u=>obtain⟨e,_⟩:=x;exact Heap.lt_size e
 | sg ps=>exact Heap.lt_size (show h.get? a=some _ from x)
 | met f y=>exact Heap.lt_size (show h.get? a=some _ from x)
 | ext φ=>obtain⟨_,⟨_,e⟩,_⟩:=x;exact Heap.lt_size e
theorem Paired.yG {α β : Type} {F G:α->β->Prop}:∀ {l₁ : List α} {l₂ : List β},Paired F l₁ l₂->(∀ a b,F a b->G a b)->Paired G l₁ l₂
 | _,_,.nil,_=>.nil
 | _,_,.cons r t,f=>.cons (f _ _ r) (Paired.yG t f)
theorem cf.pK (x:cf P w H h a o) (k:∀ b u,(b=a\/H b=some (.own a))->h.get? b=some u->h'.get? b=some u)
  (ho:∀ b,H b=some (.own a)->H' b=some (.own a)) (ht:∀ b xs,H b=some (.tup xs)->H' b=some (.tup xs)):cf P w H' h' a o:=by
 induction o with
 | lst xs=>obtain⟨z,its,n,r,e⟩:=x;exact⟨z,its,n,r,k _ _ (.inl rfl) e⟩
 | tup xs=>obtain⟨z,its,r,ob,e,c⟩:=x;exact⟨z,its,r,ob,k _ _ (.inl rfl) e,c⟩
 | dK kvs=>obtain⟨z,y,vs,r,ob,es,ep,e,c⟩:=x;exact⟨z,y,vs,r,ob,es,ep,k _ _ (.inl rfl) e,c⟩
 | dT kvs =>
  obtain⟨z,y,xs,r,ob,es,ep,e,c⟩:=x
  exact⟨z,y,xs,Paired.yG r fun p q z=>⟨z.1,ht _ _ z.2.1,z.2.2⟩,ob,es,ep,k _ _ (.inl rfl) e,c⟩
 | set S n=>obtain⟨ob,es,ep,t,e,c⟩:=x;exact⟨ob,es,ep,t,k _ _ (.inl rfl) e,c⟩
 | ins C dx fs =>
  obtain⟨d,z,ne,e,mA,⟨od,es,ep,e2,c⟩,r⟩:=x
  exact⟨ho _ d,z,ne,k _ _ (.inl rfl) e,mA,⟨od,es,ep,k _ _ (.inr d) e2,c⟩,r⟩
 | own y=>obtain⟨ob,e⟩:=x;exact⟨ob,k _ _ (.inl rfl) e⟩
 | xd fs=>obtain⟨mA,⟨od,es,ep,e,c⟩,r⟩:=x;exact⟨mA,⟨od,es,ep,k _ _ (.inl rfl) e,c⟩,r⟩
 | BD lo hi=>obtain⟨t,u,v,e⟩:=x;exact⟨t,u,v,k _ _ (.inl rfl) e⟩
 | mX ob u ih=>obtain⟨e,q⟩:=x;exact⟨k _ _ (.inl rfl) e,ih q⟩
 | sg ps =>
  have e:h.get? a=some { cls:=.none,data:=.fields ps }:=x
  show h'.get? a=some { cls:=.none,data:=.fields ps }
  exact k a _ (.inl rfl) e
 | met f y =>
  have e:h.get? a=some (PySem.W.methodObj (.ref f) (.ref y)):=x
  show h'.get? a=some (PySem.W.methodObj (.ref f) (.ref y))
  exact k a _ (.inl rfl) e
 | ext φ=>obtain⟨p,⟨o,e⟩,st⟩:=x;exact⟨st _ _ p fun o q=>k _ _ (.inl rfl) q,⟨o,k _ _ (.inl rfl) e⟩,st⟩
theorem d8.lt (x:d8 P w H h) (e:H a=some o):a < h.objs.size:=(x a o e).lt
theorem d8.fresh (x:d8 P w H h) (e:h.objs.size<=a):H a=none:=by
 cases q:H a with
 | none=>rfl
 | some u=>exact absurd (Nat.lt_of_lt_of_le (x.lt q) e) (Nat.lt_irrefl _)
theorem d8.kept (x:d8 P w H h) (k:∀ b u,h.get? b=some u->h'.get? b=some u):d8 P w H h':=fun a o e =>
 (x a o e).pK (fun b u _ q=>k b u q) (fun _ q=>q) fun _ _ q=>q
theorem d8.laid (x:d8 P w H h) (k:∀ b u,h.get? b=some u->h'.get? b=some u) (hp:h.objs.size<=a) (new:cf P w (upd H a o) h' a o):d8 P w (upd H a o) h':=fun b u e=>by
 have hn:=x.fresh hp
 by_cases hb:b=a
 ·subst hb;rw [ae] at e;cases e;exact new
 ·rw [ai hb] at e
  exact (x b u e).pK (fun c v _ q=>k c v q) (fun c q=>by rw [ai (aw q hn)];exact q) fun c xs q=>by rw [ai (aw q hn)];exact q
end
def Rd (H:Hp) (a:Addr) (u:HO):Prop:=H a=some u\/∃ o,H a=some (.mX o u)
theorem Rd.ok {P:Program} {w:World} {H:Hp} {h:Heap} {a:Addr} {u:HO} (r:Rd H a u) (x:d8 P w H h):cf P w H h a u:=by
 rcases r with r | ⟨o,r⟩
 ·exact x a u r
 ·obtain⟨_,q⟩:=x a _ r
  exact q
def w6:Option HO->Prop
 | some (.lst _)=>True
 | some (.dK _)=>True
 | some (.dT _)=>True
 | some (.set _ _)=>True
 | some (.ins _ _ _)=>True
 | some (.ext _)=>True
 | _=>False
section
variable {P:Program} {w:World} {H:Hp} {h h':Heap} {x e:Addr} {o':HO}
theorem d8.write (ok:d8 P w H h) (mu:w6 (H x)) (he:e=x\/H e=some (.own x)) (k:∀ b u,b ≠ e->h.get? b=some u->h'.get? b=some u) (heo:∃ u,h'.get? e=some u)
  (new:cf P w (upd H x o') h' x o'):d8 P w (upd H x o') h':=fun b u q=>by
 have nown:∀ c y,H c=some (.own y)->c ≠ x:=fun c y r z=>by subst z;rw [r] at mu;exact mu
 have ntup:∀ c xs,H c=some (.tup xs)->c ≠ x:=fun c xs r z=>by subst z;rw [r] at mu;exact mu
 by_cases hb:b=x
 ·subst hb;rw [ae] at q;cases q;exact new
 ·rw [ai hb] at q
  by_cases hbe:b=e
  ·have q':H b=some (.own x):=by
    rcases he with z | z
    ·exact absurd (hbe.trans z) hb
    ·rw [hbe];exact z
   rw [q] at q';cases q'
   obtain⟨v,hv⟩:=heo
   exact⟨v,by rw [hbe];exact hv⟩
  ·refine (ok b u q).pK (fun c v hc r=>k c v ?_ r) (fun c r=>by rw [ai (nown c b r)];exact r) fun c xs r=>by rw [ai (ntup c xs r)];exact r
   rcases hc with rfl | hc
   ·exact hbe
   ·rintro rfl
    rcases he with z | z
    ·exact nown c b hc z
    ·rw [hc] at z;cases z;exact hb rfl
end
structure Un (fs ex:List Addr) (H H':Hp) (h h':Heap):Prop where
 keep:∀ b o,h.get? b=some o->H b=none->b ∉ fs->b ∉ ex->h'.get? b=some o
 slot:∀ b o,h.get? b=some o->H b=none->b ∈ fs->b ∉ ex->∃ sl,h'.get? b=some { o with slots:=sl }
 free:∀ b o,h.get? b=some o->H b=none->b ∉ ex->H' b=none
 there:∀ b o,h.get? b=some o->b ∉ ex->∃ o',h'.get? b=some o'
 bb:∀ b xs,H b=some (.tup xs)->H' b=some (.tup xs)
 ko:∀ b o u,H b=some (.mX o u)->H' b=some (.mX o u)
 ll:∀ b ps,H b=some (.sg ps)->∃ more,H' b=some (.sg (ps++more))
section
variable {fs fs' ex ex':List Addr} {H H1 H2:Hp} {h h1 h2 h':Heap} {a x e:Addr} {o:HO}
theorem Un.any (u:Un fs ex H H1 h h1) {b:Addr} {ob:Obj} (q:h.get? b=some ob) (n:H b=none) (hx:b ∉ ex):∃ sl,h1.get? b=some { ob with slots:=sl }:=by
 by_cases hb:b ∈ fs
 ·exact u.slot b ob q n hb hx
 ·exact⟨ob.slots,u.keep b ob q n hb hx⟩
theorem Un.kept (k:∀ b u,h.get? b=some u->h'.get? b=some u):Un fs ex H H h h' :=
 ⟨fun b ob q _ _ _=>k b ob q,fun b ob q _ _ _=>⟨ob.slots,k b ob q⟩,fun _ _ _ n _=>n,fun b ob q _=>⟨ob,k b ob q⟩,fun _ _ q=>q,fun _ _ _ q=>q,fun _ ps q=>⟨#[],by rw [q];simp⟩⟩
theorem Un.refl:Un fs ex H H h h:=Un.kept fun _ _ q=>q
theorem Un.laid (k:∀ b u,h.get? b=some u->h'.get? b=some u) (hp:h.objs.size<=a) (hn:H a=none):Un fs ex H (upd H a o) h h' where
 keep:=fun b u q _ _ _=>k b u q
 slot:=fun b u q _ _ _=>⟨u.slots,k b u q⟩
 free:=fun b u q n _=>by rw [ai (Nat.ne_of_lt (Nat.lt_of_lt_of_le (Heap.lt_size q) hp))];exact n
 there:=fun b u q _=>⟨u,k b u q⟩
 bb:=fun b xs q=>by rw [ai (aw q hn)];exact q
 ko:=fun b u xs q=>by rw [ai (aw q hn)];exact q
 ll:=fun b ps q=>⟨#[],by rw [ai (aw q hn),q];simp⟩
theorem Un.write (mu:w6 (H x)) (he:e=x\/H e=some (.own x)) (k:∀ b u,b ≠ e->h.get? b=some u->h'.get? b=some u) (heo:∃ u,h'.get? e=some u):Un fs ex H (upd H x o) h h':=by
  have hx:∀ b,H b=none->b ≠ x:=fun b n z=>by subst z;rw [n] at mu;exact mu
  have hb:∀ b,H b=none->b ≠ e:=fun b n z=>by
    subst z
    rcases he with r | r
    · exact hx b n r
    · rw [n] at r;cases r
  have hm:∀ b u,H b=some u->¬ w6 (some u)->b ≠ x:=fun b u q nm z=>by subst z;rw [q] at mu;exact nm mu
  refine⟨fun b u q n _ _=>k b u (hb b n) q,fun b u q n _ _=>⟨u.slots,k b u (hb b n) q⟩,fun b u q n _=>by rw [ai (hx b n)];exact n,fun b u q _=>?_,
    fun b xs q=>by rw [ai (hm b _ q fun z=>z)];exact q,fun b u xs q=>by rw [ai (hm b _ q fun z=>z)];exact q,fun b ps q=>⟨#[],by rw [ai (hm b _ q fun z=>z),q];simp⟩⟩
  by_cases hbe:b=e
  · subst hbe;exact heo
  · exact⟨u,k b u hbe q⟩
end
def z8 (h:Heap) (H:Hp):List Addr:=(List.range h.objs.size).filter fun a=>(H a).isSome
def kq (h:Heap) (H:Hp):Heap:=PySem.W.hideAll h (z8 h H)
theorem w9 (h:Heap) (H:Hp):(kq h H).objs.size=h.objs.size:=PySem.W.hideAll_size _ _
theorem yH {h:Heap} {H:Hp} {b:Addr} {o:Obj} (e:h.get? b=some o) (n:H b=none):(kq h H).get? b=some o :=
 PySem.W.hideAll_get _ e fun hm=>by
  have q:(H b).isSome=true:=(List.mem_filter.mp hm).2
  rw [n] at q;simp at q
theorem Ax {h:Heap} {H:Hp} {b:Addr} {o:Obj} (e:(kq h H).get? b=some o):h.get? b=some o/\H b=none:=by
 have e':h.get? b=some o:=PySem.W.of_hideAll (z8 h H) e
 refine⟨e',?_⟩
 cases q:H b with
 | none=>rfl
 | some x =>
  have hm:b ∈ z8 h H:=List.mem_filter.mpr ⟨List.mem_range.mpr (Heap.lt_size e'),by simp [q]⟩
  have z:(kq h H).get? b=none:=PySem.W.hideAll_none (z8 h H) hm
  rw [z] at e;cases e
def Ay (g h:Heap) (L:Addr):List (Addr × Obj):=(List.range h.objs.size).filterMap fun a=>if a=L\/(g.get? a).isSome=true then none else (h.get? a).map fun o=>(a,o)
def rest (g h:Heap) (L d:Addr):List (Addr × Obj):=(Ay g h L).filter fun p=>decide (p.1 ≠ d)
structure Mod (K:PySem.W.Frag) (mg:Str->Option Value) (base:Heap):Prop where
 j2:K.In base
 glob:base.Ns mainGlobals mg
 blt:∃ mb,base.Ns builtinsNs mb/\∀ x:Str,x ≠ "__name__" -> mb x=bootBuiltins x
 nolimit:base.NoLimit
structure Cx where
 prog:Program
 w:World
 K:PySem.W.Frag
 mg:Str->Option Value
 base:Heap
 A:Around
 N:List Str
 eC:Shared
 si:Hp
 env:Env
 outer:List Env
 stack:List Env
 ex:List Addr
 fn:Str->Bool
 calm:Bool
 pn:List (Addr × Obj)
 xe:Value->Shared->Prop
def lq (l:List Env):List Addr:=l.filterMap (·.frame)
abbrev Cx.fs (X:Cx):List Addr:=lq X.outer
def z9 (sc:Scope) (x:Str):Prop:=sc.names.lookup x=some .local\/sc.names.lookup x=some .cell\/sc.names.lookup x=some .free
def Loc (sc:Scope) (x:Str):Prop:=sc.names.lookup x=some .local\/sc.names.lookup x=some .cell
def Look (env:Env) (h:Heap) (m:Str->Option Value) (x:Str) (u:Value):Prop :=
 (env.kindOf x=some .local/\m x=some u)\/((env.kindOf x=some .cell\/env.kindOf x=some .free)/\∃ c,env.cells.lookup x=some c/\h.IsCell c (some u))
structure Cx.Ok (X:Cx):Prop where
 mod:Mod X.K X.mg X.base
 kind:X.env.scope.kind=.function
 glob:X.env.globals=mainGlobals
 blt:X.env.builtins=builtinsNs
 above:X.eC.heap.objs.size<=X.env.locals
 inj:∀ x y c,X.env.cells.lookup x=some c->X.env.cells.lookup y=some c->x=y
 has:∀ x,(X.env.kindOf x=some .cell\/X.env.kindOf x=some .free)->∃ c,X.env.cells.lookup x=some c
 xa:∀ x c,X.fn x=true->X.env.cells.lookup x=some c->X.eC.heap.objs.size<=c
 hd:X.calm=true->X.A.handled=none
 frames:X.A.frames=some X.stack
 Aa:X.stack=X.outer\/(X.stack=X.env :: X.outer/\X.env.frame=some X.env.locals)
 Di:∀ b ∈ X.ex,b ≠ X.env.locals/\∀ x c,X.env.cells.lookup x=some c->c ≠ b
 bs:∀ b o,X.base.get? b=some o->X.eC.heap.get? b=some o/\X.si b=none
 om:X.base.objs.size<=X.eC.heap.objs.size
 sj:∀ b o,X.base.get? b=some o->b ∉ X.ex
 vC:∀ b ∈ X.ex,b ∉ X.fs
 iR:X.eC.heap.FunFrames X.base X.outer
 so:∀ b ∈ X.fs,X.si b=none
structure Inv (X:Cx) (pins:List (Addr × Obj)) (σ : List (Option V)) (H:Hp) (s:Shared):Prop where
 ok:X.Ok
 os:s.os=X.eC.os
 bare:AllBare s.gens
 base:Un X.fs X.ex X.si H X.eC.heap s.heap
 loc:∃ m,s.heap.Ns X.env.locals m/\∀ (i:Nat) (x:Str) (v:V),X.N[i]? = some x->σ[i]? = some (some v)->z9 X.env.scope x->∃ u,RelV v u/\Look X.env s.heap m x u
 cell:∀ x c,X.env.cells.lookup x=some c->∃ v,s.heap.IsCell c v
 free:H X.env.locals=none
 gP:∀ x c,X.env.cells.lookup x=some c->H c=none
 pin:∀ p ∈ X.pn++pins,s.heap.get? p.1=some p.2/\H p.1=none/\p.1 ≠ X.env.locals/\p.1 ∉ X.fs/\∀ v,p.2.data ≠ .cell v
 aT:d8 X.prog X.w H s.heap
 len:σ.length=X.N.length
section
variable {X:Cx} {pins:List (Addr × Obj)} {σ : List (Option V)} {H H':Hp} {s:Shared} {h':Heap}
theorem Cx.Ok.Ds (ok:X.Ok) {b:Addr} {o:Obj} (e:X.base.get? b=some o):b ∉ X.fs:=fun hb=>by
 have:=(ok.iR.mem hb).1
 rw [e] at this;cases this
theorem Inv.bs (I:Inv X pins σ H s):∀ b o,X.base.get? b=some o->s.heap.get? b=some o/\H b=none:=fun b o e =>
 ⟨I.base.keep b o (I.ok.bs b o e).1 (I.ok.bs b o e).2 (I.ok.Ds e) (I.ok.sj b o e),I.base.free b o (I.ok.bs b o e).1 (I.ok.bs b o e).2 (I.ok.sj b o e)⟩
theorem Inv.bk (I:Inv X pins σ H s):∀ b o,X.base.get? b=some o->s.heap.get? b=some o:=fun b o e=>(I.bs b o e).1
theorem Inv.mod (I:Inv X pins σ H s):Mod X.K X.mg X.base:=I.ok.mod
theorem Inv.iJ (I:Inv X pins σ H s):X.K.In s.heap:=I.ok.mod.j2.keeps I.bk
theorem Inv.lt (I:Inv X pins σ H s):X.env.locals < s.heap.objs.size:=let ⟨_,hn,_⟩:=I.loc;hn.lt
theorem Inv.sz (I:Inv X pins σ H s):X.eC.heap.objs.size<=s.heap.objs.size:=Nat.le_trans I.ok.above (Nat.le_of_lt I.lt)
theorem Inv.Dt (I:Inv X pins σ H s) {a:Addr} (h:s.heap.objs.size<=a):a ∉ X.fs:=fun hb=>by
 obtain⟨_,o,ho,_⟩:=I.ok.iR.mem hb
 exact absurd (Nat.lt_of_lt_of_le (Heap.lt_size ho) (Nat.le_trans I.sz h)) (Nat.lt_irrefl _)
theorem Inv.sr (I:Inv X pins σ H s):∀ x c,X.env.cells.lookup x=some c->c ≠ X.env.locals:=fun x c e z=>by
 obtain⟨v,o,ho,hd⟩:=I.cell x c e
 obtain⟨m,⟨o',es,ep,ho',hd',_⟩,_⟩:=I.loc
 rw [z,ho'] at ho;cases ho;rw [hd'] at hd;cases hd
theorem Inv.iR (I:Inv X pins σ H s):s.heap.FunFrames X.base X.outer:=by
 have all:∀ (l:List Env),(∀ b ∈ lq l,b ∈ X.fs)->X.eC.heap.FunFrames X.base l->s.heap.FunFrames X.base l:=by
  intro l
  induction l with
  | nil=>intro _ _;trivial
  | cons env r ih =>
   intro hs hl
   obtain⟨hk,⟨L,o,hf,hn,ho,hd⟩,hr⟩:=hl
   have hL:L ∈ X.fs:=hs L (by unfold lq;rw [List.filterMap_cons,hf];exact List.mem_cons_self)
   obtain⟨sl,e⟩:=I.base.slot L o ho (I.ok.so L hL) hL fun z=>I.ok.vC L z hL
   exact⟨hk,⟨L,_,hf,hn,e,hd⟩,ih (fun b hb=>hs b (by unfold lq;rw [List.filterMap_cons,hf];exact List.mem_cons_of_mem _ hb)) hr⟩
 exact all X.outer (fun _ hb=>hb) I.ok.iR
theorem Inv.stack (I:Inv X pins σ H s):s.heap.FunFrames X.base X.stack:=by
 rcases I.ok.Aa with e | ⟨e,hf⟩
 ·rw [e];exact I.iR
 ·rw [e]
  obtain⟨m,hn,_⟩:=I.loc
  refine .cons (by rw [I.ok.kind];decide) hf hn ?_ I.iR
  exact Heap.get?_none_of_le (Nat.le_trans I.ok.om I.ok.above)
theorem Inv.oo (I:Inv X pins σ H s):∀ b ∈ lq X.stack,b ∈ X.env.locals :: X.fs:=fun b hb=>by
 rcases I.ok.Aa with e | ⟨e,hf⟩
 ·rw [e] at hb;exact List.mem_cons_of_mem _ hb
 ·rw [e] at hb
  unfold lq at hb
  rw [List.filterMap_cons,hf] at hb
  exact hb
theorem Inv.uK (I:Inv X pins σ H s):∀ b ∈ lq X.stack,H b=none:=fun b hb=>by
 rcases List.mem_cons.mp (I.oo b hb) with e | hb
 ·rw [e];exact I.free
 ·obtain⟨_,o,ho,_⟩:=I.ok.iR.mem hb
  exact I.base.free b o ho (I.ok.so b hb) fun z=>I.ok.vC b z hb
theorem Inv.step {g':Array GenState} {t':Nat} {d':Drawn} {ch:List Addr} (I:Inv X pins σ H s)
  (hch:∀ b ∈ ch,(b ∈ X.ex\/X.eC.heap.objs.size<=b)/\b ≠ X.env.locals/\(∀ x c,X.env.cells.lookup x=some c->c ≠ b)/\∀ p ∈ X.pn++pins,p.1 ≠ b)
  (keep:∀ b o,b ≠ X.env.locals->b ∉ X.fs->b ∉ ch->s.heap.get? b=some o->H b=none->h'.get? b=some o)
  (slot:∀ b o,b ≠ X.env.locals->b ∈ X.fs->b ∉ ch->s.heap.get? b=some o->H b=none->∃ sl,h'.get? b=some { o with slots:=sl }) (free:∀ b o,b ∉ ch->s.heap.get? b=some o->H b=none->H' b=none)
  (there:∀ b o,b ∉ ch->s.heap.get? b=some o->∃ o',h'.get? b=some o')
  (bb:∀ b xs,H b=some (.tup xs)->H' b=some (.tup xs)) (ko:∀ b o u,H b=some (.mX o u)->H' b=some (.mX o u)) (ll:∀ b ps,H b=some (.sg ps)->∃ more,H' b=some (.sg (ps++more)))
  (ns:∀ m,s.heap.Ns X.env.locals m->h'.Ns X.env.locals m) (aT:d8 X.prog X.w H' h') (hg:AllBare g') :
  Inv X pins σ H' { s with heap:=h',gens:=g',drawn:=d',toks:=t' }:=by
 have neL:∀ b o,X.eC.heap.get? b=some o->b ≠ X.env.locals:=fun b o e=>Nat.ne_of_lt (Nat.lt_of_lt_of_le (Heap.lt_size e) I.ok.above)
 have neC:∀ b o,X.eC.heap.get? b=some o->b ∉ X.ex->b ∉ ch:=fun b o e hx hb=>by
  rcases (hch b hb).1 with z | z
  ·exact hx z
  ·exact absurd (Nat.lt_of_lt_of_le (Heap.lt_size e) z) (Nat.lt_irrefl _)
 have cellK:∀ x c,X.env.cells.lookup x=some c->∀ v,s.heap.IsCell c v->h'.IsCell c v:=fun x c e v ⟨o,ho,hd⟩=>by
  have nch:c ∉ ch:=fun z=>(hch c z).2.2.1 x c e rfl
  by_cases hc:c ∈ X.fs
  ·obtain⟨sl,q⟩:=slot c o (I.sr x c e) hc nch ho (I.gP x c e)
   exact⟨_,q,hd⟩
  ·exact⟨o,keep c o (I.sr x c e) hc nch ho (I.gP x c e),hd⟩
 refine⟨I.ok,I.os,hg,⟨fun b o e n hb hx=>?_,fun b o e n hb hx=>?_,fun b o e n hx=>?_,fun b o e hx=>?_,fun b xs e=>bb b xs (I.base.bb b xs e),fun b o xs e=>ko b o xs (I.base.ko b o xs e),fun b ps e=>?_⟩,?_,fun x c e=>?_,?_,fun x c e=>?_,fun p hp=>?_,aT,I.len⟩
 ·exact keep b o (neL b o e) hb (neC b o e hx) (I.base.keep b o e n hb hx) (I.base.free b o e n hx)
 ·obtain⟨sl,e1⟩:=I.base.slot b o e n hb hx
  obtain⟨sl',e2⟩:=slot b _ (neL b o e) hb (neC b o e hx) e1 (I.base.free b o e n hx)
  exact⟨sl',e2⟩
 ·obtain⟨o',e1⟩:=I.base.there b o e hx
  exact free b o' (neC b o e hx) e1 (I.base.free b o e n hx)
 ·obtain⟨o',e1⟩:=I.base.there b o e hx
  exact there b o' (neC b o e hx) e1
 ·obtain⟨m1,e1⟩:=I.base.ll b ps e
  obtain⟨m2,e2⟩:=ll b _ e1
  exact⟨m1++m2,by rw [e2,Array.append_assoc]⟩
 ·obtain⟨m,hn,hl⟩:=I.loc
  refine⟨m,ns m hn,fun i x v e1 e2 e3=>?_⟩
  obtain⟨u,r,l⟩:=hl i x v e1 e2 e3
  refine⟨u,r,?_⟩
  rcases l with l | ⟨k,c,e,z⟩
  ·exact .inl l
  ·exact .inr ⟨k,c,e,cellK x c e _ z⟩
 ·obtain⟨v,z⟩:=I.cell x c e
  exact⟨v,cellK x c e v z⟩
 ·obtain⟨m,⟨o,_,_,ho,_⟩,_⟩:=I.loc
  exact free _ o (fun z=>(hch _ z).2.1 rfl) ho I.free
 ·obtain⟨v,o,ho,hd⟩:=I.cell x c e
  exact free c o (fun z=>(hch c z).2.2.1 x c e rfl) ho (I.gP x c e)
 ·obtain⟨e,n,ne,nf,d⟩:=I.pin p hp
  have nch:p.1 ∉ ch:=fun z=>(hch p.1 z).2.2.2 p hp rfl
  exact⟨keep p.1 p.2 ne nf nch e n,free p.1 p.2 nch e n,ne,nf,d⟩
theorem Inv.un {t':Nat} (I:Inv X pins σ H s) (u:Un X.fs [] H H' s.heap h') (aT:d8 X.prog X.w H' h'):Inv X pins σ H' { s with heap:=h',toks:=t' }:=by
  obtain⟨m,⟨o,es,ep,ho,r⟩,_⟩:=id I.loc
  obtain⟨sl,hL⟩:=u.any ho I.free (by simp)
  exact I.step (g':=s.gens) (d':=s.drawn) (ch:=[]) (fun _ z=>nomatch z) (fun b o _ hb _ e n=>u.keep b o e n hb (by simp)) (fun b o _ hb _ e n=>u.slot b o e n hb (by simp)) (fun b o _ e n=>u.free b o e n (by simp)) (fun b o _ e=>u.there b o e (by simp)) u.bb u.ko u.ll (fun m' hm=>by
    obtain⟨o',es',ep',ho',r'⟩:=hm
    rw [ho] at ho';cases ho'
    exact⟨_,es',ep',hL,r'⟩) aT I.bare
theorem Inv.call {g':Array GenState} {t':Nat} {d':Drawn} {ch:List Addr} (I:Inv X pins σ H s) (u:Un (lq X.stack) ch H H' s.heap h') (aT:d8 X.prog X.w H' h') (hg:AllBare g')
  (hch:∀ b ∈ ch,(b ∈ X.ex\/X.eC.heap.objs.size<=b)/\b ≠ X.env.locals/\(∀ x c,X.env.cells.lookup x=some c->c ≠ b)/\∀ p ∈ X.pn++pins,p.1 ≠ b) :
  Inv X pins σ H' { s with heap:=h',gens:=g',drawn:=d',toks:=t' }:=by
 obtain⟨m,⟨o,es,ep,ho,r⟩,_⟩:=id I.loc
 obtain⟨sl,hL⟩:=u.any ho I.free fun z=>(hch _ z).2.1 rfl
 exact I.step (ch:=ch) hch (fun b o hL hb hc e n=>u.keep b o e n (fun z=>(List.mem_cons.mp (I.oo b z)).elim hL hb) hc) (fun b o _ _ hc e n=>u.any e n hc) (fun b o hc e n=>u.free b o e n hc) (fun b o hc e=>u.there b o e hc) u.bb u.ko u.ll (fun m' hm=>by
  obtain⟨o',es',ep',ho',r'⟩:=hm
  rw [ho] at ho';cases ho'
  exact⟨_,es',ep',hL,r'⟩) aT hg
theorem Inv.turned {t':Nat} {it:Addr} (I:Inv X pins σ H s) (k:∀ b o,b ≠ it->s.heap.get? b=some o->h'.get? b=some o) (hn:H it=none) (hL:it ≠ X.env.locals)
  (h1:it ∈ X.ex\/X.eC.heap.objs.size<=it) (h2:∀ x c,X.env.cells.lookup x=some c->c ≠ it) (h3:∀ p ∈ X.pn++pins,p.1 ≠ it):Inv X pins σ H { s with heap:=h',toks:=t' }:=by
 have nit:∀ b u,H b=some u->b ≠ it:=fun b u e z=>by rw [z,hn] at e;cases e
 refine I.step (g':=s.gens) (d':=s.drawn) (ch:=[it]) (fun b hb=>?_) (fun b o _ _ hc e _=>k b o (fun z=>hc (by simp [z])) e) (fun b o _ _ hc e _=>⟨o.slots,k b o (fun z=>hc (by simp [z])) e⟩) (fun _ _ _ _ n=>n)
  (fun b o hc e=>⟨o,k b o (fun z=>hc (by simp [z])) e⟩) (fun _ _ e=>e) (fun _ _ _ e=>e) (fun b ps e=>⟨#[],by rw [e];simp⟩) (fun m hm=>?_) (fun b u e=>?_) I.bare
 ·have e:b=it:=by simpa using hb
  subst e
  exact⟨h1,hL,h2,h3⟩
 ·obtain⟨o,es,ep,ho,r⟩:=hm
  exact⟨o,es,ep,k _ o (Ne.symm hL) ho,r⟩
 ·refine (I.aT b u e).pK (fun c v hc q=>k c v ?_ q) (fun _ q=>q) fun _ _ q=>q
  rcases hc with z | z
  ·rw [z];exact nit b u e
  ·exact nit c _ z
theorem Inv.tok (I:Inv X pins σ H s) (t:Nat):Inv X pins σ H { s with toks:=t }:=I.un (h':=s.heap) (t':=t) Un.refl I.aT
theorem Inv.kept {t':Nat} (I:Inv X pins σ H s) (k:∀ b u,s.heap.get? b=some u->h'.get? b=some u):Inv X pins σ H { s with heap:=h',toks:=t' }:=I.un (Un.kept k) (I.aT.kept k)
theorem Inv.laid {a:Addr} {o:HO} {t':Nat} (I:Inv X pins σ H s) (k:∀ b u,s.heap.get? b=some u->h'.get? b=some u) (hp:s.heap.objs.size<=a) (new:cf X.prog X.w (upd H a o) h' a o) :
  Inv X pins σ (upd H a o) { s with heap:=h',toks:=t' }:=I.un (Un.laid k hp (I.aT.fresh hp)) (I.aT.laid k hp new)
theorem Inv.write {x e:Addr} {o:HO} {t':Nat} (I:Inv X pins σ H s) (mu:w6 (H x)) (he:e=x\/H e=some (.own x)) (k:∀ b u,b ≠ e->s.heap.get? b=some u->h'.get? b=some u) (heo:∃ u,h'.get? e=some u)
  (new:cf X.prog X.w (upd H x o) h' x o):Inv X pins σ (upd H x o) { s with heap:=h',toks:=t' }:=I.un (Un.write mu he k heo) (I.aT.write mu he k heo new)
theorem Inv.uL {pins':List (Addr × Obj)} (I:Inv X pins σ H s) (h:∀ p ∈ pins',s.heap.get? p.1=some p.2/\H p.1=none/\p.1 ≠ X.env.locals/\p.1 ∉ X.fs/\∀ v,p.2.data ≠ .cell v):Inv X pins' σ H s :=
 ⟨I.ok,I.os,I.bare,I.base,I.loc,I.cell,I.free,I.gP,fun p hp=>(List.mem_append.mp hp).elim (fun z=>I.pin p (List.mem_append_left _ z)) (h p),I.aT,I.len⟩
theorem sx {N:List Str} (hN:N.Nodup) {i j:Nat} {x:Str} (a:N[i]? = some x) (b:N[j]? = some x):i=j:=by
 obtain⟨h1,e1⟩:=List.getElem?_eq_some_iff.mp a
 obtain⟨h2,e2⟩:=List.getElem?_eq_some_iff.mp b
 exact (List.getElem_inj hN).mp (e1.trans e2.symm)
theorem qD {M:Model} {A:Around} {E:Value->Shared->Prop} {i:Nat} {x:Str} {v:V} {u:Value} {Q:Unit->Shared->Prop} (I:Inv X pins σ H s) (hN:X.N.Nodup) (hi:X.N[i]? = some x) (hx:Loc X.env.scope x) (r:RelV v u)
  (h:∀ s',Inv X pins (σ.set i (some v)) H s'->(∃ a,Heap.SameBut a s.heap s'.heap/\(a=X.env.locals\/X.env.cells.lookup x=some a))->Q () s') (hf:X.fn x=true\/X.env.scope.names.lookup x=some .local:=by first | exact .inl rfl | exact .inr rfl | assumption):wpAny M A (storeName X.env x u) Q E s:=by
 obtain⟨m,hn,hl⟩:=id I.loc
 have hcls:(X.env.scope.kind == .class || (X.env.scope.kind == .module && X.env.locals != X.env.globals))=false:=by rw [I.ok.kind];rfl
 have hiσ : i < σ.length:=by rw [I.len];exact (List.getElem?_eq_some_iff.mp hi).1
 have sr:=I.sr
 have tracked:∀ {a:Addr} {h':Heap},(∃ o,s.heap.get? a=some o/\H a=none)->Heap.SameBut a s.heap h'->d8 X.prog X.w H h':=fun {a h'} ha hs b ob e=>by
  obtain⟨_,_,hfree⟩:=ha
  refine (I.aT b ob e).pK (fun c w' hc q=>(hs.2 c ?_).trans q) (fun _ q=>q) fun _ _ q=>q
  rintro rfl
  rcases hc with rfl | hc
  ·rw [hfree] at e;cases e
  ·rw [hfree] at hc;cases hc
 rcases hx with hk | hk
 ·refine wpAny_storeName_local hk hn (fun h' hn' hs=>?_) hcls
  obtain⟨oL,_,_,hoL,_⟩:=id hn
  refine h _ ⟨I.ok,I.os,I.bare,⟨fun b o e n hb hx=>?_,fun b o e n hb hx=>?_,I.base.free,fun b o e hx=>?_,I.base.bb,I.base.ko,I.base.ll⟩,⟨_,hn',fun j y v' e1 e2 e3=>?_⟩,fun y c e=>?_,I.free,I.gP,fun p hp=>?_,tracked ⟨oL,hoL,I.free⟩ hs,by simpa using I.len⟩ ⟨_,hs,.inl rfl⟩
  ·exact (hs.2 b (Nat.ne_of_lt (Nat.lt_of_lt_of_le (Heap.lt_size e) I.ok.above))).trans (I.base.keep b o e n hb hx)
  ·obtain⟨sl,e1⟩:=I.base.slot b o e n hb hx
   exact⟨sl,(hs.2 b (Nat.ne_of_lt (Nat.lt_of_lt_of_le (Heap.lt_size e) I.ok.above))).trans e1⟩
  ·obtain⟨o',e1⟩:=I.base.there b o e hx
   exact⟨o',(hs.2 b (Nat.ne_of_lt (Nat.lt_of_lt_of_le (Heap.lt_size e) I.ok.above))).trans e1⟩
  ·by_cases hj:j=i
   ·subst hj
    rw [hi] at e1;cases e1
    rw [List.getElem?_set_self hiσ] at e2
    cases e2
    exact⟨u,r,.inl ⟨hk,by simp⟩⟩
   ·rw [List.getElem?_set_ne (Ne.symm hj)] at e2
    obtain⟨u',r',q⟩:=hl j y v' e1 e2 e3
    refine⟨u',r',?_⟩
    rcases q with ⟨k,e⟩ | ⟨k,c,e,z⟩
    ·refine .inl ⟨k,?_⟩
     have:y ≠ x:=fun e=>hj (sx hN e1 (e ▸ hi))
     simp [this,e]
    ·exact .inr ⟨k,c,e,z.sameBut hs (sr y c e)⟩
  ·obtain⟨w',z⟩:=I.cell y c e
   exact⟨w',z.sameBut hs (sr y c e)⟩
  ·obtain⟨e,n,ne,nf,d⟩:=I.pin p hp
   exact⟨(hs.2 p.1 ne).trans e,n,ne,nf,d⟩
 ·have hfn:X.fn x=true:=by
   rcases hf with z | z
   ·exact z
   ·rw [z] at hk;cases hk
  obtain⟨c,hc⟩:=I.ok.has x (.inl hk)
  obtain⟨w',z⟩:=I.cell x c hc
  refine wpAny_storeName_cell I.ok.kind hk hc z (fun h' hc' hs=>?_)
  obtain⟨oc,hoc,hocd⟩:=id z
  refine h { s with heap:=h' } ⟨I.ok,I.os,I.bare,⟨fun b o e n hb hx=>?_,fun b o e n hb hx=>?_,I.base.free,fun b o e hx=>?_,I.base.bb,I.base.ko,I.base.ll⟩,⟨m,hn.sameBut hs (Ne.symm (sr x c hc)),fun j y v' e1 e2 e3=>?_⟩,fun y c' e=>?_,I.free,I.gP,fun p hp=>?_,tracked ⟨oc,hoc,I.gP x c hc⟩ hs,by simpa using I.len⟩ ⟨c,hs,.inr hc⟩
  ·exact (hs.2 b (Nat.ne_of_lt (Nat.lt_of_lt_of_le (Heap.lt_size e) (I.ok.xa x c hfn hc)))).trans (I.base.keep b o e n hb hx)
  ·obtain⟨sl,e1⟩:=I.base.slot b o e n hb hx
   exact⟨sl,(hs.2 b (Nat.ne_of_lt (Nat.lt_of_lt_of_le (Heap.lt_size e) (I.ok.xa x c hfn hc)))).trans e1⟩
  ·obtain⟨o',e1⟩:=I.base.there b o e hx
   exact⟨o',(hs.2 b (Nat.ne_of_lt (Nat.lt_of_lt_of_le (Heap.lt_size e) (I.ok.xa x c hfn hc)))).trans e1⟩
  ·by_cases hj:j=i
   ·subst hj
    rw [hi] at e1;cases e1
    rw [List.getElem?_set_self hiσ] at e2
    cases e2
    exact⟨u,r,.inr ⟨.inl hk,c,hc,hc'⟩⟩
   ·rw [List.getElem?_set_ne (Ne.symm hj)] at e2
    obtain⟨u',r',q⟩:=hl j y v' e1 e2 e3
    refine⟨u',r',?_⟩
    rcases q with q | ⟨k,c',e,z'⟩
    ·exact .inl q
    ·refine .inr ⟨k,c',e,z'.sameBut hs ?_⟩
     rintro rfl
     exact hj (sx hN e1 (I.ok.inj _ _ _ e hc ▸ hi))
  ·by_cases hcc:c' = c
   ·subst hcc;exact⟨_,hc'⟩
   ·obtain⟨w2,z2⟩:=I.cell y c' e
    exact⟨w2,z2.sameBut hs hcc⟩
  ·obtain⟨e,n,ne,nf,d⟩:=I.pin p hp
   refine⟨(hs.2 p.1 ?_).trans e,n,ne,nf,d⟩
   intro q
   rw [q,hoc] at e
   have q':oc=p.2:=Option.some.inj e
   exact d w' (by rw [<-q'];exact hocd)
theorem jg {M:Model} {A:Around} {E:Value->Shared->Prop} {i:Nat} {x:Str} {v:V} {u:Value} {Q:Unit->Shared->Prop} (I:Inv X pins σ H s) (hN:X.N.Nodup) (hi:X.N[i]? = some x) (hx:Loc X.env.scope x) (r:RelV v u)
  (h:∀ s',Inv X pins (σ.set i (some v)) H s'->Q () s') (hf:X.fn x=true\/X.env.scope.names.lookup x=some .local:=by first | exact .inl rfl | exact .inr rfl | assumption):wpAny M A (storeName X.env x u) Q E s :=
 qD I hN hi hx r (fun s' I' _=>h s' I') hf
theorem Inv.CS {s':Shared} {ch:List Addr} (I:Inv X pins σ H s) (ho:s'.os=s.os) (u:Un (lq X.stack) ch H H' s.heap s'.heap) (aT:d8 X.prog X.w H' s'.heap) (hg:AllBare s'.gens)
  (hch:∀ b ∈ ch,(b ∈ X.ex\/X.eC.heap.objs.size<=b)/\b ≠ X.env.locals/\(∀ x c,X.env.cells.lookup x=some c->c ≠ b)/\∀ p ∈ X.pn++pins,p.1 ≠ b):Inv X pins σ H' s':=by
 obtain⟨h',g',d',t',o'⟩:=s'
 have e:o' = s.os:=ho
 subst e
 exact I.call (g':=g') (t':=t') (d':=d') u aT hg hch
end
abbrev XK:=Value->Option Addr->Hp->Prop
abbrev St:=List (Option V)
abbrev VK:=V->Hp->Prop
abbrev TE:=St->Hp->VK->Prop
abbrev TT:=St->Hp->(Bool->Hp->Prop)->Prop
abbrev TA:=St->Hp->(List V->Hp->Prop)->Prop
structure Ends where
 nx:St->Hp->Prop
 rt:VK
 bk:St->Hp->Prop:=fun _ _=>False
 ct:St->Hp->Prop:=fun _ _=>False
abbrev TS:=Ends->St->Hp->Prop
def EP (X:Cx) (pins:List (Addr × Obj)) (σ : St) (Q:VK) (u:Value) (s':Shared):Prop:=∃ v H',Inv X pins σ H' s'/\RelV v u/\Q v H'
def TP (X:Cx) (pins:List (Addr × Obj)) (σ : St) (Q:Bool->Hp->Prop) (b:Bool) (s':Shared):Prop:=∃ H',Inv X pins σ H' s'/\Q b H'
def AP (X:Cx) (pins:List (Addr × Obj)) (σ : St) (Q:List V->Hp->Prop) (us:List Value) (s':Shared):Prop:=∃ vs H',Inv X pins σ H' s'/\Vals vs us/\Q vs H'
def SP (X:Cx) (pins:List (Addr × Obj)) (D:Ends) (f:Flow) (s':Shared):Prop :=
 match f with
 | .next=>∃ σ' H',Inv X pins σ' H' s'/\D.nx σ' H'
 | .brk=>∃ σ' H',Inv X pins σ' H' s'/\D.bk σ' H'
 | .cont=>∃ σ' H',Inv X pins σ' H' s'/\D.ct σ' H'
 | .ret u=>∃ v σ' H',Inv X pins σ' H' s'/\RelV v u/\D.rt v H'
def PE (X:Cx) (e:Expr) (t:TE):Prop :=
 ∀ (pins:List (Addr × Obj)) (s:Shared) (σ : St) (H:Hp) (Q:VK),Inv X pins σ H s->t σ H Q->wpAny (model X.prog X.w) X.A (eval e X.env) (EP X pins σ Q) X.xe s
def PT (X:Cx) (e:Expr) (t:TT):Prop :=
 ∀ (pins:List (Addr × Obj)) (s:Shared) (σ : St) (H:Hp) (Q:Bool->Hp->Prop),Inv X pins σ H s->t σ H Q->wpAny (model X.prog X.w) X.A (isTrue e X.env (eval e X.env)) (TP X pins σ Q) X.xe s
def PW (X:Cx) (e:Expr) (t:TT):Prop :=
 ∀ (whole:Sem Value) (pins:List (Addr × Obj)) (s:Shared) (σ : St) (H:Hp) (Q:Bool->Hp->Prop),Inv X pins σ H s->t σ H Q->wpAny (model X.prog X.w) X.A (isTrue e X.env whole) (TP X pins σ Q) X.xe s
theorem PW.pt {X:Cx} {e:Expr} {t:TT} (h:PW X e t):PT X e t:=h _
def PA (X:Cx) (es:List Expr) (t:TA):Prop :=
 ∀ (pos:Pos) (pins:List (Addr × Obj)) (s:Shared) (σ : St) (H:Hp) (Q:List V->Hp->Prop),Inv X pins σ H s->t σ H Q->wpAny (model X.prog X.w) X.A (spliced (backTo pos (starEach es X.env))) (AP X pins σ Q) X.xe s
def PS (X:Cx) (st:Stmt) (t:TS):Prop :=
 ∀ (pins:List (Addr × Obj)) (s:Shared) (σ : St) (H:Hp) (D:Ends),Inv X pins σ H s->t D σ H->wpAny (model X.prog X.w) X.A (exec st X.env) (SP X pins D) X.xe s
def jG (X:Cx) (st:List Stmt) (t:TS):Prop :=
 ∀ (pins:List (Addr × Obj)) (s:Shared) (σ : St) (H:Hp) (D:Ends),Inv X pins σ H s->t D σ H->wpAny (model X.prog X.w) X.A (execs st X.env) (SP X pins D) X.xe s
theorem ba {α : Type} {t:Sem α} {Q Q':α->Shared->Prop} {M:Model} {A:Around} {E:Value->Shared->Prop} {s:Shared} (h:wpAny M A t Q E s) (hQ:∀ a s,Q a s->Q' a s):wpAny M A t Q' E s:=wpAny_mono h hQ fun _ _ x=>x
section
variable {X:Cx}
def BE (i:Nat):TE:=fun σ H Q=>∃ v,σ[i]? = some (some v)/\Q v H
def tC (v:V):TE:=fun _ H Q=>Q v H
theorem BF {i:Nat} {x:Str} {pos:Pos} (hN:X.N[i]? = some x) (hv:z9 X.env.scope x) (hd:(x == ("__debug__" : Str))=false:=by decide) (hcd:(x == ("__classdict__" : Str))=false:=by decide):PE X (.Name x pos) (BE i):=by
 intro pins s σ H Q I h
 obtain⟨v,e,h⟩:=h
 obtain⟨m,hn,hl⟩:=I.loc
 obtain⟨u,r,l⟩:=hl i x v hN e hv
 have fin:EP X pins σ Q u s:=⟨v,H,I,r,h⟩
 rcases l with ⟨hk,hm⟩ | ⟨hk,c,hc,hcell⟩
 ·exact wpAny_Name (wpAny_loadName_local I.ok.kind hk hn hm fin) hd
 ·rcases hk with hk | hk
  ·exact wpAny_Name (wpAny_loadName_cell I.ok.kind hk hc hcell fin) hd
  ·exact wpAny_Name (wpAny_loadName_free I.ok.kind hk hc hcell fin hcd) hd
theorem ao {i j pos}:PE X (.Constant (.int i) j pos) (tC (.int i)):=fun _ _ _ H _ I h=>wpAny_Constant_int ⟨.int i,H,I.tok _,⟨_,rfl⟩,h⟩
theorem hV {b j pos}:PE X (.Constant (.bool b) j pos) (tC (.bl b)):=fun _ _ _ H _ I h=>Constant_bool ⟨.bl b,H,I,rfl,h⟩
theorem jh {j pos}:PE X (.Constant .none j pos) (tC .bI):=fun _ _ _ H _ I h=>Constant_none ⟨.bI,H,I,rfl,h⟩
theorem aW {x j pos}:PE X (.Constant (.str x) j pos) (tC (.str x)):=fun _ _ _ H _ I h=>Calls.Constant_str ⟨.str x,H,I.tok _,⟨_,rfl⟩,h⟩
def Gl (X:Cx) (x:Str):Prop:=X.env.kindOf x=some .globalImplicit
theorem pL {E:Value->Shared->Prop} {pins:List (Addr × Obj)} {s:Shared} {σ : St} {H:Hp} {x:Str} {u:Value} {pos:Pos} {Q:Value->Shared->Prop} (I:Inv X pins σ H s) (hg:Gl X x) (hm:X.mg x=some u) (h:Q u s)
  (hd:(x == ("__debug__" : Str))=false:=by decide):wpAny (model X.prog X.w) X.A (eval (.Name x pos) X.env) Q E s :=
 Calls.Name_function_global I.ok.kind hg (Calls.loadGlobal_global (by rw [I.ok.glob];exact I.mod.glob.keeps I.bk) hm h) hd
theorem lr {E:Value->Shared->Prop} {pins:List (Addr × Obj)} {s:Shared} {σ : St} {H:Hp} {x:Str} {u:Value} {pos:Pos} {Q:Value->Shared->Prop} (I:Inv X pins σ H s) (hg:Gl X x) (hm:X.mg x=none) (hv:bootBuiltins x=some u) (h:Q u s)
  (hn:x ≠ "__name__" := by decide) (hd:(x == ("__debug__" : Str))=false:=by decide):wpAny (model X.prog X.w) X.A (eval (.Name x pos) X.env) Q E s:=by
 obtain⟨mb,h1,h2⟩:=I.mod.blt
 exact Calls.Name_function_global I.ok.kind hg (Calls.loadGlobal_builtin (by rw [I.ok.glob];exact I.mod.glob.keeps I.bk) hm (by rw [I.ok.blt];exact h1.keeps I.bk) ((h2 x hn).trans hv) h) hd
theorem gU {x:Str} {v:V} {u:Value} {pos:Pos} (hg:Gl X x) (hm:X.mg x=some u) (r:RelV v u) (hd:(x == ("__debug__" : Str))=false:=by decide):PE X (.Name x pos) (tC v) :=
 fun _ _ _ H _ I h=>pL I hg hm ⟨v,H,I,r,h⟩ hd
variable {a b:Expr} {ta tb:TE} {pos:Pos}
def PC (X:Cx) (op:CmpOp) (a b:Expr) (t:TE):Prop :=
 ∀ (pins:List (Addr × Obj)) (s:Shared) (σ : St) (H:Hp) (Q:VK),Inv X pins σ H s->t σ H Q ->
  wpAny (model X.prog X.w) X.A (eval a X.env) (fun v s₁=>wpAny (model X.prog X.w) X.A (eval b X.env) (fun u s₂=>wpAny (model X.prog X.w) X.A (compareOp op v u) (EP X pins σ Q) X.xe s₂) X.xe s₁) X.xe s
theorem sy (b:Expr) {op:CmpOp} (h:op ≠ .In) (h2:op ≠ .NotIn):behindInMarks op b=false:=by
 have e1:(op == CmpOp.In)=false:=by cases op <;> first | rfl | exact absurd rfl h
 have e2:(op == CmpOp.NotIn)=false:=by cases op <;> first | rfl | exact absurd rfl h2
 cases b <;> simp [behindInMarks,e1,e2]
def Du (ta:TE):TE:=fun σ H Q=>ta σ H fun x H1=>Q (.bl (decide (x=.bI))) H1
def CT (ta:TE):TE:=fun σ H Q=>ta σ H fun x H1=>Q (.bl (!decide (x=.bI))) H1
theorem RelV.sA {x:V} {v:Value} (r:RelV x v):(v == Value.none)=decide (x=.bI):=by
 cases x with
 | bI=>cases r;rfl
 | bl _=>cases r;rfl
 | int _=>obtain⟨t,rfl⟩:=r;rfl
 | str _=>obtain⟨t,rfl⟩:=r;rfl
 | j1 _=>obtain⟨t,rfl⟩:=r;rfl
 | w5 _=>obtain⟨t,rfl⟩:=r;rfl
 | ref _=>cases r;rfl
 | ty _=>cases r;rfl
theorem hX {j pos'} (ha:PE X a ta):PC X .Is a (.Constant .none j pos') (Du ta):=by
 intro pins s σ H Q I h
 refine ba (ha pins s σ H _ I h) fun v s1 ⟨x,H1,I1,r1,q1⟩=>?_
 exact Constant_none (is_none_gen ⟨.bl _,H1,I1,by rw [r1.sA];rfl,q1⟩)
theorem pM {j pos'} (ha:PE X a ta):PC X .IsNot a (.Constant .none j pos') (CT ta):=by
 intro pins s σ H Q I h
 refine ba (ha pins s σ H _ I h) fun v s1 ⟨x,H1,I1,r1,q1⟩=>?_
 exact Constant_none (isnot_none_gen ⟨.bl _,H1,I1,by rw [r1.sA];rfl,q1⟩)
def tB (t:TE):TT:=fun σ H Q=>t σ H fun x H1=>∃ c,x=.bl c/\Q c H1
theorem xb {op:CmpOp} {t:TE} (h:PC X op a b t) (h1:behindInMarks op b=false:=by first | exact sy _ (by decide) (by decide) | rfl):PE X (.Compare a [op] [b] pos) t:=fun pins s σ H Q I hw=>wpAny_Compare1 (h pins s σ H Q I hw) h1
theorem gJ {op:CmpOp} {t:TE} (h:PC X op a b t) (h1:behindInMarks op b=false:=by first | exact sy _ (by decide) (by decide) | rfl):PT X (.Compare a [op] [b] pos) (tB t):=by
 intro pins s σ H Q I hw
 refine wpAny_isTrue_Compare1 (ba (h pins s σ H _ I hw) fun v s1 h1=>ba h1 fun u s2 h2=>ba h2 fun c s3 ⟨x,H1,I1,r1,q1⟩=>?_) h1
 obtain⟨d,rfl,q⟩:=q1
 cases r1
 exact wpAny_truthy_bool ⟨H1,I1,q⟩
theorem lu {e:Expr} {t:TE} (h:PE X e t) (he:∀ whole,isTrue e X.env whole=(do let v <-whole;standAt e.pos;holding [v] (truthy v)):=by intro _;rfl):PT X e (tB t):=by
 intro pins s σ H Q I hw
 refine isTrue_plain (ba (h pins s σ H _ I hw) fun v s1 ⟨x,H1,I1,r1,q1⟩=>?_) (he _)
 obtain⟨d,rfl,q⟩:=q1
 cases r1
 exact wpAny_truthy_bool ⟨H1,I1,q⟩
variable {tA tB':TT} {rest:List Expr}
def Dv (t u:TT):TT:=fun σ H Q=>t σ H fun c H1=>if c=true then u σ H1 Q else Q false H1
def D3 (t u:TT):TT:=fun σ H Q=>t σ H fun c H1=>if c=true then Q true H1 else u σ H1 Q
def Dw (t:TT):TT:=fun σ H Q=>t σ H fun c H1=>Q (!c) H1
theorem mB (ha:PT X a tA):PW X (.BoolOp .And [a] pos) tA:=by
 intro wh pins s σ H Q I h
 refine isTrue_and (ba (ha pins s σ H Q I h) fun c s1 e=>?_)
 cases c with
 | true=>exact isTrue_and_nil e
 | false=>exact e
theorem sC (ha:PT X a tA):PW X (.BoolOp .Or [a] pos) tA:=by
 intro wh pins s σ H Q I h
 refine isTrue_or (ba (ha pins s σ H Q I h) fun c s1 e=>?_)
 cases c with
 | false=>exact isTrue_or_nil e
 | true=>exact e
theorem oq (ha:PT X a tA) (hb:PW X (.BoolOp .And (b :: rest) pos) tB'):PW X (.BoolOp .And (a :: b :: rest) pos) (Dv tA tB'):=by
 intro wh pins s σ H Q I h
 refine isTrue_and (ba (ha pins s σ H _ I h) fun c s1 ⟨H1,I1,q1⟩=>?_)
 cases c with
 | true=>exact hb wh pins s1 σ H1 Q I1 q1
 | false=>exact⟨H1,I1,q1⟩
theorem vD (ha:PT X a tA) (hb:PW X (.BoolOp .Or (b :: rest) pos) tB'):PW X (.BoolOp .Or (a :: b :: rest) pos) (D3 tA tB'):=by
 intro wh pins s σ H Q I h
 refine isTrue_or (ba (ha pins s σ H _ I h) fun c s1 ⟨H1,I1,q1⟩=>?_)
 cases c with
 | true=>exact⟨H1,I1,q1⟩
 | false=>exact hb wh pins s1 σ H1 Q I1 q1
theorem BG (ha:PT X a tA):PT X (.UnaryOp .Not a pos) (Dw tA):=by
 intro pins s σ H Q I h
 exact isTrue_not (ha pins s σ H (fun c H1=>Q (!c) H1) I h)
def CU (ta tb:TE):TE:=fun σ H Q=>ta σ H fun x H1=>∃ c,x=.bl c/\if c=true then tb σ H1 Q else Q (.bl false) H1
def Dx (ta tb:TE):TE:=fun σ H Q=>ta σ H fun x H1=>∃ c,x=.bl c/\if c=true then Q (.bl true) H1 else tb σ H1 Q
theorem lB {op} {t:TE} (h:PE X a t):PE X (.BoolOp op [a] pos) t:=fun pins s σ H Q I hw=>BoolOp_one (h pins s σ H Q I hw)
theorem xc (ha:PE X a ta) (hb:PE X (.BoolOp .And (b :: rest) pos) tb):PE X (.BoolOp .And (a :: b :: rest) pos) (CU ta tb):=by
 intro pins s σ H Q I h
 refine BoolOp_and (ba (ha pins s σ H _ I h) fun v s1 ⟨x,H1,I1,r1,q1⟩=>?_)
 obtain⟨c,rfl,q1⟩:=q1
 cases r1
 refine wpAny_truthy_bool ?_
 cases c with
 | true=>exact hb pins s1 σ H1 Q I1 q1
 | false=>exact⟨.bl false,H1,I1,rfl,q1⟩
theorem vE (ha:PE X a ta) (hb:PE X (.BoolOp .Or (b :: rest) pos) tb):PE X (.BoolOp .Or (a :: b :: rest) pos) (Dx ta tb):=by
 intro pins s σ H Q I h
 refine BoolOp_or (ba (ha pins s σ H _ I h) fun v s1 ⟨x,H1,I1,r1,q1⟩=>?_)
 obtain⟨c,rfl,q1⟩:=q1
 cases r1
 refine wpAny_truthy_bool ?_
 cases c with
 | false=>exact hb pins s1 σ H1 Q I1 q1
 | true=>exact⟨.bl true,H1,I1,rfl,q1⟩
def D4 (t:TT) (ta tb:TE):TE:=fun σ H Q=>t σ H fun c H1=>if c=true then ta σ H1 Q else tb σ H1 Q
theorem dW {c:Expr} (hc:PT X c tA) (ha:PE X a ta) (hb:PE X b tb):PE X (.IfExp c a b pos) (D4 tA ta tb):=by
 intro pins s σ H Q I h
 refine wpAny_IfExp (ba (hc pins s σ H _ I h) fun d s1 ⟨H1,I1,q1⟩=>?_)
 cases d with
 | true=>exact ha pins s1 σ H1 Q I1 q1
 | false=>exact hb pins s1 σ H1 Q I1 q1
end
def aU (K:PySem.W.Frag) (H:Hp) (a:Addr) (xs:List V):Prop :=
 Rd H a (.lst xs) \/
  ∃ (o:Obj) (its:Array Value) (n:Nat),K.lookup a=some o/\o.cls=.type "list" /\ o.dict=none/\o.data=.seq its n/\its.size<=sizeLine/\Vals xs its.toList
def ay (K:PySem.W.Frag) (H:Hp) (a:Addr) (xs:List V):Prop :=
 Rd H a (.tup xs) \/
  ∃ (o:Obj) (its:Array Value) (n:Nat),K.lookup a=some o/\o.cls=.type "tuple" /\ o.data=.seq its n/\its.size<=sizeLine/\Vals xs its.toList
def Dy:Value->Option V
 | .none=>some .bI
 | .bool b=>some (.bl b)
 | .int i _=>some (.int i)
 | .str x _=>some (.str x)
 | .bytes b _=>some (.j1 b)
 | .float b _=>some (.w5 b)
 | .ref a=>some (.ref a)
 | .type n=>some (.ty n)
 | _=>none
theorem RelV.abs {x:V} {u:Value} (r:RelV x u):Dy u=some x:=by
 cases x with
 | bI=>cases r;rfl
 | bl _=>cases r;rfl
 | int _=>obtain⟨t,rfl⟩:=r;rfl
 | str _=>obtain⟨t,rfl⟩:=r;rfl
 | j1 _=>obtain⟨t,rfl⟩:=r;rfl
 | w5 _=>obtain⟨t,rfl⟩:=r;rfl
 | ref _=>cases r;rfl
 | ty _=>cases r;rfl
theorem RelV.inj {x y:V} {u:Value} (r:RelV x u) (q:RelV y u):x=y:=Option.some.inj (r.abs.symm.trans q.abs)
theorem Vals.inj:∀ {xs ys:List V} {us:List Value},Vals xs us->Vals ys us->xs=ys
 | _,_,_,.nil,.nil=>rfl
 | _,_,_,.cons r t,.cons r' t'=>by rw [r.inj r',Vals.inj t t']
section
variable {X:Cx} {pins:List (Addr × Obj)} {σ : St} {H:Hp} {s:Shared} {a:Addr} {xs ys:List V}
theorem aU.of {K:PySem.W.Frag} (h:H a=some (.lst xs)):aU K H a xs:=.inl (.inl h)
theorem ay.of {K:PySem.W.Frag} (h:H a=some (.tup xs)):ay K H a xs:=.inl (.inl h)
theorem Inv.list (I:Inv X pins σ H s) (h:aU X.K H a xs):∃ its:List Value,Vals xs its/\PlainL s.heap a its.toArray/\xs.length<=sizeLine:=by
 rcases h with h | ⟨o,its,n,hk,hc,hd,hs,hz,r⟩
 ·obtain⟨z,its,n,r,e⟩:=h.ok I.aT
  exact⟨its,r,⟨_,n,e,rfl,rfl,rfl⟩,z⟩
 ·refine⟨its.toList,r,⟨o,n,I.iJ a o hk,hc,hd,by simpa using hs⟩,?_⟩
  have e:=r.length
  simp only [Array.length_toList] at e
  omega
theorem Inv.tuple (I:Inv X pins σ H s) (h:ay X.K H a xs):∃ its:List Value,Vals xs its/\IsTup s.heap a its.toArray/\xs.length<=sizeLine:=by
 rcases h with h | ⟨o,its,n,hk,hc,hs,hz,r⟩
 ·obtain⟨z,its,r,o,e,c,n,d,_⟩:=h.ok I.aT
  exact⟨its,r,⟨o,e,c,n,d⟩,z⟩
 ·refine⟨its.toList,r,⟨o,I.iJ a o hk,hc,n,by simpa using hs⟩,?_⟩
  have e:=r.length
  simp only [Array.length_toList] at e
  omega
theorem Inv.yI (I:Inv X pins σ H s) (h:aU X.K H a xs) (h':aU X.K H a ys):xs=ys:=by
 obtain⟨its,r,⟨o,n,e,_,_,d⟩,_⟩:=I.list h
 obtain⟨its',r',⟨o',n',e',_,_,d'⟩,_⟩:=I.list h'
 rw [e] at e';cases e'
 rw [d] at d'
 injection d' with d1 _
 have:its=its':=by simpa using congrArg Array.toList d1
 subst this
 exact r.inj r'
theorem Inv.lC (I:Inv X pins σ H s) (h:ay X.K H a xs) (h':ay X.K H a ys):xs=ys:=by
 obtain⟨its,r,⟨o,e,_,n,d⟩,_⟩:=I.tuple h
 obtain⟨its',r',⟨o',e',_,n',d'⟩,_⟩:=I.tuple h'
 rw [e] at e';cases e'
 rw [d] at d'
 injection d' with d1 _
 have:its=its':=by simpa using congrArg Array.toList d1
 subst this
 exact r.inj r'
end
abbrev Cx.jT (X:Cx) (E:Value->Shared->Prop):Cx:={ X with xe:=E }
abbrev Cx.uM (X:Cx):Cx:=X.jT fun _ _=>False
theorem Cx.Ok.jT {X:Cx} (ok:X.Ok) (E:Value->Shared->Prop):(X.jT E).Ok :=
 ⟨ok.mod,ok.kind,ok.glob,ok.blt,ok.above,ok.inj,ok.has,ok.xa,ok.hd,ok.frames,ok.Aa,ok.Di,ok.bs,ok.om,ok.sj,ok.vC,ok.iR,ok.so⟩
theorem Cx.Ok.iK {X:Cx} {E:Value->Shared->Prop} (ok:(X.jT E).Ok):X.Ok :=
 ⟨ok.mod,ok.kind,ok.glob,ok.blt,ok.above,ok.inj,ok.has,ok.xa,ok.hd,ok.frames,ok.Aa,ok.Di,ok.bs,ok.om,ok.sj,ok.vC,ok.iR,ok.so⟩
section
variable {X:Cx} {pins:List (Addr × Obj)} {σ : St} {H:Hp} {s:Shared} {E:Value->Shared->Prop}
theorem Inv.jT (I:Inv X pins σ H s) (E:Value->Shared->Prop):Inv (X.jT E) pins σ H s:=⟨I.ok.jT E,I.os,I.bare,I.base,I.loc,I.cell,I.free,I.gP,I.pin,I.aT,I.len⟩
theorem Inv.iK (I:Inv (X.jT E) pins σ H s):Inv X pins σ H s:=⟨I.ok.iK,I.os,I.bare,I.base,I.loc,I.cell,I.free,I.gP,I.pin,I.aT,I.len⟩
theorem SP.iK {D:Ends} {f:Flow} {s':Shared} (h:SP (X.jT E) pins D f s'):SP X pins D f s':=by
 cases f with
 | next=>obtain⟨σ',H',I,q⟩:=h;exact⟨σ',H',I.iK,q⟩
 | brk=>obtain⟨σ',H',I,q⟩:=h;exact⟨σ',H',I.iK,q⟩
 | cont=>obtain⟨σ',H',I,q⟩:=h;exact⟨σ',H',I.iK,q⟩
 | ret u=>obtain⟨v,σ',H',I,r,q⟩:=h;exact⟨v,σ',H',I.iK,r,q⟩
theorem jG.uM {st:List Stmt} {t:TS} (h:jG X.uM st t):jG X st t:=fun pins s σ H D I hw =>
 wpAny_mono (h pins s σ H D (I.jT _) hw) (fun _ _ q=>q.iK) fun _ _ z=>False.elim z
end
section
variable {X:Cx} {st:Stmt} {rest:List Stmt} {t u:TS} {e:Expr} {te:TE} {pos:Pos}
def CV:TS:=fun D σ H=>D.nx σ H
def Dz (t u:TS):TS:=fun D σ H=>t { D with nx:=u D } σ H
theorem aX:jG X [] CV:=fun _ _ σ H _ I h=>wpAny_execs_nil ⟨σ,H,I,h⟩
theorem ah (h1:PS X st t) (h2:jG X rest u):jG X (st :: rest) (Dz t u):=by
 intro pins s σ H D I h
 refine wpAny_execs_cons (ba (h1 pins s σ H { D with nx:=u D } I h) fun f s1 q=>?_)
 cases f with
 | next =>
  obtain⟨σ',H',I',q⟩:=q
  exact h2 pins s1 σ' H' D I' q
 | ret v=>exact q
 | brk=>exact q
 | cont=>exact q
theorem av (h1:PS X st t):jG X [st] t:=by
 intro pins s σ H D I h
 refine wpAny_execs_cons (ba (h1 pins s σ H D I h) fun f s1 q=>?_)
 cases f with
 | next=>exact wpAny_execs_nil q
 | ret v=>exact q
 | brk=>exact q
 | cont=>exact q
theorem Inv.quiet {pins:List (Addr × Obj)} {σ : St} {H:Hp} {s:Shared} (I:Inv X pins σ H s):interactive X.env=false:=by simp [interactive,I.ok.kind]
def CW (te:TE):TS:=fun D σ H=>te σ H fun _ H1=>D.nx σ H1
theorem cE (he:PE X e te) (hs:swapsWith e none pos.line X.env=pure false:=by rfl):PS X (.Expr e pos) (CW te):=by
 intro pins s σ H D I h
 exact wpAny_Expr_any (ba (he pins s σ H _ I h) fun v s1 ⟨x,H1,I1,r1,q1⟩=>⟨σ,H1,I1,q1⟩) I.quiet hs
def DA (te:TE):TS:=fun D σ H=>te σ H D.rt
theorem aF (he:PE X e te):PS X (.Return (some e) pos) (DA te):=by
 intro pins s σ H D I h
 exact wpAny_Return_some (ba (he pins s σ H _ I h) fun v s1 ⟨x,H1,I1,r1,q1⟩=>⟨x,σ,H1,I1,r1,q1⟩)
def DB (c:TT) (t u:TS):TS:=fun D σ H=>c σ H fun b H1=>if b=true then t D σ H1 else u D σ H1
theorem bp {c:Expr} {a b:List Stmt} {tc:TT} (hc:PT X c tc) (ha:jG X a t) (hb:jG X b u):PS X (.If c a b pos) (DB tc t u):=by
 intro pins s σ H D I h
 refine wpAny_If (ba (hc pins s σ H _ I h) fun d s1 ⟨H1,I1,q1⟩=>?_)
 cases d with
 | true=>exact ha pins s1 σ H1 D I1 q1
 | false=>exact hb pins s1 σ H1 D I1 q1
def BH:TS:=fun _ _ _=>False
theorem yJ:PS X st BH:=fun _ _ _ _ _ _ h=>h.elim
end
abbrev TG:=V->St->Hp->(St->Hp->Prop)->Prop
abbrev qE:=List V->St->Hp->(St->Hp->Prop)->Prop
def PG (X:Cx) (target:Expr) (t:TG):Prop :=
 ∀ (pins:List (Addr × Obj)) (s:Shared) (σ : St) (H:Hp) (v:V) (u:Value) (Q:St->Hp->Prop),Inv X pins σ H s->RelV v u->t v σ H Q ->
  wpAny (model X.prog X.w) X.A (assign target X.env u) (fun _ s'=>∃ σ' H',Inv X pins σ' H' s'/\Q σ' H') X.xe s
def Ab (X:Cx) (ts:List Expr) (t:qE):Prop :=
 ∀ (pins:List (Addr × Obj)) (s:Shared) (σ : St) (H:Hp) (vs:List V) (us:List Value) (Q:St->Hp->Prop),Inv X pins σ H s->Vals vs us->t vs σ H Q ->
  wpAny (model X.prog X.w) X.A (assignInOrder ((assignEach ts X.env).map (·.2)) us) (fun _ s'=>∃ σ' H',Inv X pins σ' H' s'/\Q σ' H') X.xe s
abbrev yK:=V->V->V->Hp->(Hp->Prop)->Prop
def yL (X:Cx) (t:yK):Prop :=
 ∀ (pins:List (Addr × Obj)) (s:Shared) (σ : St) (H:Hp) (o i v:V) (ov iv u:Value) (Q:Hp->Prop),Inv X pins σ H s->RelV o ov->RelV i iv->RelV v u->t o i v H Q ->
  wpAny (model X.prog X.w) X.A (setItem ov iv u) (fun _ s'=>∃ H',Inv X pins σ H' s'/\Q H') X.xe s
abbrev Ac:=V->V->Hp->VK->Prop
def Dj (X:Cx) (op:Operator) (t:Ac):Prop :=
 ∀ (pins:List (Addr × Obj)) (s:Shared) (σ : St) (H:Hp) (x y:V) (v u:Value) (Q:VK),Inv X pins σ H s->RelV x v->RelV y u->t x y H Q ->
  wpAny (model X.prog X.w) X.A (inplaceOp op v u) (EP X pins σ Q) X.xe s
section
variable {X:Cx} {pos:Pos}
def rV (i:Nat):TG:=fun v σ H Q=>Q (σ.set i (some v)) H
theorem aG {i:Nat} {x:Str} (hN:X.N.Nodup) (hi:X.N[i]? = some x) (hx:Loc X.env.scope x) (hf:X.fn x=true\/X.env.scope.names.lookup x=some .local:=by first | exact .inl rfl | exact .inr rfl | assumption):PG X (.Name x pos) (rV i):=by
 intro pins s σ H v u Q I r h
 exact wpAny_assign_Name (jg I hN hi hx r (fun s' I'=>⟨_,H,I',h⟩) hf)
def DC:qE:=fun vs σ H Q=>vs = []/\Q σ H
def CY (t:TG) (u:qE):qE:=fun vs σ H Q=>∃ v r,vs=v :: r/\t v σ H fun σ' H'=>u r σ' H' Q
theorem cO:Ab X [] DC:=by
 intro pins s σ H vs us Q I r h
 obtain⟨e,h⟩:=h
 subst e
 cases r
 exact assignInOrder_nil ⟨σ,H,I,h⟩
theorem aR {e:Expr} {es:List Expr} {t:TG} {u:qE} (h1:PG X e t) (h2:Ab X es u)
  (hs:(assignEach (e :: es) X.env).map (·.2)=assign e X.env :: (assignEach es X.env).map (·.2):=by rfl):Ab X (e :: es) (CY t u):=by
 intro pins s σ H vs us Q I r h
 obtain⟨v,vr,e1,h⟩:=h
 subst e1
 cases r with
 | cons r rr =>
  rw [hs]
  refine assignInOrder_cons (ba (h1 pins s σ H _ _ _ I r h) fun _ s1 ⟨σ1,H1,I1,q1⟩=>?_)
  exact h2 pins s1 σ1 H1 _ _ Q I1 rr q1
def yM (K:PySem.W.Frag) (n:Nat) (t:qE):TG:=fun v σ H Q=>∃ a xs,v=.ref a/\ay K H a xs/\xs.length=n/\t xs σ H Q
theorem dz {es:List Expr} {k:Nat} {t:qE} {n:Nat} (hc:X.calm=true) (h:Ab X es t)
  (hn:(assignEach es X.env).length=n:=by rfl) (hst:(assignEach es X.env).findIdx? (·.1)=none:=by rfl):PG X (.Tuple es k pos) (yM X.K n t):=by
 intro pins s σ H v u Q I r hw
 obtain⟨a,xs,e1,hq,hl,hw⟩:=hw
 subst e1
 cases r
 obtain⟨its,rv,ht,hz⟩:=I.tuple hq
 refine assign_Tuple_tuple (I.ok.hd hc) ht (by simp [hn,<-hl,rv.length]) hst fun h' hx=>?_
 have I1:Inv X pins σ H { s with heap:=h' }:=I.kept (t':=s.toks) fun b o e=>hx b o (Nat.ne_of_lt (Heap.lt_size e)) e
 exact h pins _ σ H xs _ Q I1 (by simpa using rv) hw
def DD (to ti:TE) (t:yK):TG:=fun v σ H Q=>to σ H fun o H1=>ti σ H1 fun i H2=>t o i v H2 fun H3=>Q σ H3
theorem ou {o i:Expr} {to ti:TE} {t:yK} (ho:PE X o to) (hi:PE X i ti) (hs:yL X t)
  (ha:∀ v,assign (.Subscript o i pos) X.env v=(do
   let ov <-holding [v] (eval o X.env)
   let iv <-holding [v,ov] (eval i X.env)
   standAt pos
   holding [v,ov,iv] (setItem ov iv v)
   release [v,ov,iv] []):=by intro _;rfl):PG X (.Subscript o i pos) (DD to ti t):=by
 intro pins s σ H v u Q I r h
 rw [ha]
 refine wpAny_bind (wpAny_holding (ba (ho pins s σ H _ I h) fun ov s1 ⟨x,H1,I1,r1,q1⟩=>?_))
 refine wpAny_bind (wpAny_holding (ba (hi pins s1 σ H1 _ I1 q1) fun iv s2 ⟨y,H2,I2,r2,q2⟩=>?_))
 refine wpAny_bind (wpAny_standAt (wpAny_bind (wpAny_holding (ba (hs pins s2 σ H2 x y v ov iv u _ I2 r1 r2 r q2) fun _ s3 ⟨H3,I3,q3⟩=>?_))))
 exact wpAny_release ⟨σ,H3,I3,q3⟩
def yN (te:TE) (g:TG):TS:=fun D σ H=>te σ H fun x H1=>g x σ H1 D.nx
theorem dh {tg e:Expr} {te:TE} {g:TG} (he:PE X e te) (hg:PG X tg g) (hs:swapsWithSole [tg] e pos.line X.env=pure false:=by rfl) (hw:swappedStores [tg] e X.env=pure none:=by rfl)
  (h1:(assignEach [tg] X.env).map (·.2) = [assign tg X.env]:=by rfl):PS X (.Assign [tg] e pos) (yN te g):=by
 intro pins s σ H D I h
 refine wpAny_Assign_stores (ba (he pins s σ H _ I h) fun v s1 ⟨x,H1,I1,r1,q1⟩=>?_) hs hw
 rw [h1]
 exact ba (hg pins s1 σ H1 x v _ I1 r1 q1) fun _ s2 q=>q
theorem aQ {i:Nat} {x:Str} {e:Expr} {te:TE} {pos':Pos} (hN:X.N.Nodup) (hi:X.N[i]? = some x) (hx:Loc X.env.scope x) (he:PE X e te) (hs:swapsWith e (some (.Name x pos')) pos.line X.env=pure false:=by rfl) (hf:X.fn x=true\/X.env.scope.names.lookup x=some .local:=by first | exact .inl rfl | exact .inr rfl | assumption) :
  PS X (.Assign [.Name x pos'] e pos) (yN te (rV i)):=by
 intro pins s σ H D I h
 refine wpAny_Assign_Name (ba (he pins s σ H _ I h) fun v s1 ⟨y,H1,I1,r1,q1⟩=>?_) hs
 exact jg I1 hN hi hx r1 (fun s2 I2=>⟨_,H1,I2,q1⟩) hf
def DE (i j:Nat) (ta:TA):TS:=fun D σ H=>ta σ H fun vs H1=>∃ v w,vs = [v,w]/\D.nx ((σ.set i (some v)).set j (some w)) H1
theorem xf {i j:Nat} {x y:Str} {a b:Expr} {ta:TA} {px py pt:Pos} {kt k2 pt2} (hc:X.calm=true) (hN:X.N.Nodup) (hi:X.N[i]? = some x) (hj:X.N[j]? = some y) (hij:i ≠ j)
  (hx:X.env.scope.names.lookup x=some .local) (hy:X.env.scope.names.lookup y=some .local) (ha:PA X [a,b] ta)
  (hw:swappedStores [.Tuple [.Name x px,.Name y py] kt pt] (.Tuple [a,b] k2 pt2) X.env=pure (some [x,y]))
  (hs:swapsWithSole [.Tuple [.Name x px,.Name y py] kt pt] (.Tuple [a,b] k2 pt2) pos.line X.env=pure false:=by rfl) :
  PS X (.Assign [.Tuple [.Name x px,.Name y py] kt pt] (.Tuple [a,b] k2 pt2) pos) (DE i j ta):=by
 intro pins s σ H D I h
 rw [exec_Assign_arm]
 refine wpAny_bind (wpAny_standAt ?_)
 rw [hs]
 refine wpAny_bind (wpAny_pure ?_)
 rw [if_neg (by decide)]
 refine wpAny_bind (Tuple_ (ba (ha _ pins s σ H _ I h) fun us s1 ⟨vs,H1,I1,r1,q1⟩=>?_))
 obtain⟨v,w,e1,q1⟩:=q1
 subst e1
 obtain⟨u1,u2,rfl,rv,rw'⟩:∃ u1 u2,us = [u1,u2]/\RelV v u1/\RelV w u2:=by
  cases r1 with
  | cons p q =>
   cases q with
   | cons p' q' =>
    cases q'
    exact⟨_,_,rfl,p,p'⟩
 refine wpAny_newObj_type ?_ (by show 2<=sizeLine;decide)
 have I2:Inv X pins σ H1 { s1 with heap:=s1.heap.push { cls:=.type "tuple",data:=.seq [u1,u2].toArray } }:=I1.kept (t':=s1.toks) fun b o e=>Heap.get?_push_of_some _ e
 rw [hw]
 refine wpAny_bind (wpAny_pure ?_)
 show wpAny (model X.prog X.w) X.A (do rule "assign.swapped-stores";let items <-unpackItems (.ref s1.heap.objs.size) 2 none;assignInOrder [fun v=>bindName X.env y v,fun v=>bindName X.env x v] items.reverse;pure Flow.next) _ _ _
 refine wpAny_bind (wpAny_rule (wpAny_bind (unpackItems_tuple (items:=#[u1,u2]) (I.ok.hd hc) (IsTup.new s1.heap _) fun h' hx'=>?_)))
 have I3:=I2.kept (h':=h') (t':=s1.toks) fun b o e=>hx' b o (Nat.ne_of_lt (Heap.lt_size e)) e
 show wpAny _ _ (assignInOrder [fun v=>bindName X.env y v,fun v=>bindName X.env x v] [u2,u1] >>= fun _=>pure Flow.next) _ _ _
 refine wpAny_bind (assignInOrder_cons (wpAny_bindName (jg I3 hN hj (.inl hy) rw' (fun s2 I4=>?_) (.inr hy))))
 refine assignInOrder_cons (wpAny_bindName (jg I4 hN hi (.inl hx) rv (fun s3 I5=>assignInOrder_nil (wpAny_pure ?_)) (.inr hx)))
 rw [List.set_comm _ _ (Ne.symm hij)] at I5
 exact⟨_,H1,I5,q1⟩
def DF (i:Nat) (te:TE) (ti:Ac):TS:=fun D σ H=>∃ x,σ[i]? = some (some x)/\te σ H fun y H1=>ti x y H1 fun z H2=>D.nx (σ.set i (some z)) H2
theorem BI {i:Nat} {x:Str} {e:Expr} {te:TE} {op:Operator} {ti:Ac} {pos':Pos} (hN:X.N.Nodup) (hi:X.N[i]? = some x) (hx:Loc X.env.scope x) (he:PE X e te) (ho:Dj X op ti) (hf:X.fn x=true\/X.env.scope.names.lookup x=some .local:=by first | exact .inl rfl | exact .inr rfl | assumption) :
  PS X (.AugAssign (.Name x pos') op e pos) (DF i te ti):=by
 intro pins s σ H D I h
 obtain⟨v,e1,h⟩:=h
 obtain⟨m,hn,hl⟩:=I.loc
 have vis:z9 X.env.scope x:=by rcases hx with k | k;exact .inl k;exact .inr (.inl k)
 obtain⟨u,r,l⟩:=hl i x v hi e1 vis
 refine wpAny_AugAssign_Name ?_
 have go:wpAny (model X.prog X.w) X.A (eval e X.env) (fun w s₂=>wpAny (model X.prog X.w) X.A (inplaceOp op u w) (fun r s₃=>wpAny (model X.prog X.w) X.A (storeName X.env x r) (fun _=>SP X pins D .next) X.xe s₃) X.xe s₂) X.xe s:=by
  refine ba (he pins s σ H _ I h) fun w s1 ⟨y,H1,I1,r1,q1⟩=>?_
  refine ba (ho pins s1 σ H1 v y u w _ I1 r r1 q1) fun z s2 ⟨zv,H2,I2,r2,q2⟩=>?_
  exact jg I2 hN hi hx r2 (fun s3 I3=>⟨_,H2,I3,q2⟩) hf
 rcases l with ⟨hk,hm⟩ | ⟨hk,c,hc,hcell⟩
 ·exact wpAny_loadName_local I.ok.kind hk hn hm go
 ·rcases hk with hk | hk
  ·exact wpAny_loadName_cell I.ok.kind hk hc hcell go
  ·rcases hx with k | k
   ·have:X.env.scope.names.lookup x=some .free:=hk
    rw [k] at this;cases this
   ·have:X.env.scope.names.lookup x=some .free:=hk
    rw [k] at this;cases this
def D5 (f:Int->Int->Int):Ac:=fun x y H Q=>∃ i j,x=.int i/\y=.int j/\Q (.int (f i j)) H
theorem BJ:Dj X .Add (D5 fun i j=>i+j):=by
 intro pins s σ H x y v u Q I r1 r2 h
 obtain⟨i,j,e1,e2,q⟩:=h
 subst e1;subst e2
 obtain⟨t,rfl⟩:=r1
 obtain⟨t',rfl⟩:=r2
 exact iadd_int ⟨.int _,H,I.tok _,⟨_,rfl⟩,q⟩
end
section
variable {X:Cx} {pos:Pos}
def BK (c:TT) (tb:TS):TS:=fun D σ H=>∃ W:Nat->St->Hp->Prop,(∃ m,W m σ H)/\∀ m σ H,W m σ H ->
 c σ H fun b H1=>if b=true then ∃ N:St->Hp->Prop,(∀ σ' H',N σ' H'->∃ m',m' < m/\W m' σ' H')/\tb { D with nx:=N,ct:=N,bk:=D.nx } σ H1 else D.nx σ H1
theorem nu {c:Expr} {body:List Stmt} {tc:TT} {tb:TS} (hp:PassesOwn (model X.prog X.w) X.A X.env X.xe) (hc:PT X c tc) (hb:jG X body tb):PS X (.While c body [] pos) (BK tc tb):=by
 intro pins s σ H D I h
 obtain⟨W,⟨m0,w0⟩,turn⟩:=h
 refine wpAny_While (codeAny_whileLoop (fun n s'=>∃ σ' H',Inv X pins σ' H' s'/\W n σ' H') ?_ m0 ⟨σ,H,I,w0⟩)
 rintro n s1 ⟨σ1,H1,I1,w1⟩
 refine wpAny_passesOwn hp (ba (hc pins s1 σ1 H1 _ I1 (turn n σ1 H1 w1)) fun b s2 ⟨H2,I2,q2⟩=>?_)
 cases b with
 | true =>
  obtain⟨N,hN,q2⟩:=q2
  rw [if_pos rfl]
  refine wpAny_passesOwn hp (ba (hb pins s2 σ1 H2 _ I2 q2) fun f s3 q3=>?_)
  cases f with
  | next =>
   obtain⟨σ3,H3,I3,n3⟩:=q3
   obtain⟨m',hm,w3⟩:=hN σ3 H3 n3
   exact⟨m',hm,σ3,H3,I3,w3⟩
  | cont =>
   obtain⟨σ3,H3,I3,n3⟩:=q3
   obtain⟨m',hm,w3⟩:=hN σ3 H3 n3
   exact⟨m',hm,σ3,H3,I3,w3⟩
  | brk=>exact q3
  | ret v=>exact q3
 | false =>
  rw [if_neg Bool.false_ne_true]
  exact wpAny_execs_nil ⟨σ1,H2,I2,q2⟩
end
structure It where
 go:Nat->Hp->Prop
 xg:Nat->Hp->V->Hp->Prop
 stop:Nat->Hp->Prop
def ji (X:Cx) (pins:List (Addr × Obj)) (H:Hp) (b:Addr):Prop :=
 H b=none/\b ≠ X.env.locals/\b ∉ X.fs/\(b ∈ X.ex\/X.eC.heap.objs.size<=b)/\(∀ x c,X.env.cells.lookup x=some c->c ≠ b)/\∀ p ∈ X.pn++pins,p.1 ≠ b
theorem Inv.pN {X:Cx} {pins:List (Addr × Obj)} {σ : St} {H H':Hp} {s:Shared} {b:Addr} (I:Inv X pins σ H s) (hb:s.heap.objs.size<=b) (hn:H' b=none):ji X pins H' b:=by
 refine⟨hn,Nat.ne_of_gt (Nat.lt_of_lt_of_le I.lt hb),I.Dt hb,.inr (Nat.le_trans I.sz hb),fun x c e z=>?_,fun p hp z=>?_⟩
 ·obtain⟨v,q⟩:=I.cell x c e
  exact absurd (Nat.lt_of_lt_of_le q.lt (by rw [z];exact hb)) (Nat.lt_irrefl _)
 ·exact absurd (Nat.lt_of_lt_of_le (Heap.lt_size (I.pin p hp).1) (by rw [z];exact hb)) (Nat.lt_irrefl _)
structure Turn (P:Program) (w:World) (K:PySem.W.Frag) (tg:Expr) (J:It) (fp:List Addr) (it:Addr) (tn:Nat->Heap->Prop):Prop where
 mem:it ∈ fp
 obj:∀ i h,tn i h->∀ b ∈ fp,∃ o,h.get? b=some o/\∀ v,o.data ≠ .cell v
 keep:∀ i h h',tn i h->(∀ b ∈ fp,∀ o,h.get? b=some o->h'.get? b=some o)->tn i h'
 item:∀ (X:Cx),X.prog=P->X.w=w->X.K=K->X.calm=true->∀ (i:Nat) (pins:List (Addr × Obj)) (s:Shared) (σ : St) (H:Hp) (E:Value->Shared->Prop),Inv X pins σ H s->(∀ b ∈ fp,ji X pins H b)->tn i s.heap->J.go i H ->
  wpAny (model P w) X.A (pyNext (.ref it)) (fun r s1=>∃ u,r=some u /\
   wpAny (model P w) X.A (letOwnedTupleGo tg (.ref it) u) (fun _ s2=>∃ x H',Inv X pins σ H' s2/\RelV x u/\J.xg i H x H'/\tn (i+1) s2.heap/\∀ b ∈ fp,H' b=none) E s1) E s
 done:∀ (X:Cx),X.prog=P->X.w=w->X.K=K->X.calm=true->∀ (i:Nat) (pins:List (Addr × Obj)) (s:Shared) (σ : St) (H:Hp) (E:Value->Shared->Prop),Inv X pins σ H s->(∀ b ∈ fp,ji X pins H b)->tn i s.heap->J.stop i H ->
  wpAny (model P w) X.A (pyNext (.ref it)) (fun r s1=>r=none/\Inv X pins σ H s1) E s
 self:∀ (A:Around) (i:Nat) (s:Shared) (Q:Value->Shared->Prop) (E:Value->Shared->Prop),tn i s.heap->Q (.ref it) s->wpAny (model P w) A (pyIter (.ref it)) Q E s
abbrev TI:=St->Hp->(It->Hp->Prop)->Prop
def Dk (X:Cx) (pins:List (Addr × Obj)) (σ : St) (tg:Expr) (R:It->Hp->Prop) (itv:Value) (s2:Shared):Prop :=
 ∃ (it:Addr) (fp:List Addr) (tn:Nat->Heap->Prop) (J:It) (H':Hp),itv=.ref it/\Inv X pins σ H' s2/\Turn X.prog X.w X.K tg J fp it tn/\tn 0 s2.heap/\(∀ b ∈ fp,ji X pins H' b)/\R J H'
def PI (X:Cx) (tg iter:Expr) (wi:TI):Prop :=
 ∀ (pins:List (Addr × Obj)) (s:Shared) (σ : St) (H:Hp) (R:It->Hp->Prop),Inv X pins σ H s->wi σ H R ->
  wpAny (model X.prog X.w) X.A (eval iter X.env) (fun v s1=>wpAny (model X.prog X.w) X.A (pyIter v) (Dk X pins σ tg R) X.xe s1) X.xe s
theorem vF {M:Model} {A:Around} {E:Value->Shared->Prop} {s:Shared} {tg:Expr} {it:Addr} {u:Value} {o:Obj} {n:String} {vs:Array Value} {Q:Unit->Shared->Prop} (ho:s.heap.get? it=some o) (hc:o.cls=.type n) (hd:o.data=.fields vs)
    (hn:["enumerate", "zip", "dict_itemiterator", "dict_reverseitemiterator", "odict_iterator", "itertools.zip_longest", "itertools.pairwise"].contains n=false) (hQ:Q () s):wpAny M A (letOwnedTupleGo tg (.ref it) u) Q E s:=by
  unfold letOwnedTupleGo
  cases tg <;> first
    | exact wpAny_pure hQ
    | (cases u <;> first
        | exact wpAny_pure hQ
        | (refine wpAny_bind (wpAny_load ho ?_)
           rw [hc,hd]
           show wpAny M A (if (["enumerate", "zip", "dict_itemiterator", "dict_reverseitemiterator", "odict_iterator", "itertools.zip_longest", "itertools.pairwise"].contains n && vs[0]? == some (rawInt _))=true then _ else _) Q E s
           rw [if_neg (by intro h;rw [hn,Bool.false_and] at h;cases h)]
           exact wpAny_pure hQ))
def BL (K:PySem.W.Frag) (a:Addr):It :=
 ⟨fun i H=>∃ xs x,aU K H a xs/\xs[i]? = some x,fun i H x H'=>H' = H/\∀ xs,aU K H a xs->xs[i]? = some x,fun i H=>∃ xs,aU K H a xs/\xs.length<=i⟩
def uN (K:PySem.W.Frag) (a:Addr):It :=
 ⟨fun i H=>∃ xs x,ay K H a xs/\xs[i]? = some x,fun i H x H'=>H' = H/\∀ xs,ay K H a xs->xs[i]? = some x,fun i H=>∃ xs,ay K H a xs/\xs.length<=i⟩
def sD (lo:Int) (n:Nat):It:=⟨fun i _=>i < n,fun i H x H'=>H' = H/\x=.int (lo+i),fun i _=>n<=i⟩
theorem xh {P:Program} {w:World} {K:PySem.W.Frag} {tg:Expr} (a it:Addr):Turn P w K tg (BL K a) [it] it (fun i h=>h.IsListIter it a i) where
 mem:=by simp
 obj:=fun i h st b hb=>by
  have e:b=it:=by simpa using hb
  subst e
  obtain⟨o,e,c,d⟩:=st
  exact⟨o,e,fun v z=>by rw [d] at z;cases z⟩
 keep:=fun i h h' st k=>st.at fun o e=>k it (by simp) o e
 item:=by
  intro X hP hw hK hc i pins s σ H E I hf st hg
  subst hP hw hK
  obtain⟨xs,x,hq,hx⟩:=hg
  obtain⟨its,rv,p,hz⟩:=I.list hq
  obtain⟨u,hu,ru⟩:=rv.get hx
  obtain⟨f0,f1,f2,f3,f4,f5⟩:=hf it (by simp)
  refine wpAny_pyNext_list_item st p.isList (x:=u) (by simpa using hu) fun h' st' sb=>?_
  have I1:Inv X pins σ H { s with heap:=h' }:=I.turned (t':=s.toks) (fun b o hb e=>(sb.2 b hb).trans e) f0 f1 f3 f4 f5
  obtain⟨o,e,c,d⟩:=id st'
  exact⟨u,rfl,vF (s:={ s with heap:=h' }) e c d (by decide) ⟨x,H,I1,ru,⟨rfl,fun ys hy=>by rw [I.yI hy hq];exact hx⟩,st',fun b hb=>(hf b hb).1⟩⟩
 done:=by
  intro X hP hw hK hc i pins s σ H E I hf st hg
  subst hP hw hK
  obtain⟨xs,hq,hx⟩:=hg
  obtain⟨its,rv,p,hz⟩:=I.list hq
  obtain⟨f0,f1,f2,f3,f4,f5⟩:=hf it (by simp)
  have hl:=rv.length
  exact wpAny_pyNext_list_end (I.ok.hd hc) st p.isList (by simp;omega) fun h' eb=>⟨rfl,I.turned (t':=s.toks) (fun b o hb e=>eb b o hb e) f0 f1 f3 f4 f5⟩
 self:=fun _ _ _ _ _ st h=>wpAny_pyIter_listiter st h
theorem vG {P:Program} {w:World} {K:PySem.W.Frag} {tg:Expr} (a it:Addr):Turn P w K tg (uN K a) [it] it (fun i h=>h.IsTupleIter it a i) where
 mem:=by simp
 obj:=fun i h st b hb=>by
  have e:b=it:=by simpa using hb
  subst e
  obtain⟨o,e,c,d⟩:=st
  exact⟨o,e,fun v z=>by rw [d] at z;cases z⟩
 keep:=fun i h h' st k=>st.at fun o e=>k it (by simp) o e
 item:=by
  intro X hP hw hK hc i pins s σ H E I hf st hg
  subst hP hw hK
  obtain⟨xs,x,hq,hx⟩:=hg
  obtain⟨its,rv,p,hz⟩:=I.tuple hq
  obtain⟨u,hu,ru⟩:=rv.get hx
  obtain⟨f0,f1,f2,f3,f4,f5⟩:=hf it (by simp)
  refine wpAny_pyNext_tuple_item st (show s.heap.IsTuple a its.toArray from p) (x:=u) (by simpa using hu) fun h' st' sb=>?_
  have I1:Inv X pins σ H { s with heap:=h' }:=I.turned (t':=s.toks) (fun b o hb e=>(sb.2 b hb).trans e) f0 f1 f3 f4 f5
  obtain⟨o,e,c,d⟩:=id st'
  exact⟨u,rfl,vF (s:={ s with heap:=h' }) e c d (by decide) ⟨x,H,I1,ru,⟨rfl,fun ys hy=>by rw [I.lC hy hq];exact hx⟩,st',fun b hb=>(hf b hb).1⟩⟩
 done:=by
  intro X hP hw hK hc i pins s σ H E I hf st hg
  subst hP hw hK
  obtain⟨xs,hq,hx⟩:=hg
  obtain⟨its,rv,p,hz⟩:=I.tuple hq
  obtain⟨f0,f1,f2,f3,f4,f5⟩:=hf it (by simp)
  have hl:=rv.length
  exact wpAny_pyNext_tuple_end (I.ok.hd hc) st (show s.heap.IsTuple a its.toArray from p) (by simp;omega) fun h' eb=>⟨rfl,I.turned (t':=s.toks) (fun b o hb e=>eb b o hb e) f0 f1 f3 f4 f5⟩
 self:=fun _ _ _ _ _ st h=>wpAny_pyIter_tupleiter st h
theorem vH {P:Program} {w:World} {K:PySem.W.Frag} {tg:Expr} (it:Addr) (lo:Int) (n:Nat):Turn P w K tg (sD lo n) [it] it (fun i h=>IsRangeIter h it (lo+(i:Nat) * 1) ((n:Int) - (i:Nat)) 1) where
 mem:=by simp
 obj:=fun i h st b hb=>by
  have e:b=it:=by simpa using hb
  subst e
  exact⟨_,st,fun v z=>by
   have z':Data.fields _=Data.cell v:=z
   cases z'⟩
 keep:=fun i h h' st k=>k it (by simp) _ st
 item:=by
  intro X hP hw hK hc i pins s σ H E I hf st hg
  subst hP hw hK
  obtain⟨f0,f1,f2,f3,f4,f5⟩:=hf it (by simp)
  have W:=Walks.range (prog:=X.prog) (w:=X.w) (I.ok.hd hc) it lo 1 n
  refine W.item i s _ _ hg st fun v h' tk hv st' kk=>?_
  obtain⟨t,rfl⟩:=hv
  have I1:Inv X pins σ H { s with heap:=h',toks:=tk }:=I.turned (fun b o hb e=>kk b o (by simpa using hb) e) f0 f1 f3 f4 f5
  refine⟨_,rfl,vF (s:={ s with heap:=h',toks:=tk }) (n := "range_iterator") st' rfl rfl (by decide) ⟨.int (lo+i),H,I1,⟨t,?_⟩,⟨rfl,rfl⟩,st',fun b hb=>(hf b hb).1⟩⟩
  rw [Int.mul_one]
 done:=by
  intro X hP hw hK hc i pins s σ H E I hf st hg
  subst hP hw hK
  obtain⟨f0,f1,f2,f3,f4,f5⟩:=hf it (by simp)
  exact wpAny_pyNext_range_end (I.ok.hd hc) st (by have:n<=i:=hg;omega) fun h' eb=>⟨rfl,I.turned (t':=s.toks) (fun b o hb e=>eb b o hb e) f0 f1 f3 f4 f5⟩
 self:=fun _ _ _ _ _ st h=>wpAny_pyIter_rangeiter st h
section
variable {X:Cx} {tg:Expr}
def CZ (K:PySem.W.Frag) (tl:TE):TI:=fun σ H R=>tl σ H fun x H1=>∃ a,x=.ref a/\(∃ xs,aU K H1 a xs)/\R (BL K a) H1
def DG (K:PySem.W.Frag) (tl:TE):TI:=fun σ H R=>tl σ H fun x H1=>∃ a,x=.ref a/\(∃ xs,ay K H1 a xs)/\R (uN K a) H1
theorem pO {l:Expr} {tl:TE} (hl:PE X l tl):PI X tg l (CZ X.K tl):=by
 intro pins s σ H R I h
 refine ba (hl pins s σ H _ I h) fun v s1 ⟨x,H1,I1,r1,q1⟩=>?_
 obtain⟨a,e,⟨xs,hq⟩,q⟩:=q1
 subst e
 cases r1
 obtain⟨its,rv,p,hz⟩:=I1.list hq
 refine wpAny_pyIter_list p.isList ?_
 refine⟨s1.heap.objs.size,[s1.heap.objs.size],_,_,H1,rfl,I1.kept (t':=s1.toks) fun b o e=>Heap.get?_push_of_some _ e,xh a _,⟨_,Heap.get?_push_size _ rfl,rfl,rfl⟩,fun b hb=>?_,q⟩
 have e:b=s1.heap.objs.size:=by simpa using hb
 subst e
 exact I1.pN (Nat.le_refl _) (I1.aT.fresh (Nat.le_refl _))
theorem fB {l:Expr} {tl:TE} (hl:PE X l tl):PI X tg l (DG X.K tl):=by
 intro pins s σ H R I h
 refine ba (hl pins s σ H _ I h) fun v s1 ⟨x,H1,I1,r1,q1⟩=>?_
 obtain⟨a,e,⟨xs,hq⟩,q⟩:=q1
 subst e
 cases r1
 obtain⟨its,rv,p,hz⟩:=I1.tuple hq
 refine wpAny_pyIter_tuple (show s1.heap.IsTuple a its.toArray from p) ?_
 refine⟨s1.heap.objs.size,[s1.heap.objs.size],_,_,H1,rfl,I1.kept (t':=s1.toks) fun b o e=>Heap.get?_push_of_some _ e,vG a _,⟨_,Heap.get?_push_size _ rfl,rfl,rfl⟩,fun b hb=>?_,q⟩
 have e:b=s1.heap.objs.size:=by simpa using hb
 subst e
 exact I1.pN (Nat.le_refl _) (I1.aT.fresh (Nat.le_refl _))
theorem yO {pins:List (Addr × Obj)} {σ : St} {H:Hp} {s:Shared} {R:It->Hp->Prop} {E:Value->Shared->Prop} {lo hi:Int} {t u v:Tok} {tk:Nat} (I:Inv X pins σ H s) (h1:-(2 ^ 62)<=lo) (h2:lo < 2 ^ 62) (h3:-(2 ^ 62)<=hi) (h4:hi < 2 ^ 62)
  (q:R (sD lo (hi - lo).toNat) H):wpAny (model X.prog X.w) X.A (pyIter (.ref s.heap.objs.size)) (Dk X pins σ tg R) E { s with heap:=s.heap.push { cls:=.type "range",data:=.fields #[.int lo t,.int hi u,.int 1 v] },toks:=tk }:=by
 refine wpAny_pyIter_range (IsRange.new ..) (small_one h1 h2 h3 h4) ?_
 have I1:Inv X pins σ H { s with heap:=s.heap.push { cls:=.type "range",data:=.fields #[.int lo t,.int hi u,.int 1 v] },toks:=tk }:=I.kept fun b o e=>Heap.get?_push_of_some _ e
 refine⟨(s.heap.push { cls:=.type "range",data:=.fields #[.int lo t,.int hi u,.int 1 v] }).objs.size,[(s.heap.push { cls:=.type "range",data:=.fields #[.int lo t,.int hi u,.int 1 v] }).objs.size],_,_,H,rfl,
  I1.kept (t':=tk) fun b o e=>Heap.get?_push_of_some _ e,vH _ lo (hi - lo).toNat,?_,fun b hb=>?_,q⟩
 ·have e1:lo+((0:Nat):Int) * 1=lo:=by simp
  have e2:(((hi - lo).toNat:Nat):Int) - ((0:Nat):Int)=Builtin.Range.rangeSize lo hi 1:=by rw [rangeSize_one];split <;> omega
  show IsRangeIter _ _ (lo+((0:Nat):Int) * 1) ((((hi - lo).toNat:Nat):Int) - ((0:Nat):Int)) 1
  rw [e1,e2]
  exact Heap.get?_push_size _ rfl
 ·have e:b=(s.heap.push { cls:=.type "range",data:=.fields #[.int lo t,.int hi u,.int 1 v] }).objs.size:=by simpa using hb
  subst e
  exact I1.pN (Nat.le_refl _) (I1.aT.fresh (Nat.le_refl _))
def C0 (ta:TA):TI:=fun σ H R=>ta σ H fun vs H1=>∃ j:Int,vs = [.int j]/\-(2 ^ 62)<=j/\j < 2 ^ 62/\R (sD 0 j.toNat) H1
theorem fQ {a:Expr} {ta:TA} {p pos:Pos} (hg:Gl X "range") (hm:X.mg "range" = none) (ha:PA X [a] ta) (hs:starEach [a] X.env = [(false,eval a X.env)]:=by rfl):PI X tg (.Call (.Name "range" p) [a] [] pos) (C0 ta):=by
 intro pins s σ H R I h
 refine Call_ (lr I hg hm boot_range (PyProof.Rows.callWith_type1 (ba (ha pos pins s σ H _ I h) fun us s1 ⟨vs,H1,I1,r1,q1⟩=>?_) hs rfl))
 obtain⟨j,e,q1,q2,q⟩:=q1
 subst e
 cases r1 with
 | cons r rr =>
  cases rr
  obtain⟨t,rfl⟩:=r
  exact call_range_1 (yO I1 (by omega) (by omega) q1 q2 (by simpa using q))
def DH (wi:TI) (g:TG) (tb:TS):TS:=fun D σ H=>wi σ H fun J H1=>∃ W:Nat->Nat->St->Hp->Prop,(∃ m,W 0 m σ H1)/\∀ i m σ H,W i m σ H ->
 (J.stop i H/\D.nx σ H)\/(J.go i H/\∃ N:St->Hp->Prop,(∀ σ' H',N σ' H'->∃ m',m' < m/\W (i+1) m' σ' H')/\∀ x H',J.xg i H x H'->g x σ H' fun σ2 H2=>tb { D with nx:=N,ct:=N,bk:=D.nx } σ2 H2)
def lF (fp:List Addr) (h:Heap):List (Addr × Obj):=fp.filterMap fun b=>(h.get? b).map fun o=>(b,o)
theorem iW {fp:List Addr} {h:Heap} {b:Addr} {o:Obj} (hb:b ∈ fp) (e:h.get? b=some o):(b,o) ∈ lF fp h:=List.mem_filterMap.mpr ⟨b,hb,by rw [e];rfl⟩
theorem xi {fp:List Addr} {h:Heap} {p:Addr × Obj} (hp:p ∈ lF fp h):p.1 ∈ fp/\h.get? p.1=some p.2:=by
 obtain⟨b,hb,e⟩:=List.mem_filterMap.mp hp
 cases q:h.get? b with
 | none=>rw [q] at e;cases e
 | some o =>
  rw [q] at e
  have e':(b,o)=p:=Option.some.inj e
  subst e'
  exact⟨hb,q⟩
theorem Inv.pinned {pins:List (Addr × Obj)} {σ : St} {H:Hp} {s:Shared} {fp:List Addr} (I:Inv X pins σ H s) (hf:∀ b ∈ fp,ji X pins H b) (ho:∀ b ∈ fp,∃ o,s.heap.get? b=some o/\∀ v,o.data ≠ .cell v):Inv X (pins++lF fp s.heap) σ H s :=
 I.uL fun p hp=>(List.mem_append.mp hp).elim (fun z=>I.pin p (List.mem_append_right _ z)) fun z=>by
  obtain⟨hb,e⟩:=xi z
  obtain⟨f0,f1,f2,_⟩:=hf p.1 hb
  obtain⟨o,e',d⟩:=ho p.1 hb
  rw [e] at e';cases e'
  exact⟨e,f0,f1,f2,d⟩
theorem Inv.jj {pins pl:List (Addr × Obj)} {σ : St} {H:Hp} {s:Shared} (I:Inv X (pins++pl) σ H s):Inv X pins σ H s:=I.uL fun p hp=>I.pin p (List.mem_append_right _ (List.mem_append_left _ hp))
theorem gK {iter:Expr} {body:List Stmt} {wi:TI} {g:TG} {tb:TS} {pos:Pos} (hp:PassesOwn (model X.prog X.w) X.A X.env X.xe) (hc:X.calm=true) (hi:PI X tg iter wi) (hg:PG X tg g) (hb:jG X body tb)
  (hs:∀ x,foldedSetIterable iter X.env x=pure x:=by intro _;rfl):PS X (.For tg iter body [] pos) (DH wi g tb):=by
 intro pins s σ H D I h
 refine wpAny_For (ba (hi pins s σ H _ I h) fun v s1 h1=>ba h1 fun itv s2 h2=>?_) hs
 obtain⟨it,fp,tn,J,H2,e,I2,T,st2,f2,W,⟨m0,w0⟩,turn⟩:=h2
 subst e
 have stat:∀ {H':Hp},(∀ b ∈ fp,H' b=none)->∀ b ∈ fp,ji X pins H' b:=fun hn b hb=>⟨hn b hb,(f2 b hb).2⟩
 refine codeAny_forLoop_any (fun n s'=>∃ i σ' H',Inv X pins σ' H' s'/\tn i s'.heap/\(∀ b ∈ fp,H' b=none)/\W i n σ' H') ?_ m0 ⟨0,σ,H2,I2,st2,fun b hb=>(f2 b hb).1,w0⟩
 rintro n s3 ⟨i,σ3,H3,I3,st3,fr3,w3⟩
 rcases turn i n σ3 H3 w3 with ⟨stop,qn⟩ | ⟨go,N,hN,step⟩
 ·refine wpAny_passesOwn hp (ba (T.done X rfl rfl rfl hc i pins s3 σ3 H3 X.xe I3 (stat fr3) st3 stop) fun r s4 ⟨hr,I4⟩=>?_)
  subst hr
  exact wpAny_execs_nil ⟨σ3,H3,I4,qn⟩
 ·refine wpAny_passesOwn hp (ba (T.item X rfl rfl rfl hc i pins s3 σ3 H3 X.xe I3 (stat fr3) st3 go) fun r s4 ⟨u,hr,h4⟩=>?_)
  subst hr
  refine wpAny_passesOwn hp (ba h4 fun _ s5 ⟨x,H5,I5,r5,y5,st5,fr5⟩=>?_)
  have I5':=I5.pinned (stat fr5) (T.obj _ _ st5)
  refine wpAny_passesOwn hp (ba (hg _ s5 σ3 H5 x u _ I5' r5 (step x H5 y5)) fun _ s6 ⟨σ6,H6,I6,q6⟩=>?_)
  refine wpAny_passesOwn hp (ba (hb _ s6 σ6 H6 _ I6 q6) fun f s7 q7=>?_)
  have again:∀ {σ7:St} {H7:Hp},Inv X (pins++lF fp s5.heap) σ7 H7 s7->N σ7 H7->∃ m,m < n/\∃ i σ' H',Inv X pins σ' H' s7/\tn i s7.heap/\(∀ b ∈ fp,H' b=none)/\W i m σ' H':=fun {σ7 H7} I7 n7=>by
   obtain⟨m',hm,w7⟩:=hN σ7 H7 n7
   refine⟨m',hm,i+1,σ7,H7,I7.jj,T.keep _ _ _ st5 fun b hb o e=>(I7.pin (b,o) (List.mem_append_right _ (List.mem_append_right _ (iW hb e)))).1,fun b hb=>?_,w7⟩
   obtain⟨o,e,d⟩:=T.obj _ _ st5 b hb
   exact (I7.pin (b,o) (List.mem_append_right _ (List.mem_append_right _ (iW hb e)))).2.1
  cases f with
  | next=>obtain⟨σ7,H7,I7,n7⟩:=q7;exact again I7 n7
  | cont=>obtain⟨σ7,H7,I7,n7⟩:=q7;exact again I7 n7
  | brk=>obtain⟨σ7,H7,I7,q7⟩:=q7;exact⟨σ7,H7,I7.jj,q7⟩
  | ret v=>obtain⟨x7,σ7,H7,I7,r7,q7⟩:=q7;exact⟨x7,σ7,H7,I7.jj,r7,q7⟩
end
theorem i7 {K:PySem.W.Frag} {a:Addr} {xs:List V} {g:TG} {tb:TS} {D:Ends} {σ : St} {H:Hp} (Pv:Nat->St->Hp->Prop) (h0:Pv 0 σ H) (hl:∀ i σ H,i<=xs.length->Pv i σ H->ay K H a xs)
  (hs:∀ i x σ H,xs[i]? = some x->Pv i σ H->g x σ H fun σ2 H2=>tb { D with nx:=Pv (i+1),ct:=Pv (i+1),bk:=D.nx } σ2 H2) (hd:∀ σ H,Pv xs.length σ H->D.nx σ H) :
  ∃ W:Nat->Nat->St->Hp->Prop,(∃ m,W 0 m σ H)/\∀ i m σ H,W i m σ H ->
   ((uN K a).stop i H/\D.nx σ H)\/((uN K a).go i H/\∃ N:St->Hp->Prop,(∀ σ' H',N σ' H'->∃ m',m' < m/\W (i+1) m' σ' H')/\∀ x H',(uN K a).xg i H x H'->g x σ H' fun σ2 H2=>tb { D with nx:=N,ct:=N,bk:=D.nx } σ2 H2):=by
 refine⟨fun i m σ H=>m=xs.length - i/\i<=xs.length/\Pv i σ H,⟨xs.length,by simp,Nat.zero_le _,h0⟩,?_⟩
 rintro i m σ H ⟨rfl,hi,p⟩
 have q:=hl i σ H hi p
 by_cases hlt:i < xs.length
 ·refine .inr ⟨⟨xs,xs[i],q,by simp [hlt]⟩,Pv (i+1),fun σ' H' p'=>⟨xs.length - (i+1),by omega,rfl,hlt,p'⟩,fun x H' y=>?_⟩
  obtain⟨e,y⟩:=y
  subst e
  exact hs i x σ _ (y xs q) p
 ·have e:i=xs.length:=by omega
  subst e
  exact .inl ⟨⟨xs,q,Nat.le_refl _⟩,hd σ H p⟩
theorem jH {lo:Int} {n:Nat} {g:TG} {tb:TS} {D:Ends} {σ : St} {H:Hp} (Pv:Nat->St->Hp->Prop) (h0:Pv 0 σ H)
  (hs:∀ i σ H,i < n->Pv i σ H->g (.int (lo+i)) σ H fun σ2 H2=>tb { D with nx:=Pv (i+1),ct:=Pv (i+1),bk:=D.nx } σ2 H2) (hd:∀ σ H,Pv n σ H->D.nx σ H) :
  ∃ W:Nat->Nat->St->Hp->Prop,(∃ m,W 0 m σ H)/\∀ i m σ H,W i m σ H ->
   ((sD lo n).stop i H/\D.nx σ H)\/((sD lo n).go i H/\∃ N:St->Hp->Prop,(∀ σ' H',N σ' H'->∃ m',m' < m/\W (i+1) m' σ' H')/\∀ x H',(sD lo n).xg i H x H'->g x σ H' fun σ2 H2=>tb { D with nx:=N,ct:=N,bk:=D.nx } σ2 H2):=by
 refine⟨fun i m σ H=>m=n - i/\i<=n/\Pv i σ H,⟨n,by simp,Nat.zero_le _,h0⟩,?_⟩
 rintro i m σ H ⟨rfl,hi,p⟩
 by_cases hlt:i < n
 ·refine .inr ⟨hlt,Pv (i+1),fun σ' H' p'=>⟨n - (i+1),by omega,rfl,hlt,p'⟩,fun x H' y=>?_⟩
  obtain⟨e,y⟩:=y
  subst e y
  exact hs i σ _ hlt p
 ·have e:i=n:=by omega
  subst e
  exact .inl ⟨Nat.le_refl _,hd σ H p⟩
abbrev R2:=V->V->Hp->VK->Prop
def fm (X:Cx) (f:Value->Value->Sem Value) (r:R2):Prop :=
 ∀ (pins:List (Addr × Obj)) (s:Shared) (σ : St) (H:Hp) (x y:V) (v u:Value) (Q:VK),Inv X pins σ H s->RelV x v->RelV y u->r x y H Q ->
  wpAny (model X.prog X.w) X.A (f v u) (EP X pins σ Q) X.xe s
def BM (X:Cx) (f:Value->Sem Value) (r:V->Hp->VK->Prop):Prop :=
 ∀ (pins:List (Addr × Obj)) (s:Shared) (σ : St) (H:Hp) (x:V) (v:Value) (Q:VK),Inv X pins σ H s->RelV x v->r x H Q ->
  wpAny (model X.prog X.w) X.A (f v) (EP X pins σ Q) X.xe s
def eU (X:Cx) (f:Value) (r:List V->Hp->VK->Prop):Prop :=
 ∀ (pins:List (Addr × Obj)) (s:Shared) (σ : St) (H:Hp) (xs:List V) (us:List Value) (Q:VK),Inv X pins σ H s->Vals xs us->r xs H Q ->
  wpAny (model X.prog X.w) X.A (call f us) (EP X pins σ Q) X.xe s
def DI (X:Cx) (r:V->Hp->(Bool->Hp->Prop)->Prop):Prop :=
 ∀ (pins:List (Addr × Obj)) (s:Shared) (σ : St) (H:Hp) (x:V) (v:Value) (Q:Bool->Hp->Prop),Inv X pins σ H s->RelV x v->r x H Q ->
  wpAny (model X.prog X.w) X.A (truthy v) (TP X pins σ Q) X.xe s
def Ad (r:R2) (ta tb:TE):TE:=fun σ H Q=>ta σ H fun x H1=>tb σ H1 fun y H2=>r x y H2 Q
def D6 (r:V->Hp->VK->Prop) (ta:TE):TE:=fun σ H Q=>ta σ H fun x H1=>r x H1 Q
def rI (C:Int->Int->Prop) (g:Int->Int->V):R2:=fun x y H Q=>∃ i j,x=.int i/\y=.int j/\C i j/\Q (g i j) H
def sE (g:Int->Int->V):R2:=fun x y H Q=>∃ i j,x=.int i/\y=.int j/\Q (g i j) H
def rU (g:Int->V):V->Hp->VK->Prop:=fun x H Q=>∃ i,x=.int i/\Q (g i) H
section
variable {X:Cx} {a b c:Expr} {ta tb tc:TE} {pos:Pos}
theorem yP (ha:PE X a ta) (hb:PE X b tb) {pins:List (Addr × Obj)} {s:Shared} {σ : St} {H:Hp} {R:V->V->Hp->Prop} (I:Inv X pins σ H s)
  (h:ta σ H fun x H1=>tb σ H1 fun y H2=>R x y H2) {Q:Value->Shared->Prop} {f:Value->Value->Sem Value}
  (hf:∀ v u s2 x y H2,Inv X pins σ H2 s2->RelV x v->RelV y u->R x y H2->wpAny (model X.prog X.w) X.A (f v u) Q X.xe s2) :
  wpAny (model X.prog X.w) X.A (eval a X.env) (fun v s₁=>wpAny (model X.prog X.w) X.A (eval b X.env) (fun u s₂=>wpAny (model X.prog X.w) X.A (f v u) Q X.xe s₂) X.xe s₁) X.xe s:=by
 refine ba (ha pins s σ H _ I h) fun v s1 ⟨x,H1,I1,r1,q1⟩=>?_
 refine ba (hb pins s1 σ H1 _ I1 q1) fun u s2 ⟨y,H2,I2,r2,q2⟩=>?_
 exact hf v u s2 x y H2 I2 r1 r2 q2
theorem br {op:Operator} {r:R2} (ho:fm X (binaryOp op) r) (ha:PE X a ta) (hb:PE X b tb):PE X (.BinOp a op b pos) (Ad r ta tb):=by
 intro pins s σ H Q I h
 exact wpAny_BinOp (yP ha hb I h fun v u s2 x y H2 I2 rx ry q=>ho pins s2 σ H2 x y v u Q I2 rx ry q)
theorem Ae {op:UnaryOp} {r:V->Hp->VK->Prop} (ho:BM X (unaryOp op) r) (ha:PE X a ta):PE X (.UnaryOp op a pos) (D6 r ta):=by
 intro pins s σ H Q I h
 exact UnaryOp_ (ba (ha pins s σ H _ I h) fun v s1 ⟨x,H1,I1,r1,q1⟩=>ho pins s1 σ H1 x v Q I1 r1 q1)
theorem uO {f:Value->Value->Sem Value} {C:Int->Int->Prop} {g:Int->Int->Int}
  (rule:∀ (i j:Int) (t u:Tok) (s:Shared) (Q:Value->Shared->Prop) (E:Value->Shared->Prop),C i j->Q (.int (g i j) s.toks) { s with toks:=s.toks+1 }->wpAny (model X.prog X.w) X.A (f (.int i t) (.int j u)) Q E s) :
  fm X f (rI C fun i j=>.int (g i j)):=by
 intro pins s σ H x y v u Q I rx ry h
 obtain⟨i,j,rfl,rfl,hc,q⟩:=h
 obtain⟨t,rfl⟩:=rx
 obtain⟨t',rfl⟩:=ry
 exact rule i j t t' s _ _ hc ⟨.int (g i j),H,I.tok _,⟨_,rfl⟩,q⟩
theorem BN {f:Value->Value->Sem Value} {g:Int->Int->Int}
  (rule:∀ (i j:Int) (t u:Tok) (s:Shared) (Q:Value->Shared->Prop) (E:Value->Shared->Prop),Q (.int (g i j) s.toks) { s with toks:=s.toks+1 }->wpAny (model X.prog X.w) X.A (f (.int i t) (.int j u)) Q E s) :
  fm X f (sE fun i j=>.int (g i j)):=by
 intro pins s σ H x y v u Q I rx ry h
 obtain⟨i,j,rfl,rfl,q⟩:=h
 obtain⟨t,rfl⟩:=rx
 obtain⟨t',rfl⟩:=ry
 exact rule i j t t' s _ _ ⟨.int (g i j),H,I.tok _,⟨_,rfl⟩,q⟩
theorem yQ {f:Value->Value->Sem Value} {g:Int->Int->Bool}
  (rule:∀ (i j:Int) (t u:Tok) (s:Shared) (Q:Value->Shared->Prop) (E:Value->Shared->Prop),Q (.bool (g i j)) s->wpAny (model X.prog X.w) X.A (f (.int i t) (.int j u)) Q E s) :
  fm X f (sE fun i j=>.bl (g i j)):=by
 intro pins s σ H x y v u Q I rx ry h
 obtain⟨i,j,rfl,rfl,q⟩:=h
 obtain⟨t,rfl⟩:=rx
 obtain⟨t',rfl⟩:=ry
 exact rule i j t t' s _ _ ⟨.bl (g i j),H,I,rfl,q⟩
def DJ (i j:Int):Prop:=0 < j/\j < 1073741824
def DK (i j:Int):Prop:=0<=j/\j<=1000000/\i.natAbs < 2 ^ 64
def yR (i j:Int):Prop:=(-(2 ^ 64) < i/\i < 2 ^ 64)\/(-(2 ^ 64) < j/\j < 2 ^ 64)
theorem yR.ok {i j:Int} (h:yR i j):IntMulOk i j:=by
 rcases h with ⟨h1,h2⟩ | ⟨h1,h2⟩
 ·exact .of_left (intBits_le_64 h1 h2)
 ·exact .of_right (intBits_le_64 h1 h2)
theorem cV:fm X (binaryOp .Add) (sE fun i j=>.int (i+j)):=BN fun _ _ _ _ _ _ _ q=>add_int q
theorem gM:fm X (binaryOp .Sub) (sE fun i j=>.int (i - j)):=BN fun _ _ _ _ _ _ _ q=>sub_int q
theorem j3:fm X (binaryOp .Mult) (rI yR fun i j=>.int (i * j)):=uO fun _ _ _ _ _ _ _ hc q=>mul_int q hc.ok
theorem uP:fm X (binaryOp .FloorDiv) (rI DJ fun i j=>.int (i / j)):=uO fun i j _ _ _ _ _ hc q=>by
 have h1:(0:Int) < j:=hc.1
 have h2:j < 1073741824:=hc.2
 exact floordiv_int (by omega) (by rw [Int.fdiv_eq_ediv_of_nonneg i (by omega)];exact q) (.inl (PyProof.noPylong_small (by omega)))
theorem jl:fm X (binaryOp .Mod) (rI (fun _ j=>0 < j) fun i j=>.int (i % j)):=uO fun i j _ _ _ _ _ hc q=>by
 have h1:(0:Int) < j:=hc
 exact mod_int' (by omega) (by rw [Int.fmod_eq_emod_of_nonneg i (by omega)];exact q)
theorem ow:fm X (binaryOp .Pow) (rI DK fun i j=>.int (i ^ j.toNat)):=uO fun _ _ _ _ _ _ _ hc q=>pow_int_small hc.1 hc.2.1 hc.2.2 q
theorem D7 {f:Value->Sem Value} {g:Int->Int}
  (rule:∀ (i:Int) (t:Tok) (s:Shared) (Q:Value->Shared->Prop) (E:Value->Shared->Prop),Q (.int (g i) s.toks) { s with toks:=s.toks+1 }->wpAny (model X.prog X.w) X.A (f (.int i t)) Q E s) :
  BM X f (rU fun i=>.int (g i)):=by
 intro pins s σ H x v Q I rx h
 obtain⟨i,rfl,q⟩:=h
 obtain⟨t,rfl⟩:=rx
 exact rule i t s _ _ ⟨.int (g i),H,I.tok _,⟨_,rfl⟩,q⟩
theorem xj:BM X (unaryOp .USub) (rU fun i=>.int (-i)):=D7 fun _ _ _ _ _ q=>neg_int q
end
def BO:V->V->Bool
 | .bI,.bI=>true | .bI,.int _=>true | .int _,.bI=>true | .bI,.bl _=>true | .bl _,.bI=>true | .bI,.str _=>true | .str _,.bI=>true
 | .int _,.int _=>true | .bl _,.bl _=>true | .str _,.str _=>true | .j1 _,.j1 _=>true
 | .int _,.str _=>true | .str _,.int _=>true | .bl _,.str _=>true | .str _,.bl _=>true
 | _,_=>false
def D8:R2:=fun x y H Q=>BO x y=true/\Q (.bl (decide (x=y))) H
theorem uQ {i j:Int}:decide (V.int i=V.int j)=(i == j):=by
 rw [Bool.eq_iff_iff]
 simp
theorem BP {i j:Bool}:decide (V.bl i=V.bl j)=(i == j):=by
 rw [Bool.eq_iff_iff]
 simp
theorem Az {i j:Str}:decide (V.str i=V.str j)=(i == j):=by
 rw [Bool.eq_iff_iff]
 simp
theorem AA {i j:Array UInt8}:decide (V.j1 i=V.j1 j)=(i.toList == j.toList):=by
 rw [Bool.eq_iff_iff]
 cases i
 cases j
 simp
section
variable {X:Cx} {a b c:Expr} {ta tb tc:TE} {pos:Pos}
theorem eD {pins:List (Addr × Obj)} {σ : St} {H:Hp} {s:Shared} {Q:VK} {k k':Bool} (I:Inv X pins σ H s) (q:Q (.bl k) H) (e:k=k'):EP X pins σ Q (.bool k') s:=by
 subst e
 exact⟨.bl k,H,I,rfl,q⟩
theorem bR:fm X (compareOp .Eq) D8:=by
 intro pins s σ H x y v u Q I rx ry h
 obtain⟨hs,q⟩:=h
 cases x with
 | bI =>
  cases rx
  cases y with
  | bI=>cases ry;exact PySem.EqNone.eq_none_none (eD I q (by simp))
  | bl j=>cases ry;exact PySem.EqNone.eq_none_bool (eD I q (by simp))
  | int j=>obtain⟨t',rfl⟩:=ry;exact PySem.EqNone.eq_none_int (eD I q (by simp))
  | str j=>obtain⟨t',rfl⟩:=ry;exact PySem.EqNone.eq_none_str (eD I q (by simp))
  | _=>exact absurd (show false=true from hs) Bool.false_ne_true
 | bl i =>
  cases rx
  cases y with
  | bI=>cases ry;exact PySem.EqNone.eq_bool_none (eD I q (by simp))
  | bl j=>cases ry;exact eq_bool (eD I q BP)
  | str j=>obtain⟨t',rfl⟩:=ry;exact PySem.EqMixed.eq_bool_str (eD I q (by simp))
  | _=>exact absurd (show false=true from hs) Bool.false_ne_true
 | int i =>
  obtain⟨t,rfl⟩:=rx
  cases y with
  | bI=>cases ry;exact PySem.EqNone.eq_int_none (eD I q (by simp))
  | int j=>obtain⟨t',rfl⟩:=ry;exact eq_int (eD I q uQ)
  | str j=>obtain⟨t',rfl⟩:=ry;exact PySem.EqMixed.eq_int_str (eD I q (by simp))
  | _=>exact absurd (show false=true from hs) Bool.false_ne_true
 | str i =>
  obtain⟨t,rfl⟩:=rx
  cases y with
  | bI=>cases ry;exact PySem.EqNone.eq_str_none (eD I q (by simp))
  | bl j=>cases ry;exact PySem.EqMixed.eq_str_bool (eD I q (by simp))
  | int j=>obtain⟨t',rfl⟩:=ry;exact PySem.EqMixed.eq_str_int (eD I q (by simp))
  | str j=>obtain⟨t',rfl⟩:=ry;exact eq_str (eD I q Az)
  | _=>exact absurd (show false=true from hs) Bool.false_ne_true
 | j1 i =>
  obtain⟨t,rfl⟩:=rx
  cases y with
  | j1 j=>obtain⟨t',rfl⟩:=ry;exact PySem.W.eq_bytes (eD I q AA)
  | _=>exact absurd (show false=true from hs) Bool.false_ne_true
 | _=>cases y <;> exact absurd (show false=true from hs) Bool.false_ne_true
theorem gQ:fm X (compareOp .Lt) (sE fun i j=>.bl (decide (i < j))):=yQ fun _ _ _ _ _ _ _ q=>lt_int q
theorem vI:fm X (compareOp .LtE) (sE fun i j=>.bl (decide (i<=j))):=yQ fun _ _ _ _ _ _ _ q=>le_int q
theorem rW:fm X (compareOp .Gt) (sE fun i j=>.bl (decide (j < i))):=yQ fun _ _ _ _ _ _ _ q=>gt_int q
theorem aO (b:Expr) {op:CmpOp} (h:op ≠ .In:=by decide) (h2:op ≠ .NotIn:=by decide):behindInMarks op b=false:=by
 have e1:(op == CmpOp.In)=false:=by cases op <;> first | rfl | exact absurd rfl h
 have e2:(op == CmpOp.NotIn)=false:=by cases op <;> first | rfl | exact absurd rfl h2
 cases b <;> simp [behindInMarks,e1,e2]
theorem ir {op:CmpOp} {r:R2} (ho:fm X (compareOp op) r) (ha:PE X a ta) (hb:PE X b tb) (hm:behindInMarks op b=false):PE X (.Compare a [op] [b] pos) (Ad r ta tb):=by
 intro pins s σ H Q I h
 exact wpAny_Compare1 (yP ha hb I h fun v u s2 x y H2 I2 rx ry q=>ho pins s2 σ H2 x y v u Q I2 rx ry q) hm
def C1 (t:TE):TT:=fun σ H Q=>t σ H fun x H'=>∃ k,x=.bl k/\Q k H'
theorem aH {op:CmpOp} {r:R2} (ho:fm X (compareOp op) r) (ha:PE X a ta) (hb:PE X b tb) (hm:behindInMarks op b=false):PT X (.Compare a [op] [b] pos) (C1 (Ad r ta tb)):=by
 intro pins s σ H Q I h
 refine wpAny_isTrue_Compare1 (ba (ha pins s σ H _ I h) fun v s1 ⟨x,H1,I1,r1,q1⟩=>ba (hb pins s1 σ H1 _ I1 q1) fun u s2 ⟨y,H2,I2,r2,q2⟩ =>
  ba (ho pins s2 σ H2 x y v u _ I2 r1 r2 q2) fun c s3 ⟨z,H3,I3,r3,k,e,q3⟩=>?_) hm
 subst e
 cases r3
 exact wpAny_truthy_bool ⟨H3,I3,q3⟩
def BQ (K:PySem.W.Frag) (x:V) (H:Hp) (k:Bool):Prop :=
 match x with
 | .bI=>k=false
 | .bl b=>k=b
 | .int i=>k=(i != 0)
 | .str y=>y.length<=sizeLine/\k=((y.length:Int) != 0)
 | .j1 y=>y.size<=sizeLine/\k=((y.size:Int) != 0)
 | .ref p=>(∃ xs,aU K H p xs/\k = !xs.isEmpty)\/(∃ xs,ay K H p xs/\k = !xs.isEmpty)\/∃ kvs,H p=some (.dK kvs)/\k = !kvs.isEmpty
 | _=>False
theorem vJ {κ : Type} {kvs:List (κ × V)} {vs:List (κ × Value)} (r:KV kvs vs):(!vs.isEmpty) = !kvs.isEmpty:=by
 cases r <;> rfl
theorem ox {xs:List V} {its:List Value} (r:Vals xs its):(!its.toArray.isEmpty) = !xs.isEmpty:=by
 cases r <;> simp
theorem jm:(sizeLine:Nat) < 2 ^ 63:=by rw [sizeLine_eq];decide
theorem BR:DI X (fun x H Q=>∃ k,BQ X.K x H k/\Q k H):=by
 intro pins s σ H x v Q I rx h
 obtain⟨k,e,q⟩:=h
 have hl:=jm
 have hs:sizeLine=16777216:=sizeLine_eq
 cases x with
 | bI =>
  cases rx
  have e':k=false:=e
  subst e'
  exact truthy_none ⟨H,I,q⟩
 | bl b =>
  cases rx
  have e':k=b:=e
  subst e'
  exact wpAny_truthy_bool ⟨H,I,q⟩
 | int i =>
  obtain⟨t,rfl⟩:=rx
  have e':k=(i != 0):=e
  subst e'
  exact PySem.P.truthy_int ⟨H,I,q⟩
 | str y =>
  obtain⟨t,rfl⟩:=rx
  obtain⟨hy,e'⟩:y.length<=sizeLine/\k=((y.length:Int) != 0):=e
  subst e'
  exact PySem.P.truthy_str (by omega) ⟨H,I.tok _,q⟩
 | j1 y =>
  obtain⟨t,rfl⟩:=rx
  obtain⟨hy,e'⟩:y.size<=sizeLine/\k=((y.size:Int) != 0):=e
  subst e'
  exact PySem.W.truthy_bytes (by omega) ⟨H,I.tok _,q⟩
 | ref p =>
  cases rx
  have e':(∃ xs,aU X.K H p xs/\k = !xs.isEmpty)\/(∃ xs,ay X.K H p xs/\k = !xs.isEmpty)\/∃ kvs,H p=some (.dK kvs)/\k = !kvs.isEmpty:=e
  rcases e' with ⟨xs,hx,e'⟩ | ⟨xs,hx,e'⟩ | ⟨kvs,hx,e'⟩
  ·subst e'
   obtain⟨its,r,pl,hz⟩:=I.list hx
   have hlen:=r.length
   exact wpAny_truthy_list pl.isList (by simp only [List.size_toArray];omega) ⟨H,I.tok _,by rw [ox r];exact q⟩
  ·subst e'
   obtain⟨its,r,pl,hz⟩:=I.tuple hx
   have hlen:=r.length
   exact truthy_tuple pl (by simp only [List.size_toArray];omega) ⟨H,I.tok _,by rw [ox r];exact q⟩
  ·subst e'
   obtain⟨hz,hS,vs,r,m⟩:kvs.length<=sizeLine/\(p == sysModules)=false/\∃ vs,KV kvs vs/\s.heap.DictOf (aP X.prog X.w) p vs:=I.aT p _ hx
   have hlen:kvs.length=vs.length:=Paired.length r
   exact wpAny_truthy_dict hS m (by omega) ⟨H,I.tok _,by rw [vJ r];exact q⟩
 | _=>exact (show False from e).elim
theorem yS (ha:PE X a ta) (he:∀ whole,isTrue a X.env whole=(do let v <-whole;standAt a.pos;holding [v] (truthy v))) :
  PT X a (fun σ H Q=>ta σ H fun x H'=>∃ k,BQ X.K x H' k/\Q k H'):=by
 intro pins s σ H Q I h
 exact isTrue_plain (ba (ha pins s σ H _ I h) fun v s1 ⟨x,H1,I1,r1,q1⟩=>BR pins s1 σ H1 x v Q I1 r1 q1) (he _)
theorem vals1 {x:V} {us:List Value} (r:Vals [x] us):∃ u,us = [u]/\RelV x u:=by
 cases r with
 | cons r1 r2=>cases r2;exact⟨_,rfl,r1⟩
theorem vals2 {x y:V} {us:List Value} (r:Vals [x,y] us):∃ u w',us = [u,w']/\RelV x u/\RelV y w':=by
 cases r with
 | cons r1 r2 =>
  cases r2 with
  | cons r3 r4=>cases r4;exact⟨_,_,rfl,r1,r3⟩
theorem xk (hc:X.calm=true):eU X (.builtin "max") (fun xs H Q=>∃ i j,xs = [.int i,.int j]/\Q (.int (if j > i then j else i)) H):=by
 intro pins s σ H xs us Q I r h
 obtain⟨i,j,rfl,q⟩:=h
 obtain⟨u,w',rfl,⟨t,rfl⟩,⟨t',rfl⟩⟩:=vals2 r
 refine max_two_ints (I.ok.hd hc) fun h' tk k=>⟨_,H,I.kept k,?_,q⟩
 by_cases hj:j > i
 ·rw [if_pos hj,if_pos hj];exact⟨_,rfl⟩
 ·rw [if_neg hj,if_neg hj];exact⟨_,rfl⟩
theorem lG (hc:X.calm=true):eU X (.builtin "min") (fun xs H Q=>∃ i j,xs = [.int i,.int j]/\Q (.int (if j < i then j else i)) H):=by
 intro pins s σ H xs us Q I r h
 obtain⟨i,j,rfl,q⟩:=h
 obtain⟨u,w',rfl,⟨t,rfl⟩,⟨t',rfl⟩⟩:=vals2 r
 refine min_two_ints (I.ok.hd hc) fun h' tk k=>⟨_,H,I.kept k,?_,q⟩
 by_cases hj:j < i
 ·rw [if_pos hj,if_pos hj];exact⟨_,rfl⟩
 ·rw [if_neg hj,if_neg hj];exact⟨_,rfl⟩
theorem qF:eU X (.type "int") (fun xs H Q=>(∃ i,xs = [.int i]/\Q (.int i) H)\/∃ k,xs = [.bl k]/\Q (.int (if k then 1 else 0)) H):=by
 intro pins s σ H xs us Q I r h
 rcases h with ⟨i,rfl,q⟩ | ⟨k,rfl,q⟩
 ·obtain⟨u,rfl,t,rfl⟩:=vals1 r
  exact call_int_int ⟨.int i,H,I,⟨_,rfl⟩,q⟩
 ·obtain⟨u,rfl,r1⟩:=vals1 r
  cases r1
  exact call_int_bool ⟨.int (if k then 1 else 0),H,I.tok _,⟨_,rfl⟩,q⟩
end
structure nv (h:Heap) (x dx C:Addr) (mA:Str->Option Value):Prop where
 obj:h.get? x=some (PySem.W.instObj C dx)
 ns:h.Ns1 dx mA
 ne:dx ≠ x
theorem xl {h:Heap} {dx:Addr} {mA:Str->Option Value} (n:h.Ns1 dx mA):∃ od,h.get? dx=some od/\∀ name,PySem.W.lookIn name od=some (mA name):=by
 obtain⟨o,es,ep,ho,hd,hk,_,hm⟩:=n
 refine⟨o,ho,fun name=>?_⟩
 have e:=hm name
 unfold nsFind findBy at e
 rw [<-Array.find?_toList] at e
 unfold PySem.W.lookIn
 rw [hd]
 dsimp only
 split
 ·rename_i y q
  rw [q] at e
  exact congrArg some e
 ·rename_i q
  rw [q] at e
  have a:es.toList.any (·.refKey)=false:=by
   rw [List.any_eq_false]
   intro y hy
   obtain⟨z,t,hkey⟩:=hk y (Array.mem_toList_iff.mp hy)
   simp [DictEntry.refKey,hkey]
  have a':¬ es.toList.any (·.refKey)=true:=by rw [a];exact Bool.false_ne_true
  rw [if_neg a']
  exact congrArg some e
theorem nv.look {h:Heap} {x dx C:Addr} {mA:Str->Option Value} (I:nv h x dx C mA):∃ od,PySem.W.InstAt h x (PySem.W.instObj C dx) C (some od)/\∀ name,PySem.W.lookIn name od=some (mA name) :=
 let ⟨od,ho,hl⟩:=xl I.ns
 ⟨od,⟨I.obj,rfl,rfl,ho⟩,hl⟩
section
variable {prog:Program} {w:World} {A:Around} {E:Value->Shared->Prop} {s:Shared} {K:PySem.W.Frag} {x dx C f:Addr} {mA:Str->Option Value} {name:Str} {v:Value}
theorem get_map {expr:Bool} {Q:Value->Shared->Prop} (X:K.In s.heap) (I:nv s.heap x dx C mA) (hg:PySem.W.plainGet K C name=true) (hh:PySem.W.hasDictIn K C=true)
  (ha:PySem.W.findIn K (.ref C) name=some none) (hv:mA name=some v) (hv':PySem.W.handedIn v=true) (h:Q v { s with toks:=s.toks+1 }) :
  wpAny (model prog w) A (getAttr (.ref x) name expr) Q E s:=by
 obtain⟨od,J,hl⟩:=I.look
 exact PySem.W.get_value X J (PySem.W.plainGet_of hg).1 (PySem.W.findObj_own hh ha rfl (by rw [hl,hv])) hv' h
theorem yT {pl:Sem Bool} {Q:Value × List Value->Shared->Prop} (X:K.In s.heap) (I:nv s.heap x dx C mA) (hg:PySem.W.plainGet K C name=true)
  (hf:PySem.W.findIn K (.ref C) name=some (some (.ref f))) (ht:PySem.W.isFn K (.ref f)=true) (hv:mA name=none) (h:Q (.ref f,[.ref x]) s) :
  wpAny (model prog w) A (getMethod (.ref x) name pl) Q E s:=by
 obtain⟨od,J,hl⟩:=I.look
 exact PySem.W.method_fn X J (PySem.W.plainGet_of hg).1 (PySem.W.plainGet_of hg).2 hf (beq_iff_eq.mp ht) (by show (PySem.W.lookIn name od).map (·.isSome)=some false;rw [hl,hv];rfl) h
theorem AB {ns:List Str} {Q:Unit->Shared->Prop} (X:K.In s.heap) (I:nv s.heap x dx C mA)
  (hs:PySem.W.findIn K (.ref C) "__setattr__" = some (some (.builtin "object.__setattr__"))) (hp:PySem.W.plainOver K C=true) (ht:PySem.W.takerIn K C name=some none) (hh:PySem.W.hasDictIn K C=true)
  (hw:PySem.Within mA ns) (hsz:ns.length<=sizeLine)
  (h:∀ h',nv h' x dx C (fun y=>if y=name then some v else mA y)->Heap.SameBut dx s.heap h'->Q () { s with heap:=h',toks:=s.toks+2 }) :
  wpAny (model prog w) A (setAttr (.ref x) name v) Q E s:=by
 obtain⟨od,J,hl⟩:=I.look
 refine PySem.W.set_plain X J hs (PySem.W.osa_open (s:={ s with toks:=s.toks+1 }) (r:=none) X J hp ht fun b=>?_)
 obtain⟨cd,hc,hd'⟩:=PySem.W.any_some hh
 have hx:s.heap.get? x=some ⟨.ref C,some dx,.plain,#[]⟩:=I.obj
 refine wpAny_bind (wpAny_pure (wpAny_bind (wpAny_bind (wpAny_loadPart hx (wpAny_bind (PySem.W.Looks.here (s:={ s with toks:=s.toks+1 }) (PySem.W.looks_clsIn X hc) ?_))))))
 rw [hd']
 refine wpAny_pure (a:=some dx) (wpAny_bind (wpAny_pure (wpAny_bind ?_)))
 refine wpAny_nsSet1 (s:={ s with toks:=s.toks+1 }) I.ns fun h' hn2 hs2=>?_
 obtain⟨oD,esD,epD,hoD,hdD,hcD⟩:=hn2.count (PySem.Within.cons name v hw)
 refine wpAny_bind (wpAny_lookBehind hoD (by rw [hdD];exact pastItsLine_dict (Nat.le_trans hcD (by rw [List.length_cons];omega))) ?_)
 exact wpAny_pure (h _ ⟨(hs2.2 _ (Ne.symm I.ne)).trans I.obj,hn2,I.ne⟩ hs2)
theorem yU {R:Result->Shared->Prop} {vs:List Value} {kw:List (Str × Value)} (X:K.In s.heap) (hm:PySem.W.makesIn K C=true)
  (hi:PySem.W.findIn K (.ref C) "__init__" = some (some (.ref f))) (hf:PySem.W.typeIn K (.ref f)=some (.type "function"))
  (h:codeAny (model prog w) (A.under (.builtin "type.__call__" ⟨.ref C :: vs,kw⟩)) (.call (.ref f) ⟨.ref (s.heap.objs.size+1) :: vs,kw⟩) (PySem.W.InitBack (s.heap.objs.size+1) R)
   { s with heap:=(s.heap.push PySem.W.emptyDict).push (PySem.W.instObj C s.heap.objs.size) }) :
  codeAny (model prog w) A (.call (.ref C) ⟨vs,kw⟩) R s:=by
 obtain⟨hh,g,d,t,os⟩:=s
 exact PySem.W.make_core (PySem.W.makes_of X hm) (PySem.W.looks_findIn X hi) (fun self=>PySem.W.bind_fn X self hf) (.inl rfl) h
end
def cu (f:Str) (v:V):List (Str × V)->List (Str × V)
 | []=>[(f,v)]
 | (g,x) :: r=>if g=f then (g,v) :: r else (g,x) :: cu f v r
theorem mY (f g:Str) (v:V):∀ fs:List (Str × V),(cu f v fs).lookup g=if g=f then some v else fs.lookup g
 | []=>by
  show List.lookup g [(f,v)] = _
  by_cases h:g=f
  ·have hb:(g == f)=true:=beq_iff_eq.mpr h
   simp only [List.lookup,hb,if_pos h]
  ·have hb:(g == f)=false:=beq_eq_false_iff_ne.mpr h
   simp only [List.lookup,hb,if_neg h]
 | (k,x) :: r=>by
  have ih:=mY f g v r
  rw [show cu f v ((k,x) :: r)=(if k=f then (k,v) :: r else (k,x) :: cu f v r) from rfl]
  by_cases hk:k=f
  ·rw [if_pos hk]
   by_cases h:g=k
   ·have hb:(g == k)=true:=beq_iff_eq.mpr h
    simp only [List.lookup,hb,if_pos (h.trans hk)]
   ·have hb:(g == k)=false:=beq_eq_false_iff_ne.mpr h
    simp only [List.lookup,hb,if_neg (fun e:g=f=>h (e.trans hk.symm))]
  ·rw [if_neg hk]
   by_cases h:g=k
   ·have hb:(g == k)=true:=beq_iff_eq.mpr h
    simp only [List.lookup,hb,if_neg (fun e:g=f=>hk (h.symm.trans e))]
   ·have hb:(g == k)=false:=beq_eq_false_iff_ne.mpr h
    simp only [List.lookup,hb]
    exact ih
theorem lH (f:Str) (v:V):∀ fs:List (Str × V),f ∈ (cu f v fs).map (·.1)/\∀ g,g ∈ fs.map (·.1)->g ∈ (cu f v fs).map (·.1)
 | []=>⟨by simp [cu],fun g h=>by simp at h⟩
 | (k,x) :: r=>by
  obtain⟨i1,i2⟩:=lH f v r
  rw [show cu f v ((k,x) :: r)=(if k=f then (k,v) :: r else (k,x) :: cu f v r) from rfl]
  by_cases hk:k=f
  ·rw [if_pos hk]
   subst hk
   exact⟨by simp,fun g h=>by simpa using h⟩
  ·rw [if_neg hk]
   refine⟨?_,fun g h=>?_⟩
   ·rw [List.map_cons]
    exact List.mem_cons_of_mem _ i1
   ·rw [List.map_cons] at h ⊢
    rcases List.mem_cons.mp h with e | e
    ·exact List.mem_cons.mpr (.inl e)
    ·exact List.mem_cons_of_mem _ (i2 g e)
theorem mZ (f:Str) (v:V):∀ fs:List (Str × V),(cu f v fs).length<=fs.length+1
 | []=>by simp [cu]
 | (k,x) :: r=>by
  have ih:=mZ f v r
  rw [show cu f v ((k,x) :: r)=(if k=f then (k,v) :: r else (k,x) :: cu f v r) from rfl]
  by_cases hk:k=f
  ·rw [if_pos hk,List.length_cons,List.length_cons];omega
  ·rw [if_neg hk,List.length_cons,List.length_cons];omega
theorem fM.some_of {v:V} {o:Option Value} (r:fM (some v) o):∃ u,o=some u/\RelV v u:=by
 cases o with
 | none=>exact (show False from r).elim
 | some u=>exact⟨u,rfl,r⟩
theorem fM.none_of {o:Option Value} (r:fM none o):o=none:=by
 cases o with
 | none=>rfl
 | some u=>exact (show False from r).elim
theorem xm {v:V} {u:Value} (r:RelV v u):PySem.W.handedIn u=true:=by
 cases v with
 | bI=>cases (show u=Value.none from r);rfl
 | bl b=>cases (show u=Value.bool b from r);rfl
 | int i=>obtain⟨t,e⟩:=(show ∃ t,u=Value.int i t from r);cases e;rfl
 | str x=>obtain⟨t,e⟩:=(show ∃ t,u=Value.str x t from r);cases e;rfl
 | j1 b=>obtain⟨t,e⟩:=(show ∃ t,u=Value.bytes b t from r);cases e;rfl
 | w5 b=>obtain⟨t,e⟩:=(show ∃ t,u=Value.float b t from r);cases e;rfl
 | ref a=>cases (show u=Value.ref a from r);rfl
 | ty n=>cases (show u=Value.type n from r);rfl
section
variable {P:Program} {w:World} {H H':Hp} {h h':Heap} {a C dx:Addr} {fs fs':List (Str × V)}
theorem pP (aT:d8 P w H h) (e:H a=some (.ins C dx fs)):∃ mA,nv h a dx C mA/\(∀ f,fM (fs.lookup f) (mA f))/\PySem.Within mA (fs.map (·.1))/\fs.length<=1000/\H dx=some (.own a):=by
 obtain⟨d,z,ne,ob,mA,n,r,q⟩:=(show cf P w H h a (.ins C dx fs) from aT a _ e)
 exact⟨mA,⟨ob,n,ne⟩,r,q,z,d⟩
end
structure j4 (K:PySem.W.Frag) (C:Addr):Prop where
 pg:PySem.W.plainGet K C Str.empty=true
 hd:PySem.W.hasDictIn K C=true
 po:PySem.W.plainOver K C=true
 sa:PySem.W.findIn K (.ref C) "__setattr__" = some (some (.builtin "object.__setattr__"))
theorem j4.get {K:PySem.W.Frag} {C:Addr} (c:j4 K C) (f:Str):PySem.W.plainGet K C f=true:=c.pg
def dA (K:PySem.W.Frag) (C:Addr) (f:Str):Prop:=PySem.W.findIn K (.ref C) f=some none
theorem dA.C2 {K:PySem.W.Frag} {C:Addr} {f:Str} (n:dA K C f):PySem.W.takerIn K C f=some none:=by
 unfold PySem.W.takerIn
 rw [show PySem.W.findIn K (.ref C) f=some none from n]
 rfl
structure Meth (K:PySem.W.Frag) (C:Addr) (m:Str) (f:Addr):Prop where
 at_:PySem.W.findIn K (.ref C) m=some (some (.ref f))
 fn:PySem.W.isFn K (.ref f)=true
 kp:PySem.W.keepIn K (.ref f)=true
section
variable {X:Cx} {pins:List (Addr × Obj)} {σ : St} {H:Hp} {s:Shared} {a C dx:Addr} {fs:List (Str × V)} {f:Str} {v:V} {A:Around} {E:Value->Shared->Prop}
theorem oy {b:Bool} {Q:Value->Shared->Prop} (I:Inv X pins σ H s) (e:H a=some (.ins C dx fs)) (c:j4 X.K C) (n:dA X.K C f) (l:fs.lookup f=some v)
  (h:∀ u s',Inv X pins σ H s'->RelV v u->Q u s'):wpAny (model X.prog X.w) A (getAttr (.ref a) f b) Q E s:=by
 obtain⟨mA,O,r,_,_,_⟩:=pP I.aT e
 obtain⟨u,hu,ru⟩:=fM.some_of (v:=v) (o:=mA f) (by rw [<-l];exact r f)
 exact get_map I.iJ O (c.get f) c.hd n hu (xm ru) (h u _ (I.tok _) ru)
theorem oz {m:Str} {g:Addr} {pl:Sem Bool} {Q:Value × List Value->Shared->Prop} (I:Inv X pins σ H s) (e:H a=some (.ins C dx fs)) (c:j4 X.K C) (k:Meth X.K C m g) (l:fs.lookup m=none)
  (h:Q (.ref g,[.ref a]) s):wpAny (model X.prog X.w) A (getMethod (.ref a) m pl) Q E s:=by
 obtain⟨mA,O,r,_,_,_⟩:=pP I.aT e
 have hn:mA m=none:=fM.none_of (by rw [<-l];exact r m)
 exact yT I.iJ O (c.get m) k.at_ k.fn hn h
theorem oA {y:V} {u:Value} {Q:Unit->Shared->Prop} (I:Inv X pins σ H s) (e:H a=some (.ins C dx fs)) (c:j4 X.K C) (n:dA X.K C f) (hl:fs.length < 1000) (ry:RelV y u)
  (h:∀ s',Inv X pins σ (upd H a (.ins C dx (cu f y fs))) s'->Q () s'):wpAny (model X.prog X.w) A (setAttr (.ref a) f u) Q E s:=by
 obtain⟨mA,O,r,wi,_,ho⟩:=pP I.aT e
 have hz:(fs.map (·.1)).length<=sizeLine:=by rw [List.length_map,sizeLine_eq];omega
 refine AB I.iJ O c.sa c.po n.C2 c.hd wi hz fun h' O' sb=>h _ ?_
 have hd:∃ o,h'.get? dx=some o:=let ⟨o,_,_,e',_⟩:=O'.ns;⟨o,e'⟩
 refine I.write (x:=a) (e:=dx) (by rw [e];exact True.intro) (.inr ho) (fun b q hb z=>(sb.2 b hb).trans z) hd ?_
 refine⟨by rw [ai O.ne];exact ho,?_,O.ne,O'.obj,_,O'.ns,fun g=>?_,fun g hg=>?_⟩
 ·have:=mZ f y fs;omega
 ·show fM ((cu f y fs).lookup g) (if g=f then some u else mA g)
  rw [mY]
  by_cases q:g=f
  ·rw [if_pos q,if_pos q];exact ry
  ·rw [if_neg q,if_neg q];exact r g
 ·by_cases q:g=f
  ·rw [q];exact (lH f y fs).1
  ·refine (lH f y fs).2 g (wi g fun z=>hg ?_)
   show (if g=f then some u else mA g)=none
   rw [if_neg q];exact z
theorem Inv.made (I:Inv X pins σ H s):Inv X pins σ (upd (upd H s.heap.objs.size (.own (s.heap.objs.size+1))) (s.heap.objs.size+1) (.ins C s.heap.objs.size []))
  { s with heap:=(s.heap.push PySem.W.emptyDict).push (PySem.W.instObj C s.heap.objs.size) }:=by
 have e1:(s.heap.push PySem.W.emptyDict).get? s.heap.objs.size=some PySem.W.emptyDict:=Heap.get?_push_size s.heap rfl
 have e2:((s.heap.push PySem.W.emptyDict).push (PySem.W.instObj C s.heap.objs.size)).get? (s.heap.objs.size+1)=some (PySem.W.instObj C s.heap.objs.size):=by
  have:=Heap.get?_push_size (s.heap.push PySem.W.emptyDict) (o:=PySem.W.instObj C s.heap.objs.size) rfl
  rwa [Heap.size_push] at this
 have e3:(s.heap.push PySem.W.emptyDict).Ns s.heap.objs.size (fun _=>none):=⟨PySem.W.emptyDict,#[],_,e1,rfl,(fun e he=>absurd he (by simp)),fun _=>rfl⟩
 have I1:=I.laid (a:=s.heap.objs.size) (o:=.own (s.heap.objs.size+1)) (h':=s.heap.push PySem.W.emptyDict) (t':=s.toks) (fun b u q=>Heap.get?_push_of_some _ q) (Nat.le_refl _) ⟨_,e1⟩
 refine I1.laid (a:=s.heap.objs.size+1) (o:=.ins C s.heap.objs.size []) (t':=s.toks) (fun b u q=>Heap.get?_push_of_some _ q) (Nat.le_of_eq (Heap.size_push _ _)) ?_
 have ne:s.heap.objs.size ≠ s.heap.objs.size+1:=Nat.ne_of_lt (Nat.lt_succ_self _)
 refine⟨by rw [ai ne,ae],Nat.zero_le _,ne,e2,fun _=>none,(Heap.Ns1.of_empty e3).at fun o q=>Heap.get?_push_of_some _ q,fun _=>True.intro,fun y hy=>absurd rfl hy⟩
theorem AD {prog:Program} {w:World} {env:Env} {e:Expr} {f:Str} {pos:Pos} {s:Shared} {Q:Value->Shared->Prop} (hb:attributeBase e f env (eval e env)=eval e env)
  (h:wpAny (model prog w) A (eval e env) (fun o s₁=>wpAny (model prog w) A (getAttr o f true) Q E s₁) E s):wpAny (model prog w) A (eval (.Attribute e f pos) env) Q E s :=
 Attribute_any_ h (by rw [arm_eval_Attribute,hb])
end
def BS (K:PySem.W.Frag) (ta:TE) (f:Str):TE:=fun σ H Q=>ta σ H fun x H1=>∃ a C dx fs v,x=.ref a/\H1 a=some (.ins C dx fs)/\j4 K C/\dA K C f/\fs.lookup f=some v/\Q v H1
def DL (K:PySem.W.Frag) (ta tv:TE) (f:Str):TS:=fun D σ H=>tv σ H fun y H1=>ta σ H1 fun x H2=>∃ a C dx fs,x=.ref a/\H2 a=some (.ins C dx fs)/\j4 K C/\dA K C f/\fs.length < 1000 /\
 D.nx σ (upd H2 a (.ins C dx (cu f y fs)))
def BU (X:Cx) (op:Operator) (rd:V->V->Hp->VK->Prop):Prop :=
 ∀ (pins:List (Addr × Obj)) (s:Shared) (σ : St) (H:Hp) (x y:V) (u v:Value) (Q:VK),Inv X pins σ H s->RelV x u->RelV y v->rd x y H Q->wpAny (model X.prog X.w) X.A (inplaceOp op u v) (EP X pins σ Q) X.xe s
def AE (K:PySem.W.Frag) (ta tv:TE) (rd:V->V->Hp->VK->Prop) (f:Str):TS:=fun D σ H=>ta σ H fun x H1=>∃ a C dx fs v,x=.ref a/\H1 a=some (.ins C dx fs)/\j4 K C/\dA K C f/\fs.lookup f=some v /\
 tv σ H1 fun y H2=>rd v y H2 fun z H3=>∃ dx' fs',H3 a=some (.ins C dx' fs')/\fs'.length < 1000/\D.nx σ (upd H3 a (.ins C dx' (cu f z fs')))
section
variable {X:Cx} {o e value:Expr} {f:Str} {pos pos' tpos:Pos} {ta tv:TE}
theorem bK (he:PE X e ta) (hb:attributeBase e f X.env (eval e X.env)=eval e X.env):PE X (.Attribute e f pos) (BS X.K ta f):=by
 intro pins s σ H Q I h
 refine AD hb (ba (he pins s σ H _ I h) fun u s1 ⟨x,H1,I1,rx,a,C,dx,fs,v,ex,ea,c,n,l,q⟩=>?_)
 subst ex
 obtain rfl:u=Value.ref a:=rx
 exact oy I1 ea c n l fun u' s2 I2 ru=>⟨v,H1,I2,ru,q⟩
theorem fC (ha:PE X o ta) (hv:PE X value tv) (hs:swapsWith value (some (.Attribute o f pos')) pos.line X.env=pure false):PS X (.Assign [.Attribute o f pos'] value pos) (DL X.K ta tv f):=by
 intro pins s σ H D I h
 refine plainObj_wpAny_Assign_Attribute (ba (hv pins s σ H _ I h) fun u s1 ⟨y,H1,I1,ry,q⟩=>ba (ha pins s1 σ H1 _ I1 q) fun ov s2 ⟨x,H2,I2,rx,a,C,dx,fs,ex,ea,c,n,l,q2⟩=>?_) hs
 subst ex
 obtain rfl:ov=Value.ref a:=rx
 exact oA I2 ea c n l ry fun s3 I3=>⟨σ,_,I3,q2⟩
theorem qG {op:Operator} {rd:V->V->Hp->VK->Prop} (ha:PE X o ta) (hv:PE X value tv) (hop:BU X op rd):PS X (.AugAssign (.Attribute o f tpos) op value pos) (AE X.K ta tv rd f):=by
 intro pins s σ H D I h
 refine wpAny_AugAssign_AttributeAny (ba (ha pins s σ H _ I h) fun ov s1 ⟨x,H1,I1,rx,a,C,dx,fs,v,ex,ea,c,n,l,q⟩=>?_)
 subst ex
 obtain rfl:ov=Value.ref a:=rx
 refine oy I1 ea c n l fun u s2 I2 ru=>ba (hv pins s2 σ H1 _ I2 q) fun w3 s3 ⟨y,H2,I3,ry,q3⟩=>ba (hop pins s3 σ H2 v y u w3 _ I3 ru ry q3) fun w4 s4 ⟨z,H3,I4,rz,dx',fs',ea',l',q4⟩=>?_
 exact oA I4 ea' c n l' rz fun s5 I5=>⟨σ,_,I5,q4⟩
def DM:V->V->Hp->VK->Prop:=fun x y H Q=>∃ i j,x=.int i/\y=.int j/\Q (.int (i+j)) H
theorem xn:BU X .Add DM:=by
 rintro pins s σ H x y u v Q I rx ry ⟨i,j,rfl,rfl,q⟩
 obtain⟨t,rfl⟩:=(show ∃ t,u=Value.int i t from rx)
 obtain⟨t',rfl⟩:=(show ∃ t',v=Value.int j t' from ry)
 exact PyProof.Rows.iadd_int ⟨.int (i+j),H,I.tok _,⟨_,rfl⟩,q⟩
end
section
variable {X:Cx} {pins:List (Addr × Obj)} {σ : St} {H:Hp} {s:Shared} {A:Around} {E:Value->Shared->Prop} {Q:Value->Shared->Prop} {c:Value} {b:Bool}
end
structure cN (k:Nat) (A:Around):Prop where
 hd:A.handled=none
 dp:A.depth+3 * k+5 < recursionLimit
 un:A.units+16 * k+200 < cLine
theorem cN.mono {j k:Nat} {A:Around} (r:cN k A) (h:j<=k):cN j A:=⟨r.hd,by have:=r.dp;omega,by have:=r.un;omega⟩
theorem cN.deeper {k:Nat} {A:Around} (r:cN (k+1) A) (env:Env):cN k (A.deeper env) :=
 ⟨r.hd,by have:=r.dp;show A.depth+1+3 * k+5 < _;omega,by have:=r.un;show A.units+3+16 * k+200 < _;omega⟩
theorem vK {A:Around} {C:Addr} {us:List Value} {kw:List (Str × Value)}:(A.under (.builtin "type.__call__" ⟨.ref C :: us,kw⟩)).depth=A.depth+1:=by
 first | rfl | simp [Around.under,Code.weight,Code.isCreation,Code.isGuard,Code.isCaller,Code.frames,Code.isFrame,guardIds]
theorem vL {A:Around} {C:Addr} {us:List Value} {kw:List (Str × Value)}:(A.under (.builtin "type.__call__" ⟨.ref C :: us,kw⟩)).units=A.units+1:=by
 first | rfl | simp [Around.under,Code.cUnits,Code.frames,Code.isFrame]
theorem cN.make {k:Nat} {A:Around} (r:cN (k+1) A) (C:Addr) (us:List Value) (kw:List (Str × Value)):cN k (A.under (.builtin "type.__call__" ⟨.ref C :: us,kw⟩)) :=
 ⟨r.hd,by have:=r.dp;rw [vK];omega,by have:=r.un;rw [vL];omega⟩
theorem cN.depth {k:Nat} {A:Around} (r:cN k A):A.depth < recursionLimit:=by have:=r.dp;omega
theorem cN.units {k:Nat} {A:Around} (r:cN k A):A.units+64 < cLine:=by have:=r.un;omega
def sF:TA:=fun _ H Q=>Q [] H
def jI (ta:TE) (tr:TA):TA:=fun σ H Q=>ta σ H fun x H1=>tr σ H1 fun xs H2=>Q (x :: xs) H2
section
variable {X:Cx} {e:Expr} {es:List Expr} {te:TE} {t:TA} {pos:Pos}
theorem af:PA X [] sF:=fun _ _ _ _ H Q I h=>Calls.spliced_nil ⟨[],H,I,.nil,h⟩
theorem aa (ha:PE X e te) (hr:PA X es t) (hs:starEach (e :: es) X.env=(false,eval e X.env) :: starEach es X.env:=by rfl):PA X (e :: es) (jI te t):=by
 intro pos pins s σ H Q I h
 rw [hs]
 show wpAny _ _ (spliced ((false,eval e X.env) :: backTo pos (starEach es X.env))) _ _ s
 refine Calls.spliced_cons (ba (ha pins s σ H _ I h) fun u s1 ⟨x,H1,I1,r1,q1⟩=>?_)
 exact ba (hr pos pins s1 σ H1 _ I1 q1) fun us s2 ⟨xs,H2,I2,r2,q2⟩=>⟨x :: xs,H2,I2,.cons r1 r2,q2⟩
def DN (t:TA):TE:=fun σ H Q=>t σ H fun xs H1=>xs.length<=sizeLine/\∀ p,H1 p=none->Q (.ref p) (upd H1 p (.tup xs))
def DO (t:TA):TE:=fun σ H Q=>t σ H fun xs H1=>xs.length<=sizeLine/\∀ p,H1 p=none->Q (.ref p) (upd H1 p (.lst xs))
theorem bB {x1} (h:PA X es t):PE X (.Tuple es x1 pos) (DN t):=by
 intro pins s σ H Q I hq
 refine wpAny_Tuple_spliced (ba (h pos pins s σ H _ I hq) fun us s1 ⟨xs,H1,I1,r,z,q⟩=>⟨by rw [<-r.length];exact z,?_⟩)
 have hf:H1 s1.heap.objs.size=none:=I1.aT.fresh (Nat.le_refl _)
 refine⟨.ref s1.heap.objs.size,upd H1 s1.heap.objs.size (.tup xs),I1.laid (t':=s1.toks) (fun b u e=>Heap.get?_push_of_some _ e) (Nat.le_refl _) ?_,rfl,q _ hf⟩
 exact⟨z,us,r,⟨_,Heap.get?_push_size _ rfl,rfl,_,rfl,rfl⟩⟩
theorem cP (h:PA X es t):PE X (.List es pos) (DO t):=by
 intro pins s σ H Q I hq
 refine wpAny_List_spliced (ba (h pos pins s σ H _ I hq) fun us s1 ⟨xs,H1,I1,r,z,q⟩=>⟨by rw [<-r.length];exact z,?_⟩)
 have hf:H1 s1.heap.objs.size=none:=I1.aT.fresh (Nat.le_refl _)
 refine⟨.ref s1.heap.objs.size,upd H1 s1.heap.objs.size (.lst xs),I1.laid (t':=s1.toks) (fun b u e=>Heap.get?_push_of_some _ e) (Nat.le_refl _) ?_,rfl,q _ hf⟩
 exact⟨z,us,0,r,Heap.get?_push_size _ rfl⟩
end
abbrev Sp:=List V->Hp->VK->XK->Prop
abbrev lI:=List Env->Hp->Shared->XK->Value->Shared->Prop
structure ny (P:Program) (w:World) (K:PySem.W.Frag) (mg:Str->Option Value) (base:Heap) (A:Around) (outer:List Env) (s:Shared) (H:Hp):Prop where
 frames:A.frames=some outer
 mod:Mod K mg base
 bs:∀ b o,base.get? b=some o->s.heap.get? b=some o/\H b=none
 om:base.objs.size<=s.heap.objs.size
 iR:s.heap.FunFrames base outer
 so:∀ b ∈ lq outer,H b=none
 aT:d8 P w H s.heap
 bare:AllBare s.gens
def CE (outer:List Env) (P:Program) (w:World) (H:Hp) (s:Shared) (Q:VK) (u:Value) (s':Shared):Prop :=
 ∃ v H',s'.os=s.os/\AllBare s'.gens/\Un (lq outer) [] H H' s.heap s'.heap/\d8 P w H' s'.heap/\RelV v u/\Q v H'
def CR (CX:lI) (outer:List Env) (P:Program) (w:World) (H:Hp) (s:Shared) (Q:VK) (E:XK) (r:Result) (s':Shared):Prop :=
 match r with
 | .ok (.ret u)=>CE outer P w H s Q u s'
 | .ok _=>False
 | .error e=>CX outer H s E e s'
structure bc (P:Program) (w:World) (K:PySem.W.Frag) (mg:Str->Option Value) (base:Heap) (CX:lI) (k:Nat) (f:Addr) (fd:FuncData) (ps:List Str) (sp:Sp):Prop where
 len:∀ vs H Q E,sp vs H Q E->vs.length=ps.length
 run:∀ (A:Around) (outer:List Env) (s:Shared) (H:Hp) (args:Args) (us:List Value) (vs:List V) (Q:VK) (E:XK),cN k A->ny P w K mg base A outer s H->BindsTo s fd args (ps.zip us)->Vals vs us->sp vs H Q E ->
  codeAny (model P w) A (.call (.ref f) args) (CR CX outer P w H s Q E) s
theorem ny.make {P:Program} {w:World} {K:PySem.W.Frag} {mg:Str->Option Value} {base:Heap} {A:Around} {outer:List Env} {s:Shared} {H:Hp} (e:ny P w K mg base A outer s H) (C:Addr) (us:List Value) (kw:List (Str × Value)) :
  ny P w K mg base (A.under (.builtin "type.__call__" ⟨.ref C :: us,kw⟩)) outer s H:=⟨by first | exact e.frames | (simpa [Around.under,Code.envs,Code.isFrame,pushEnvs] using e.frames),e.mod,e.bs,e.om,e.iR,e.so,e.aT,e.bare⟩
section
variable {X:Cx} {pins:List (Addr × Obj)} {σ : St} {H:Hp} {s s':Shared}
theorem Inv.BW (I:Inv X pins σ H s):ny X.prog X.w X.K X.mg X.base X.A X.stack s H :=
 ⟨I.ok.frames,I.ok.mod,I.bs,Nat.le_trans I.ok.om I.sz,I.stack,I.uK,I.aT,I.bare⟩
theorem Inv.after {Q:VK} {u:Value} (I:Inv X pins σ H s) (h:CE X.stack X.prog X.w H s Q u s'):EP X pins σ Q u s':=by
 obtain⟨v,H',os,bare,un,aT,r,q⟩:=h
 obtain⟨hh,g,d,t,os'⟩:=s'
 obtain rfl:os' = s.os:=os
 exact⟨v,H',I.call (h':=hh) (g':=g) (d':=d) (t':=t) (ch:=[]) un aT bare (fun b z=>absurd z (by simp)),r,q⟩
end
def Af (sp:Sp) (dvs:List V) (E:XK) (t:TA):TE:=fun σ H Q=>t σ H fun vs H1=>sp (vs++dvs) H1 Q E
def rX (C:Addr) (m:Str) (sp:Sp) (dvs:List V) (E:XK) (ta:TE) (t:TA):TE:=fun σ H Q=>ta σ H fun x H1=>∃ a dx fs,x=.ref a/\H1 a=some (.ins C dx fs)/\fs.lookup m=none /\
 t σ H1 fun vs H2=>sp (x :: (vs++dvs)) H2 Q E
def Ag (C:Addr) (sp:Sp) (dvs:List V) (E:XK) (t:TA):TE:=fun σ H Q=>t σ H fun vs H1=>∀ x dx,H1 x=none->H1 dx=none->dx ≠ x ->
 sp (.ref x :: (vs++dvs)) (upd (upd H1 dx (.own x)) x (.ins C dx [])) (fun v H2=>v=.bI/\Q (.ref x) H2) E
def Binds (K:PySem.W.Frag) (fd:FuncData) (ps:List Str) (ds:List Value):Prop :=
 ∀ (s:Shared) (us:List Value),K.In s.heap->(us++ds).length=ps.length->BindsTo s fd ⟨us,[]⟩ (ps.zip (us++ds))
theorem Binds.all {K:PySem.W.Frag} {fd:FuncData} {ps:List Str} (h:∀ us:List Value,us.length=ps.length->bindArgs fd ⟨us,[]⟩=pure (ps.zip us)):Binds K fd ps []:=fun s us _ hl=>by
 rw [List.append_nil] at hl ⊢
 exact .of_eq (h us hl)
def Passes (CX:lI) (X:Cx) (E:XK):Prop:=∀ (pins:List (Addr × Obj)) (σ : St) (H:Hp) (s:Shared) (e:Value) (s':Shared),Inv X pins σ H s->CX X.stack H s E e s'->X.xe e s'
section
variable {X:Cx} {CX:lI} {k:Nat} {f C:Addr} {fd:FuncData} {ps:List Str} {sp:Sp} {dvs:List V} {ds:List Value} {E:XK} {x m:Str} {p pos apos:Pos} {e o:Expr} {es:List Expr} {ta:TE} {t:TA}
theorem sG {pins:List (Addr × Obj)} {σ : St} {H:Hp} {s:Shared} {Q:VK} {us:List Value} {vs:List V} (F:bc X.prog X.w X.K X.mg X.base CX k f fd ps sp) (hr:cN k X.A) (hb:Binds X.K fd ps ds) (hd:Vals dvs ds) (hx:Passes CX X E)
  (I:Inv X pins σ H s) (r:Vals vs us) (h:sp (vs++dvs) H Q E):wpAny (model X.prog X.w) X.A (call (.ref f) us) (EP X pins σ Q) X.xe s:=by
 have r2:Vals (vs++dvs) (us++ds):=r.append hd
 have hl:(us++ds).length=ps.length:=by rw [<-r2.length];exact F.len _ _ _ _ h
 refine wpAny_call (codeAny_mono (F.run X.A X.stack s H ⟨us,[]⟩ (us++ds) (vs++dvs) Q E hr I.BW (hb s us I.iJ hl) r2 h) fun r s' hq=>?_)
 cases r with
 | error e=>exact hx pins σ H s e s' I hq
 | ok fl =>
  cases fl with
  | ret u=>exact I.after hq
  | next=>exact False.elim hq
  | brk=>exact False.elim hq
  | cont=>exact False.elim hq
theorem AF (F:bc X.prog X.w X.K X.mg X.base CX k f fd ps sp) (hr:cN k X.A) (hg:Gl X x) (hm:X.mg x=some (.ref f)) (hk:PySem.W.keepIn X.K (.ref f)=true) (hb:Binds X.K fd ps ds) (hd:Vals dvs ds) (hx:Passes CX X E)
  (ha:PA X (e :: es) t) (hdb:(x == ("__debug__" : Str))=false:=by decide) (he:starEach (e :: es) X.env=(false,eval e X.env) :: starEach es X.env:=by rfl) (hpl:(backTo pos (starEach es X.env)).any (·.1)=false:=by rfl) :
  PE X (.Call (.Name x p) (e :: es) [] pos) (Af sp dvs E t):=by
 intro pins s σ H Q I h
 refine wpAny_Call_Name_kw (pL I hg hm ?_ hdb)
 refine PySem.W.callWith_K (h₀:=X.base) I.ok.mod.j2 hk (ba (ha pos pins s σ H _ I h) fun us s1 ⟨vs,H1,I1,r,q⟩=>⟨I1.iJ,?_⟩) he hpl
 exact sG F hr hb hd hx I1 r q
theorem AG {pl:Sem Bool} (he:PE X o ta) (c:j4 X.K C) (hm:Meth X.K C m f) (F:bc X.prog X.w X.K X.mg X.base CX k f fd ps sp) (hr:cN k X.A) (hb:Binds X.K fd ps ds) (hd:Vals dvs ds) (hx:Passes CX X E) (ha:PA X (e :: es) t)
  (hst:starEach (e :: es) X.env=(false,eval e X.env) :: starEach es X.env:=by rfl) (hpl:(backTo pos (starEach es X.env)).any (·.1)=false:=by rfl)
  (ht:eval (.Call (.Attribute o m apos) (e :: es) [] pos) X.env=(do
   let ov <-eval o X.env
   standAt apos.atName
   let (f,first) <-holding [ov] (getMethod ov m pl)
   callWith pos f first (backTo pos (starEach (e :: es) X.env)) (backToKw pos (keywordEach [] X.env))):=by rfl) :
  PE X (.Call (.Attribute o m apos) (e :: es) [] pos) (rX C m sp dvs E ta t):=by
 intro pins s σ H Q I h
 refine PySem.W.methodCall_KW (pl:=pl) (ba (he pins s σ H _ I h) fun u s1 ⟨x,H1,I1,rx,a,dx,fs,ex,ea,l,q⟩=>?_) ht
 subst ex
 obtain rfl:u=Value.ref a:=rx
 refine oz I1 ea c hm l ?_
 refine PySem.W.callWith_K (first:=[.ref a]) (h₀:=X.base) I.ok.mod.j2 hm.kp (ba (ha pos pins s1 σ H1 _ I1 q) fun us s2 ⟨vs,H2,I2,r,q2⟩=>⟨I2.iJ,?_⟩) hst hpl
 exact sG (us:=.ref a :: us) (vs:=.ref a :: vs) F hr hb hd hx I2 (.cons rfl r) q2
theorem yV {pl:Sem Bool} (he:PE X o ta) (c:j4 X.K C) (hm:Meth X.K C m f) (F:bc X.prog X.w X.K X.mg X.base CX k f fd ps sp) (hr:cN k X.A) (hb:Binds X.K fd ps ds) (hd:Vals dvs ds) (hx:Passes CX X E)
  (ht:eval (.Call (.Attribute o m apos) [] [] pos) X.env=(do
   let ov <-eval o X.env
   standAt apos.atName
   let (f,first) <-holding [ov] (getMethod ov m pl)
   callWith pos f first (backTo pos (starEach [] X.env)) (backToKw pos (keywordEach [] X.env))):=by rfl) :
  PE X (.Call (.Attribute o m apos) [] [] pos) (rX C m sp dvs E ta sF):=by
 intro pins s σ H Q I h
 refine PySem.W.methodCall_KW (pl:=pl) (ba (he pins s σ H _ I h) fun u s1 ⟨x,H1,I1,rx,a,dx,fs,ex,ea,l,q⟩=>?_) ht
 subst ex
 obtain rfl:u=Value.ref a:=rx
 refine oz I1 ea c hm l ?_
 exact PySem.W.callWith_K0 (first:=[.ref a]) I1.iJ hm.kp (sG (us:=[.ref a]) (vs:=[.ref a]) F hr hb hd hx I1 (.cons rfl .nil) q)
structure Mk (K:PySem.W.Frag) (C f:Addr):Prop where
 makes:PySem.W.makesIn K C=true
 init:PySem.W.findIn K (.ref C) "__init__" = some (some (.ref f))
 fn:PySem.W.isFn K (.ref f)=true
 kp:PySem.W.keepIn K (.ref C)=true
theorem yW {pins:List (Addr × Obj)} {σ : St} {H:Hp} {s:Shared} {Q:VK} {us:List Value} {vs:List V} (M:Mk X.K C f) (F:bc X.prog X.w X.K X.mg X.base CX k f fd ps sp) (hr:cN (k+1) X.A) (hb:Binds X.K fd ps ds) (hd:Vals dvs ds)
  (hx:Passes CX X E) (I:Inv X pins σ H s) (r:Vals vs us)
  (h:∀ x dx,H x=none->H dx=none->dx ≠ x->sp (.ref x :: (vs++dvs)) (upd (upd H dx (.own x)) x (.ins C dx [])) (fun v H2=>v=.bI/\Q (.ref x) H2) E) :
  wpAny (model X.prog X.w) X.A (call (.ref C) us) (EP X pins σ Q) X.xe s:=by
 have hq:=h (s.heap.objs.size+1) s.heap.objs.size (I.aT.fresh (Nat.le_succ _)) (I.aT.fresh (Nat.le_refl _)) (Nat.ne_of_lt (Nat.lt_succ_self _))
 have I2:=Inv.made (C:=C) I
 have r2:Vals (V.ref (s.heap.objs.size+1) :: (vs++dvs)) (Value.ref (s.heap.objs.size+1) :: (us++ds)):=.cons rfl (r.append hd)
 have hl:(Value.ref (s.heap.objs.size+1) :: us++ds).length=ps.length:=by
  have e:=r2.length
  rw [F.len _ _ _ _ hq] at e
  exact e.symm
 refine wpAny_call (yU (f:=f) I.iJ M.makes M.init (beq_iff_eq.mp M.fn) (codeAny_mono (F.run _ X.stack _ _ ⟨Value.ref (s.heap.objs.size+1) :: us,[]⟩ (Value.ref (s.heap.objs.size+1) :: (us++ds)) _ _ E (hr.make C us [])
  (I2.BW.make C us []) (hb _ (Value.ref (s.heap.objs.size+1) :: us) I2.iJ hl) r2 hq) fun r s' hq'=>?_))
 cases r with
 | error e=>exact hx pins σ _ _ e s' I2 hq'
 | ok fl =>
  cases fl with
  | ret u =>
   obtain⟨v,H',I3,rv,ev,q3⟩:=I2.after hq'
   subst ev
   exact⟨rv,⟨V.ref (s.heap.objs.size+1),H',I3,rfl,q3⟩⟩
  | next=>exact False.elim hq'
  | brk=>exact False.elim hq'
  | cont=>exact False.elim hq'
theorem AH (M:Mk X.K C f) (F:bc X.prog X.w X.K X.mg X.base CX k f fd ps sp) (hr:cN (k+1) X.A) (hg:Gl X x) (hm:X.mg x=some (.ref C)) (hb:Binds X.K fd ps ds) (hd:Vals dvs ds) (hx:Passes CX X E)
  (ha:PA X (e :: es) t) (hdb:(x == ("__debug__" : Str))=false:=by decide) (he:starEach (e :: es) X.env=(false,eval e X.env) :: starEach es X.env:=by rfl) (hpl:(backTo pos (starEach es X.env)).any (·.1)=false:=by rfl) :
  PE X (.Call (.Name x p) (e :: es) [] pos) (Ag C sp dvs E t):=by
 intro pins s σ H Q I h
 refine wpAny_Call_Name_kw (pL I hg hm ?_ hdb)
 refine PySem.W.callWith_K (h₀:=X.base) I.ok.mod.j2 M.kp (ba (ha pos pins s σ H _ I h) fun us s1 ⟨vs,H1,I1,r,q⟩=>⟨I1.iJ,?_⟩) he hpl
 exact yW M F hr hb hd hx I1 r q
end
section
variable {X:Cx} {CX:lI} {k:Nat} {f C:Addr} {fd:FuncData} {ps ks:List Str} {sp:Sp} {E:XK} {x m:Str} {p pos apos kpos:Pos} {e o:Expr} {es:List Expr} {kws:List Keyword} {te ta:TE} {t tk:TA} {nm:Option Str}
variable {g:List Value->List Value->List Value} {gV:List V->List V->List V}
end
structure aL (N P:List Str) (sc:Scope):Prop where
 kind:sc.kind=.function
 co:sc.isCoroutine=false
 gen:sc.isGenerator=false
 nd:N.Nodup
 pre:N.take P.length=P
 par:∀ x ∈ P,sc.names.lookup x=some .local\/sc.names.lookup x=some .cell
 BX:∀ y ∈ sc.names,y.2 ≠ .free
theorem qH {kindOf:Str->Option NameKind} {x:Str}:∀ {binds:List (Str × Value)} {m:Str->Option Value},(∀ v,(x,v) ∉ binds)->bindL kindOf binds m x=m x
 | [],_,_=>rfl
 | (n,v) :: r,m,h=>by
  unfold bindL
  rw [qH fun w hw=>h w (List.mem_cons_of_mem _ hw)]
  split
  ·have:x ≠ n:=by rintro rfl;exact h v List.mem_cons_self
   simp [this]
  ·rfl
theorem qI {kindOf:Str->Option NameKind} {x:Str}:∀ {binds:List (Str × Value)} {m:Str->Option Value},(∀ v,(x,v) ∉ binds)->bindC kindOf binds m x=m x
 | [],_,_=>rfl
 | (n,v) :: r,m,h=>by
  unfold bindC
  rw [qI fun w hw=>h w (List.mem_cons_of_mem _ hw)]
  split
  ·rfl
  ·have:x ≠ n:=by rintro rfl;exact h v List.mem_cons_self
   simp [this]
theorem qJ {kindOf:Str->Option NameKind} {x:Str} {v:Value}:∀ {P:List Str} {vs:List Value} {i:Nat} {m:Str->Option Value},P.Nodup->P[i]? = some x->vs[i]? = some v->kindOf x=some .local ->
  bindL kindOf (P.zip vs) m x=some v
 | [],_,_,_,_,h,_,_=>by simp at h
 | _ :: _,[],_,_,_,_,h,_=>by simp at h
 | p :: P,w :: vs,0,m,nd,h1,h2,hk=>by
  simp at h1 h2;subst h1;subst h2
  show bindL kindOf ((p,w) :: P.zip vs) m p=_
  unfold bindL
  rw [qH fun v hv=>(List.nodup_cons.mp nd).1 (List.of_mem_zip hv).1,if_pos hk]
  simp
 | p :: P,w :: vs,i+1,m,nd,h1,h2,hk=>by
  show bindL kindOf ((p,w) :: P.zip vs) m x=_
  unfold bindL
  exact qJ (i:=i) (List.nodup_cons.mp nd).2 (by simpa using h1) (by simpa using h2) hk
theorem qK {kindOf:Str->Option NameKind} {x:Str} {v:Value}:∀ {P:List Str} {vs:List Value} {i:Nat} {m:Str->Option Value},P.Nodup->P[i]? = some x->vs[i]? = some v->kindOf x ≠ some .local ->
  bindC kindOf (P.zip vs) m x=some v
 | [],_,_,_,_,h,_,_=>by simp at h
 | _ :: _,[],_,_,_,_,h,_=>by simp at h
 | p :: P,w :: vs,0,m,nd,h1,h2,hk=>by
  simp at h1 h2;subst h1;subst h2
  show bindC kindOf ((p,w) :: P.zip vs) m p=_
  unfold bindC
  rw [qI fun v hv=>(List.nodup_cons.mp nd).1 (List.of_mem_zip hv).1,if_neg hk]
  simp
 | p :: P,w :: vs,i+1,m,nd,h1,h2,hk=>by
  show bindC kindOf ((p,w) :: P.zip vs) m x=_
  unfold bindC
  exact qK (i:=i) (List.nodup_cons.mp nd).2 (by simpa using h1) (by simpa using h2) hk
def start (N:List Str) (vs:List V):St:=vs.map some++List.replicate (N.length - vs.length) none
def nz (CX:lI) (P:Program) (w:World) (K:PySem.W.Frag) (mg:Str->Option Value) (base:Heap) (N:List Str) (qual:Str) (scope:Scope) (f:Addr) (cd:Value) (A:Around) (outer:List Env) (s:Shared) (H:Hp) (E:XK):Cx where
 prog:=P
 w:=w
 K:=K
 mg:=mg
 base:=base
 A:=A.deeper (envOfC qual scope s.heap.objs.size f cd)
 N:=N
 eC:=s
 si:=H
 env:=envOfC qual scope s.heap.objs.size f cd
 outer:=outer
 stack:=envOfC qual scope s.heap.objs.size f cd :: outer
 ex:=[]
 calm:=true
 fn:=fun _=>true
 pn:=[]
 xe:=fun e s'=>wpAny (model P w) (A.deeper (envOfC qual scope s.heap.objs.size f cd)) (leaving (envOfC qual scope s.heap.objs.size f cd) e) (fun _ s''=>CX outer H s E e s'') (fun e' s''=>CX outer H s E e' s'') s'
theorem sH {sc:Scope} {n:Nat} {x:Str} (h:sc.names.lookup x=some .cell):∃ c,(cellsFrom n sc.names []).lookup x=some c:=by
 have q:=PySem.W.cellsFrom_some sc.names n [] (.inl h)
 exact Option.isSome_iff_exists.mp q
theorem xo {CX:lI} {P:Program} {w:World} {K:PySem.W.Frag} {mg:Str->Option Value} {base:Heap} {N ps:List Str} {qual:Str} {scope:Scope} {f:Addr} {cd:Value} {A:Around} {outer:List Env} {s s1:Shared} {H:Hp} {E:XK} {us:List Value} {vs:List V}
  (S:aL N ps scope) (hd:A.handled=none) (e0:ny P w K mg base A outer s H) (hl:vs.length=ps.length) (r:Vals vs us)
  (x:InCallC s s.heap.objs.size (bindL (envOfC qual scope s.heap.objs.size f cd).kindOf (ps.zip us) fun _=>none) (cellsFrom (s.heap.objs.size+1) scope.names []) (bindC (envOfC qual scope s.heap.objs.size f cd).kindOf (ps.zip us) fun _=>none) s1) :
  Inv (nz CX P w K mg base N qual scope f cd A outer s H E) [] (start N vs) H s1:=by
 have hpl:ps.length<=N.length:=by have:=congrArg List.length S.pre;rw [List.length_take] at this;omega
 obtain⟨h1,tk,rfl,hk⟩:=x.done
 have noA:∀ b:Addr,b ∉ (nz CX P w K mg base N qual scope f cd A outer s H E).ex:=fun b z=>absurd (show b ∈ ([]:List Addr) from z) (by simp)
 refine⟨⟨e0.mod,S.kind,rfl,rfl,Nat.le_refl _,fun y z c h1 h2=>?_,fun y hy=>?_,fun y c _ h=>?_,fun _=>hd,Around.frames_deeper e0.frames,.inr ⟨rfl,rfl⟩,fun b z=>absurd z (noA b),e0.bs,e0.om,fun b _ _=>noA b,fun b z=>absurd z (noA b),e0.iR,e0.so⟩,
  rfl,e0.bare,Un.kept hk,⟨_,x.toInCall.ns,fun i y v h1 h2 h3=>?_⟩,fun y c h=>⟨_,x.cell y c h⟩,e0.aT.fresh (Nat.le_refl _),fun y c h=>?_,fun p hp=>absurd (show p ∈ ([]:List (Addr × Obj)) from hp) (by simp),e0.aT.kept hk,?_⟩
 ·exact name_of_addr x.apart (PySem.mem_of_lookup h1) (PySem.mem_of_lookup h2)
 ·have hy:scope.names.lookup y=some .cell\/scope.names.lookup y=some .free:=hy
  rcases hy with hy | hy
  ·exact sH hy
  ·exact absurd rfl (S.BX _ (PySem.mem_of_lookup hy))
 ·exact Nat.le_of_lt (x.above y c (PySem.mem_of_lookup h))
 ·have hi:i < vs.length:=by
   unfold start at h2
   by_cases hi:i < vs.length
   ·exact hi
   ·rw [List.getElem?_append_right (by simpa using hi)] at h2
    rw [List.getElem?_replicate] at h2
    split at h2 <;> cases h2
  have ha:vs[i]? = some v:=by
   unfold start at h2
   rw [List.getElem?_append_left (by simpa using hi),List.getElem?_map] at h2
   cases e:vs[i]? with
   | none=>rw [e] at h2;cases h2
   | some a=>rw [e] at h2;cases h2;rfl
  obtain⟨u,hu,rv⟩:=r.get ha
  have hp:ps[i]? = some y:=by
   rw [<-S.pre,List.getElem?_take_of_lt (by omega)];exact h1
  have ndP:ps.Nodup:=by rw [<-S.pre];exact S.nd.sublist (List.take_sublist _ _)
  refine⟨u,rv,?_⟩
  rcases S.par y (List.mem_of_getElem? hp) with k | k
  ·exact .inl ⟨k,qJ ndP hp hu k⟩
  ·obtain⟨c,e⟩:=sH (n:=s.heap.objs.size+1) k
   refine .inr ⟨.inl k,c,e,?_⟩
   have q:=x.cell y c e
   rw [qK ndP hp hu (by show scope.names.lookup y ≠ _;rw [k];decide)] at q
   exact q
 ·exact e0.aT.fresh (Nat.le_of_lt (x.above y c (PySem.mem_of_lookup h)))
 ·unfold start
  show _=N.length
  rw [List.length_append,List.length_map,List.length_replicate]
  omega
theorem Ah {CX:lI} {P:Program} {w:World} {K:PySem.W.Frag} {mg:Str->Option Value} {base:Heap} {k:Nat} {f:Addr} {name qual:Str} {params:Arguments} {body:List Stmt} {scope:Scope} {dV kV doc pm cdv ct oc:Value} {an od:Option Addr}
  {osl:Array (Option Value)} {N ps:List Str} {sp:Sp} (lk:K.lookup f=some ⟨oc,od,.func (PySem.W.fnOf name qual params body scope dV kV doc pm an cdv ct),osl⟩) (hcd:PySem.W.codeIn K cdv qual=true) (S:aL N ps scope)
  (len:∀ vs H Q E,sp vs H Q E->vs.length=ps.length)
  (hbody:∀ (A:Around) (outer:List Env) (s:Shared) (H:Hp) (vs:List V) (Q:VK) (E:XK),cN k (A.deeper (envOfC qual scope s.heap.objs.size f cdv))->sp vs H Q E ->
   ∃ t,jG (nz CX P w K mg base N qual scope f cdv A outer s H E) body t/\t { nx:=fun _ H'=>Q .bI H',rt:=Q } (start N vs) H) :
  bc P w K mg base CX (k+1) f (PySem.W.fnOf name qual params body scope dV kV doc pm an cdv ct) ps sp:=by
 refine⟨len,fun A outer s H args us vs Q E hr e0 hb r hsp=>?_⟩
 have hl:=len _ _ _ _ hsp
 have KX:K.In s.heap:=e0.mod.j2.keeps fun b o e=>(e0.bs b o e).1
 have lim:s.heap.NoLimit:=e0.mod.nolimit.keeps fun b o e=>(e0.bs b o e).1
 have hkind:∀ y ∈ ps.zip us,scope.names.lookup y.1=some .local\/(scope.names.lookup y.1=some .cell/\((cellsFrom (s.heap.objs.size+1) scope.names []).lookup y.1).isSome=true):=fun ⟨n,v⟩ hy=>by
  rcases S.par n (List.of_mem_zip hy).1 with q | q
  ·exact .inl q
  ·exact .inr ⟨q,PySem.W.cellsFrom_some _ _ _ (.inl q)⟩
 refine codeAny_call_function hr.depth (KX _ _ lk) rfl S.co S.gen rfl (PySem.W.codeRec_of KX hcd) (hb _ _ _ _ ?_)
 refine wpAny_newFunctionEnv_cells S.kind hkind fun env he s1 x=>?_
 subst he
 refine⟨lim.keeps x.toInCall.keep,codeAny_func ?_⟩
 obtain⟨t,ht,hq⟩:=hbody A outer s H vs Q E (hr.deeper _) hsp
 have I:Inv (nz CX P w K mg base N qual scope f cdv A outer s H E) [] (start N vs) H s1:=xo S hr.hd e0 hl r x
 refine wpAny_mono (ht [] s1 (start N vs) H _ I hq) (fun fl s' hs=>?_) fun e s' hs=>hs
 have fin:∀ {σ':St} {H':Hp} {v:V} {u:Value},Inv (nz CX P w K mg base N qual scope f cdv A outer s H E) [] σ' H' s'->RelV v u->Q v H'->CE outer P w H s Q u s' :=
  fun {σ' H' v u} J rv q=>⟨v,H',J.os,J.bare,J.base,J.aT,rv,q⟩
 cases fl with
 | ret u =>
  obtain⟨v,σ',H',J,rv,q⟩:=hs
  exact fin J rv q
 | next =>
  obtain⟨σ',H',J,q⟩:=hs
  exact fin (v:=V.bI) (u:=Value.none) J rfl q
 | brk =>
  obtain⟨_,_,_,q⟩:=hs
  exact False.elim q
 | cont =>
  obtain⟨_,_,_,q⟩:=hs
  exact False.elim q
section
variable {X:Cx} {x:Str} {p pos:Pos} {e:Expr} {es:List Expr} {t:TA} {id T:String} {r:List V->Hp->VK->Prop}
def BY (r:List V->Hp->VK->Prop) (t:TA):TE:=fun σ H Q=>t σ H fun vs H1=>r vs H1 Q
theorem bC (hc:eU X (.builtin id) r) (hg:Gl X x) (hm:X.mg x=none) (hv:bootBuiltins x=some (.builtin id)) (ha:PA X (e :: es) t) (hn:x ≠ "__name__" := by decide) (hdb:(x == ("__debug__" : Str))=false:=by decide)
  (he:starEach (e :: es) X.env=(false,eval e X.env) :: starEach es X.env:=by rfl) (hpl:(backTo pos (starEach es X.env)).any (·.1)=false:=by rfl):PE X (.Call (.Name x p) (e :: es) [] pos) (BY r t):=by
 intro pins s σ H Q I h
 refine wpAny_Call_Name_kw (lr I hg hm hv ?_ hn hdb)
 exact PyProof.Rows.callWith_builtin1 (ba (ha pos pins s σ H _ I h) fun us s1 ⟨vs,H1,I1,r1,q1⟩=>hc pins s1 σ H1 vs us Q I1 r1 q1) he hpl
theorem bg (hc:eU X (.type T) r) (hg:Gl X x) (hm:X.mg x=none) (hv:bootBuiltins x=some (.type T)) (ha:PA X (e :: es) t) (hn:x ≠ "__name__" := by decide) (hdb:(x == ("__debug__" : Str))=false:=by decide)
  (he:starEach (e :: es) X.env=(false,eval e X.env) :: starEach es X.env:=by rfl) (hpl:(backTo pos (starEach es X.env)).any (·.1)=false:=by rfl):PE X (.Call (.Name x p) (e :: es) [] pos) (BY r t):=by
 intro pins s σ H Q I h
 refine wpAny_Call_Name_kw (lr I hg hm hv ?_ hn hdb)
 exact PyProof.Rows.callWith_type1 (ba (ha pos pins s σ H _ I h) fun us s1 ⟨vs,H1,I1,r1,q1⟩=>hc pins s1 σ H1 vs us Q I1 r1 q1) he hpl
theorem vM (hc:eU X (.type T) r) (hg:Gl X x) (hm:X.mg x=none) (hv:bootBuiltins x=some (.type T)) (hn:x ≠ "__name__" := by decide) (hdb:(x == ("__debug__" : Str))=false:=by decide) :
  PE X (.Call (.Name x p) [] [] pos) (BY r sF):=by
 intro pins s σ H Q I h
 refine wpAny_Call_Name_kw (lr I hg hm hv ?_ hn hdb)
 exact PyProof.Rows.callWith_type0 (hc pins s σ H [] [] Q I .nil h)
end
end L2
namespace HT
open PySem PyProof.Rows
section
open PySem.SeqAt
open PySem.AutoSeq1 (wpAny_loadPart')
open PySem.MeetsSeq PySem.MeetsSeq2 PySem.MeetsSeq3
end
section
variable {prog:Program} {w:World} {A:Around} {E:Value->Shared->Prop} {s:Shared}
theorem AI {t b:Addr} {vs ws:List Value} {Q:Value->Shared->Prop} (ht:IsTup s.heap t vs.toArray) (hb:IsTup s.heap b ws.toArray) (hv:vs ≠ [])
  (h1:ws = []->Q (.ref t) s) (h2:ws ≠ []->Q (.ref s.heap.objs.size) { s with heap:=s.heap.push { cls:=.type "tuple",data:=.seq (vs++ws).toArray } })
  (hsz:vs.length+ws.length<=sizeLine):wpAny (model prog w) A (binaryOp .Add (.ref t) (.ref b)) Q E s:=by
 obtain⟨⟨cls,dd,data,sl⟩,ho,hc,n,hd⟩:=id ht
 obtain⟨⟨cls2,dd2,data2,sl2⟩,ho2,hc2,n2,hd2⟩:=id hb
 simp only at hc hd hc2 hd2
 subst hc hd hc2 hd2
 have e:vs.toArray++ws.toArray=(vs++ws).toArray:=by simp
 by_cases hw:ws = []
 ·exact concat_meets ⟨_,ho,rfl⟩ ⟨_,ho2,rfl⟩ noFill_tuple_add seq_tuple_add PySem.F.slot_tuple_add PySem.F.entry_tuple_add (PySem.F.args_tuple_add_2 _ _)
   (tuple_addW1 t b vs.toArray ws.toArray n n2 dd dd2 sl sl2 (by simpa using hv) (by simp [hw])) ⟨ho,ho2,h1 hw⟩
 ·refine concat_meets ⟨_,ho,rfl⟩ ⟨_,ho2,rfl⟩ noFill_tuple_add seq_tuple_add PySem.F.slot_tuple_add PySem.F.entry_tuple_add (PySem.F.args_tuple_add_2 _ _)
   (tuple_addW2 t b vs.toArray ws.toArray n n2 dd dd2 sl sl2 (by simpa using hv) (by simpa using hw) (by rw [List.size_toArray,List.size_toArray];exact hsz)) ⟨ho,ho2,?_⟩
  rw [e]
  exact h2 hw
def bT (n d:Nat):Option Int->Nat
 | none=>d
 | some v=>if v < 0 then (v+(n:Int)).toNat else min v.toNat n
theorem yX (n d:Nat):bT n d none=d:=rfl
theorem AJ (n d k:Nat):bT n d (some (k:Int))=min k n:=by
 show (if (k:Int) < 0 then ((k:Int)+(n:Int)).toNat else min (k:Int).toNat n)=min k n
 rw [if_neg (by omega),Int.toNat_natCast]
theorem BZ (n d:Nat) (hd:d<=n) (o:Option Int):bT n d o<=n:=by
 cases o with
 | none=>exact hd
 | some v =>
  show (if v < 0 then (v+(n:Int)).toNat else min v.toNat n)<=n
  by_cases hv:v < 0
  ·rw [if_pos hv];omega
  ·rw [if_neg hv];exact Nat.min_le_right _ _
theorem uR (v:Int) (n d:Nat):(if v < 0 then max (v+(n:Int)) 0 else min v (n:Int))=((bT n d (some v):Nat):Int):=by
 show (if v < 0 then max (v+(n:Int)) 0 else min v (n:Int))=(((if v < 0 then (v+(n:Int)).toNat else min v.toNat n):Nat):Int)
 by_cases hv:v < 0
 ·simp only [if_pos hv];omega
 ·simp only [if_neg hv];omega
theorem vP (lo hi:Option Int) (n:Nat):Builtin.Slice.sliceAdjust lo hi 1 (n:Int)=(((bT n 0 lo:Nat):Int),((bT n n hi:Nat):Int)):=by
 have h1:¬ ((1:Int) < 0):=by omega
 unfold Builtin.Slice.sliceAdjust
 simp only [h1,if_false]
 refine Prod.ext ?_ ?_
 ·cases lo with
  | none=>rfl
  | some v=>exact uR v n 0
 ·cases hi with
  | none=>rfl
  | some v=>exact uR v n n
theorem vQ (i j:Nat):Builtin.Slice.slicePlaces (i:Int) (j:Int) 1=j - i:=by
 unfold Builtin.Slice.slicePlaces
 have h1:(1:Int) > 0:=by omega
 simp only [h1,if_true,Int.ediv_one]
 split <;> omega
theorem oB {v:Value} {o:Option Int} {Q:Option Int->Shared->Prop} (p:IsPart v o) (h:Q o s):wpAny (model prog w) A (Builtin.Slice.slicePartIndex v) Q E s:=by
 cases p with
 | none=>exact slicePart_none h
 | int i t=>exact slicePart_int h
theorem jn {sl:Addr} {vl vu:Value} {lo hi:Option Int} {n:Nat} {Q:Int × Int × Nat->Shared->Prop} (hs:s.heap.IsSliceOf sl vl vu .none) (pl:IsPart vl lo) (pu:IsPart vu hi)
  (h:Q (((bT n 0 lo:Nat):Int),1,bT n n hi - bT n 0 lo) s):wpAny (model prog w) A (Builtin.Slice.sliceApplied (.ref sl) (pure (n:Int))) Q E s:=by
 obtain⟨os,hos,hcs,hds⟩:=id hs
 unfold Builtin.Slice.sliceApplied Builtin.Slice.sliceFields
 refine wpAny_bind (wpAny_bind (wpAny_field hos hds (x:=vl) rfl (wpAny_bind (wpAny_field hos hds (x:=vu) rfl (wpAny_bind (wpAny_field hos hds (x:=.none) rfl (wpAny_pure ?_)))))))
 refine wpAny_bind (slicePart_none ?_)
 show wpAny _ _ (if ((1:Int) == 0)=true then _ else _) _ _ s
 rw [if_neg (by decide)]
 refine wpAny_bind (oB pl (wpAny_bind (oB pu (wpAny_bind (wpAny_pure ?_)))))
 show wpAny _ _ (match Builtin.Slice.sliceAdjust lo hi 1 (n:Int) with | (lo,hi)=>pure (lo,(1:Int),Builtin.Slice.slicePlaces lo hi 1)) _ _ s
 rw [vP lo hi n]
 show wpAny _ _ (pure (((bT n 0 lo:Nat):Int),(1:Int),Builtin.Slice.slicePlaces ((bT n 0 lo:Nat):Int) ((bT n n hi:Nat):Int) 1)) _ _ s
 rw [vQ]
 exact wpAny_pure h
theorem yY (xs:Array Value) (i k:Nat):((List.range k).filterMap fun (m:Nat)=>xs[((i:Int)+(m:Int) * 1).toNat]?).toArray=((xs.toList.drop i).take k).toArray:=by
 have e:(fun (m:Nat)=>xs[((i:Int)+(m:Int) * 1).toNat]?)=fun m=>xs[i+m]?:=by
  funext m
  have:((i:Int)+(m:Int) * 1).toNat=i+m:=by omega
  rw [this]
 rw [e]
 have:=pick_run xs i k
 rw [List.filterMap_map] at this
 have e2:((fun x=>xs[x]?) ∘ fun x=>i+x)=fun m=>xs[i+m]?:=rfl
 rw [e2] at this
 rw [this]
theorem mQ {t sl:Addr} {items:Array Value} {vl vu:Value} {lo hi:Option Int} {Q:Value->Shared->Prop} (ht:IsTup s.heap t items) (hs:s.heap.IsSliceOf sl vl vu .none) (pl:IsPart vl lo) (pu:IsPart vu hi)
  (hw:¬ (bT items.size 0 lo=0/\bT items.size items.size hi=items.size))
  (h:Q (.ref s.heap.objs.size) { s with heap:=s.heap.push { cls:=.type "tuple",data:=.seq ((items.toList.drop (bT items.size 0 lo)).take (bT items.size items.size hi - bT items.size 0 lo)).toArray } })
  (hsz:items.size<=sizeLine):wpAny (model prog w) A (getItem (.ref t) (.ref sl)) Q E s:=by
 have htake:sizeOk (.seq ((items.toList.drop (bT items.size 0 lo)).take (bT items.size items.size hi - bT items.size 0 lo)).toArray):=by
  show ((items.toList.drop (bT items.size 0 lo)).take (bT items.size items.size hi - bT items.size 0 lo)).toArray.size<=sizeLine
  rw [List.size_toArray,List.length_take,List.length_drop,Array.length_toList]
  omega
 have hj:bT items.size items.size hi<=items.size:=BZ _ _ (Nat.le_refl _) hi
 obtain⟨os,hos,hcs,hds⟩:=id hs
 have hTs:s.TypeIs (.ref sl) "slice" := ⟨os,hos,hcs⟩
 unfold getItem
 try with_reducible refine wpAny_holding ?_
 first | refine wpAny_bind (wpAny_pure ?_) | skip
 refine wpAny_bind (wpAny_sequenceKey ht.typeIs (by decide) ?_)
 refine wpAny_bind (wpAny_callSpecial?_slot (name:=Str.ofString "__getitem__") ht.typeIs PyProof.Rows.slot_tuple_getitem
  (wpAny_call_entry PyProof.Rows.slot_tuple_getitem ht.typeIs entry_tuple_getitem ?_ (args_tuple_getitem _ _)))
 show wpAny _ _ (Builtin.Tuple.tupleItemsOf (.ref t) >>= _) _ _ s
 refine wpAny_bind (tupleItemsOf_ ht ?_)
 refine wpAny_bind (wpAny_typeOf hTs ?_)
 rw [if_pos (by decide)]
 refine wpAny_bind (jn hs pl pu ?_)
 have hno:¬ ((((bT items.size 0 lo:Nat):Int) == 0 && (1:Int) == 1 && (bT items.size items.size hi - bT items.size 0 lo) == items.size)=true):=by
  intro q
  rw [Bool.and_eq_true,Bool.and_eq_true] at q
  have q1:((bT items.size 0 lo:Nat):Int)=0:=eq_of_beq q.1.1
  have q2:bT items.size items.size hi - bT items.size 0 lo=items.size:=eq_of_beq q.2
  exact hw ⟨by omega,by omega⟩
 show wpAny _ _ (if (((bT items.size 0 lo:Nat):Int) == 0 && (1:Int) == 1 && (bT items.size items.size hi - bT items.size 0 lo) == items.size)=true then _ else _) _ _ s
 rw [if_neg hno,yY]
 first
  | exact wpAny_bind (m:=Builtin.Tuple.tupleExact _) (wpAny_newObj_type (wpAny_pure ⟨_,rfl,wpAny_pure h⟩) htake)
  | exact wpAny_bind (m:=Builtin.Tuple.tupleExact _) (wpAny_newObj_type (wpAny_bind (wpAny_pure (wpAny_pure ⟨_,rfl,wpAny_pure h⟩))) htake)
  | exact wpAny_bind (wpAny_bind (m:=Builtin.Tuple.tupleExact _) (wpAny_newObj_type (wpAny_pure (wpAny_pure ⟨_,rfl,wpAny_pure h⟩)) htake))
  | exact wpAny_bind (wpAny_bind (m:=Builtin.Tuple.tupleExact _) (wpAny_newObj_type (wpAny_pure ⟨_,rfl,wpAny_pure h⟩) htake))
end
end HT
namespace L2
open PySem PySem.Spec PyProof.Rows
abbrev TO:=St->Hp->(Option Int->Hp->Prop)->Prop
def PO (X:Cx) (e:Option Expr) (t:TO):Prop :=
 ∀ (pins:List (Addr × Obj)) (s:Shared) (σ : St) (H:Hp) (Q:Option Int->Hp->Prop),Inv X pins σ H s->t σ H Q ->
  wpAny (model X.prog X.w) X.A (evalPart e X.env) (fun u s'=>∃ o H',Inv X pins σ H' s'/\IsPart u o/\Q o H') X.xe s
def AK:TO:=fun _ H Q=>Q none H
def C3 (t:TE):TO:=fun σ H Q=>t σ H fun x H1=>∃ i,x=.int i/\Q (some i) H1
section
variable {X:Cx} {e:Expr} {te:TE} {lo hi:Option Expr} {tl th:TO} {pos p2:Pos}
theorem uS:PO X none AK:=by
 intro pins s σ H Q I h
 rw [evalPart_none]
 exact wpAny_pure ⟨none,H,I,.none,h⟩
theorem uT (h:PE X e te):PO X (some e) (C3 te):=by
 intro pins s σ H Q I hw
 rw [evalPart_some]
 refine ba (h pins s σ H _ I hw) fun u s1 ⟨x,H1,I1,r1,q1⟩=>?_
 obtain⟨i,rfl,q⟩:=q1
 obtain⟨t,rfl⟩:=r1
 exact⟨some i,H1,I1,.int i t,q⟩
def B0 (X:Cx) (r:V->Option Int->Option Int->Hp->VK->Prop):Prop :=
 ∀ (pins:List (Addr × Obj)) (s:Shared) (σ : St) (H:Hp) (x:V) (v vl vu:Value) (lo hi:Option Int) (sl:Addr) (Q:VK),Inv X pins σ H s->RelV x v->s.heap.IsSliceOf sl vl vu .none->IsPart vl lo->IsPart vu hi->r x lo hi H Q ->
  ∃ T id,typeLookup (.type T) "__getitem__" = pure (some (.builtin id))/\s.TypeIs v T/\wpAny (model X.prog X.w) X.A (getItem v (.ref sl)) (EP X pins σ Q) X.xe s
def D9 (r:V->Option Int->Option Int->Hp->VK->Prop) (te:TE) (tl th:TO):TE:=fun σ H Q=>te σ H fun x H1=>tl σ H1 fun l H2=>th σ H2 fun u H3=>r x l u H3 Q
theorem sI {r:V->Option Int->Option Int->Hp->VK->Prop} (hr:B0 X r) (he:PE X e te) (hl:PO X lo tl) (hu:PO X hi th):PE X (.Subscript e (.Slice lo hi none p2) pos) (D9 r te tl th):=by
 intro pins s σ H Q I h
 refine Subscript_ (ba (he pins s σ H _ I h) fun v s1 ⟨x,H1,I1,r1,q1⟩=>?_)
 refine wpAny_Slice (ba (hl pins s1 σ H1 _ I1 q1) fun vl s2 ⟨l,H2,I2,pl,q2⟩=>ba (hu pins s2 σ H2 _ I2 q2) fun vu s3 ⟨u,H3,I3,pu,q3⟩=>?_)
 rw [evalPart_none]
 refine wpAny_pure ?_
 have I4:Inv X pins σ H3 { s3 with heap:=s3.heap.push { cls:=.type "slice",data:=.fields #[vl,vu,.none] } }:=I3.kept (t':=s3.toks) fun b ob q=>Heap.get?_push_of_some _ q
 obtain⟨T,id,hT,ht,hg⟩:=hr pins { s3 with heap:=s3.heap.push { cls:=.type "slice",data:=.fields #[vl,vu,.none] } } σ H3 x v vl vu l u s3.heap.objs.size Q I4 r1 (Heap.IsSliceOf.new ..) pl pu q3
 show wpAny (model X.prog X.w) X.A (subscriptTail e (.Slice lo hi none p2) v (.ref s3.heap.objs.size)) (EP X pins σ Q) X.xe { s3 with heap:=s3.heap.push { cls:=.type "slice",data:=.fields #[vl,vu,.none] } }
 exact tail_any (ops:=[.ref s3.heap.objs.size,v]) ht hT hg (by with_unfolding_all rfl)
def jU (xs:List V) (lo hi:Option Int):List V:=(xs.drop (HT.bT xs.length 0 lo)).take (HT.bT xs.length xs.length hi - HT.bT xs.length 0 lo)
theorem uk (xs:List V) (lo hi:Option Int):(jU xs lo hi).length<=xs.length:=by
 unfold jU
 rw [List.length_take,List.length_drop]
 omega
def DP (K:PySem.W.Frag):V->Option Int->Option Int->Hp->VK->Prop:=fun x lo hi H Q=>∃ a xs,x=.ref a/\ay K H a xs /\
 ¬ (HT.bT xs.length 0 lo=0/\HT.bT xs.length xs.length hi=xs.length)/\∀ p,H p=none->Q (.ref p) (upd H p (.tup (jU xs lo hi)))
theorem B9:B0 X (DP X.K):=by
 intro pins s σ H x v vl vu lo hi sl Q I rx hs pl pu h
 obtain⟨a,xs,rfl,hx,hw,q⟩:=h
 cases rx
 obtain⟨its,r,ht,hz⟩:=I.tuple hx
 have hlen:its.toArray.size=xs.length:=by rw [List.size_toArray];exact r.length.symm
 refine⟨"tuple",_,PyProof.Rows.slot_tuple_getitem.lookup,ht.typeIs,?_⟩
 refine HT.mQ ht hs pl pu (by rw [hlen];exact hw) ?_ (by rw [hlen];exact hz)
 rw [hlen]
 refine⟨.ref s.heap.objs.size,_,I.laid (t':=s.toks) (o:=.tup (jU xs lo hi)) (fun b ob q=>Heap.get?_push_of_some _ q) (Nat.le_refl _) ?_,rfl,q _ (I.aT.fresh (Nat.le_refl _))⟩
 exact⟨Nat.le_trans (uk xs lo hi) hz,_,(r.drop (HT.bT xs.length 0 lo)).take (HT.bT xs.length xs.length hi - HT.bT xs.length 0 lo),⟨_,Heap.get?_push_size _ rfl,rfl,_,rfl,rfl⟩⟩
theorem Vals.pQ {xs:List V} {us:List Value} (r:Vals xs us):us = [] ↔ xs = []:=by
 cases r with
 | nil=>simp
 | cons _ _=>simp
end
def m3 (n:Nat) (i:Int):Option Nat:=if 0<=i then (if i < n then some i.toNat else none) else if -(n:Int)<=i then some (i+n).toNat else none
def fD {α : Type} (xs:List α) (i:Int):Option α:=(m3 xs.length i).bind fun j=>xs[j]?
theorem uU {n:Nat} {i:Int} {j:Nat} (h:m3 n i=some j):seqIndex? i n=some j/\j < n/\-(n:Int)<=i/\i < n:=by
 unfold m3 at h
 by_cases h0:0<=i
 ·rw [if_pos h0] at h
  by_cases h1:i < n
  ·rw [if_pos h1] at h
   have e:i.toNat=j:=Option.some.inj h
   exact⟨by rw [seqIndex_of h0 h1,e],by omega,by omega,h1⟩
  ·rw [if_neg h1] at h;cases h
 ·rw [if_neg h0] at h
  by_cases h1:-(n:Int)<=i
  ·rw [if_pos h1] at h
   have e:(i+n).toNat=j:=Option.some.inj h
   exact⟨by rw [seqIndex_neg (by omega) h1,e],by omega,h1,by omega⟩
  ·rw [if_neg h1] at h;cases h
theorem pR {α : Type} {xs:List α} {i:Int} {v:α} (h:fD xs i=some v):∃ j,seqIndex? i xs.length=some j/\xs[j]? = some v/\j < xs.length/\-(xs.length:Int)<=i/\i < xs.length:=by
 unfold fD at h
 cases e:m3 xs.length i with
 | none=>rw [e] at h;cases h
 | some j =>
  rw [e] at h
  obtain⟨h1,h2,h3,h4⟩:=uU e
  exact⟨j,h1,h,h2,h3,h4⟩
theorem bw {α : Type} {xs:List α} {j:Nat} {v:α} (h:xs[j]? = some v):fD xs (j:Int)=some v:=by
 have hj:j < xs.length:=(List.getElem?_eq_some_iff.mp h).1
 have e:m3 xs.length (j:Int)=some j:=by
  unfold m3
  rw [if_pos (by omega),if_pos (by omega)];simp
 unfold fD;rw [e];exact h
def AL (b:Expr):Prop:=∀ o i,subscripted b false o i=operate [o,i] (getItem o i)
def xp (X:Cx) (r:R2):Prop :=
 ∀ (value slice:Expr) (pins:List (Addr × Obj)) (s:Shared) (σ : St) (H:Hp) (x y:V) (v u:Value) (Q:VK),Inv X pins σ H s->RelV x v->RelV y u->r x y H Q ->
  subscripted slice false v u=operate [v,u] (getItem v u)->wpAny (model X.prog X.w) X.A (subscriptTail value slice v u) (EP X pins σ Q) X.xe s
def Ca (X:Cx) (id:String) (r:V->List V->Hp->VK->Prop):Prop :=
 ∀ (pins:List (Addr × Obj)) (s:Shared) (σ : St) (H:Hp) (x:V) (xs:List V) (v:Value) (us:List Value) (Q:VK),Inv X pins σ H s->RelV x v->Vals xs us->r x xs H Q ->
  wpAny (model X.prog X.w) X.A (call (.builtin id) (v :: us)) (EP X pins σ Q) X.xe s
section
variable {X:Cx} {a b:Expr} {ta tb:TE} {pos:Pos}
theorem aC {r:R2} (hr:xp X r) (ha:PE X a ta) (hb:PE X b tb) (hs:AL b):PE X (.Subscript a b pos) (Ad r ta tb):=by
 intro pins s σ H Q I h
 exact Subscript_ (yP ha hb I h fun v u s2 x y H2 I2 rx ry q=>hr a b pins s2 σ H2 x y v u Q I2 rx ry q (hs _ _))
def DQ (K:PySem.W.Frag):R2:=fun x y H Q=>∃ p xs i v,x=.ref p/\y=.int i/\aU K H p xs/\fD xs i=some v/\Q v H
def Cb (K:PySem.W.Frag):R2:=fun x y H Q=>∃ p xs i v,x=.ref p/\y=.int i/\ay K H p xs/\fD xs i=some v/\Q v H
def DR:R2:=fun x y H Q=>∃ z i c,x=.str z/\y=.int i/\z.length<=sizeLine/\fD z.cps.toList i=some c/\Q (.str ⟨#[c]⟩) H
theorem bY:xp X (DQ X.K):=by
 intro value slice pins s σ H x y v u Q I rx ry h hs
 obtain⟨p,xs,i,z,rfl,rfl,hq,he,q⟩:=h
 cases rx
 obtain⟨t,rfl⟩:=ry
 obtain⟨its,r,pl,hz⟩:=I.list hq
 obtain⟨j,h1,h2,h3,h4,h5⟩:=pR he
 obtain⟨w,ew,rw'⟩:=r.get h2
 have hl:=r.length
 have hn:=jm
 have fin:EP X pins σ Q w s:=⟨z,H,I,rw',q⟩
 by_cases h0:0<=i
 ·have hj:i.toNat=j:=by
   rw [seqIndex_of h0 h5] at h1
   exact Option.some.inj h1
  exact item_listR pl.isList h0 (by omega) (by rw [hj];simpa using ew) fin hs
 ·have hj:(i+(its.toArray.size:Int)).toNat=j:=by
   rw [seqIndex_neg (by omega) h4] at h1
   rw [List.size_toArray,<-hl]
   exact Option.some.inj h1
  exact subscriptTail_builtinR (x:=w) pl.isList.typeIs slot_list_getitem.lookup
   (wpAny_getItem_list_neg (Q:=fun r s'=>r=w/\EP X pins σ Q r s') pl.isList (by omega) (by rw [List.size_toArray] <;> omega) (by omega) (by rw [hj];simpa using ew) ⟨rfl,fin⟩) hs
theorem aM:xp X (Cb X.K):=by
 intro value slice pins s σ H x y v u Q I rx ry h hs
 obtain⟨p,xs,i,z,rfl,rfl,hq,he,q⟩:=h
 cases rx
 obtain⟨t,rfl⟩:=ry
 obtain⟨its,r,pl,hz⟩:=I.tuple hq
 obtain⟨j,h1,h2,h3,h4,h5⟩:=pR he
 obtain⟨w,ew,rw'⟩:=r.get h2
 have hl:=r.length
 have hn:=jm
 have fin:EP X pins σ Q w s:=⟨z,H,I,rw',q⟩
 exact subscriptTail_builtinR (x:=w) pl.typeIs slot_tuple_getitem.lookup
  (getItem_tuple (j:=j) (Q:=fun r s'=>r=w/\EP X pins σ Q r s') pl (by omega) (by omega) (by rw [List.size_toArray,<-hl];exact h1) (by simpa using ew) ⟨rfl,fin⟩) hs
theorem xq:xp X DR:=by
  intro value slice pins s σ H x y v u Q I rx ry h hs
  obtain⟨z,i,c,rfl,rfl,hz,he,q⟩:=h
  obtain⟨t,rfl⟩:=rx
  obtain⟨t',rfl⟩:=ry
  obtain⟨j,h1,h2,h3,h4,h5⟩:=pR he
  have hl:z.cps.toList.length=z.length:=by simp [Str.length]
  rw [hl] at h1 h4 h5
  have hn:=jm
  exact tail_any (typeIs_str s z t) slot_str_getitem.lookup (getItem_str (c:=c) (by
    have e1:decide (i < -(2 ^ 63:Int))=false:=decide_eq_false (by omega)
    have e2:decide (i >= 2 ^ 63)=false:=decide_eq_false (by omega)
    rw [e1,e2,Bool.or_false]) (by rw [h1];simpa using h2) ⟨.str ⟨#[c]⟩,H,I.tok _,⟨_,rfl⟩,q⟩) hs
theorem vR (its:List Value) (n j:Nat) (u:Value):Obj.mapSeq (·.setIfInBounds j u) { cls:=.type "list",data:=.seq its.toArray n } = { cls:=.type "list",data:=.seq (its.set j u).toArray n }:=by
 simp [Obj.mapSeq]
theorem Inv.lst {pins:List (Addr × Obj)} {σ : St} {H:Hp} {s:Shared} {p:Addr} {xs:List V} (I:Inv X pins σ H s) (h:H p=some (.lst xs)) :
  ∃ (its:List Value) (n:Nat),Vals xs its/\s.heap.get? p=some { cls:=.type "list",data:=.seq its.toArray n }/\xs.length<=sizeLine:=by
 obtain⟨z,its,n,r,e⟩:=I.aT p _ h
 exact⟨its,n,r,e,z⟩
theorem Inv.Cc {pins:List (Addr × Obj)} {σ : St} {H:Hp} {s:Shared} {p:Addr} {xs ys:List V} {its its':List Value} {n n':Nat} {f:Obj->Obj} (I:Inv X pins σ H s) (h:H p=some (.lst xs))
  (ho:s.heap.get? p=some { cls:=.type "list",data:=.seq its.toArray n }) (hf:f { cls:=.type "list",data:=.seq its.toArray n } = { cls:=.type "list",data:=.seq its'.toArray n' }) (r:Vals ys its') (hz:ys.length<=sizeLine) (t:Nat) :
  Inv X pins σ (upd H p (.lst ys)) { s with heap:=s.heap.update p f,toks:=t }:=by
 have e:(s.heap.update p f).get? p=some { cls:=.type "list",data:=.seq its'.toArray n' }:=by
  rw [Heap.get?_update_self f ho (by rw [hf] <;> rfl),hf]
 refine I.write (x:=p) (e:=p) (by rw [h];trivial) (.inl rfl) (fun b u hb q=>(Heap.get?_update_other _ _ (Ne.symm hb)).trans q) ⟨_,e⟩ ?_
 exact⟨hz,its',n',r,e⟩
def C4:V->V->V->Hp->(Hp->Prop)->Prop:=fun o i v H Q=>∃ p xs k j,o=.ref p/\i=.int k/\H p=some (.lst xs)/\m3 xs.length k=some j/\Q (upd H p (.lst (xs.set j v)))
theorem set_list:yL X C4:=by
 intro pins s σ H o i v ov iv u Q I ro ri rv h
 obtain⟨p,xs,k,j,rfl,rfl,hp,hj,q⟩:=h
 cases ro
 obtain⟨t,rfl⟩:=ri
 obtain⟨its,n,r,ho,hz⟩:=I.lst hp
 obtain⟨h1,h2,h3,h4⟩:=uU hj
 have hl:=r.length
 have hn:=jm
 have I':Inv X pins σ (upd H p (.lst (xs.set j v))) { s with heap:=s.heap.update p (Obj.mapSeq (·.setIfInBounds j u)) } :=
  I.Cc hp ho (vR its n j u) (r.set rv j) (by rw [List.length_set];exact hz) s.toks
 by_cases h0:0<=k
 ·have hk:k.toNat=j:=by
   rw [seqIndex_of h0 h4] at h1
   exact Option.some.inj h1
  exact PySem.W.ki_setAt ho h0 (by omega) (by rw [List.size_toArray,<-hl];exact h4) (by rw [hk];exact⟨_,I',q⟩)
 ·have hk:(k+(its.toArray.size:Int)).toNat=j:=by
   rw [seqIndex_neg (by omega) h3] at h1
   rw [List.size_toArray,<-hl]
   exact Option.some.inj h1
  exact PySem.W.ki_setBack ho (by omega) (by rw [List.size_toArray,<-hl];exact h3) (by omega) (by rw [hk];exact⟨_,I',q⟩)
def iG:V->Bool
 | .bI=>true
 | .bl _=>true
 | .int _=>true
 | .str _=>true
 | _=>false
def qL:V->V->Bool
 | .bI,.bI=>true
 | .bl a,.bl b=>a == b
 | .bl a,.int b=>(if a then 1 else 0) == b
 | .int a,.bl b=>a == (if b then 1 else 0)
 | .int a,.int b=>a == b
 | .str a,.str b=>a == b
 | _,_=>false
theorem Cd {A:Around} {s:Shared} {y x:V} {u v:Value} (ry:RelV y u) (rx:RelV x v) (fy:iG y=true) (fx:iG x=true):SeqAt.EqAt A s u v (qL y x):=by
 cases y with
 | bI =>
  cases ry
  cases x with
  | bI=>cases rx;exact SeqAt.EqAt.same _
  | bl b=>cases rx;exact SeqAt.EqAt.none_bool b
  | int b=>obtain⟨t,rfl⟩:=rx;exact SeqAt.EqAt.none_int b t
  | str b=>obtain⟨t,rfl⟩:=rx;exact SeqAt.EqAt.none_str b t
  | _=>exact absurd (show false=true from fx) Bool.false_ne_true
 | bl a =>
  cases ry
  cases x with
  | bI=>cases rx;exact SeqAt.EqAt.bool_none a
  | bl b=>cases rx;exact SeqAt.EqAt.bool_bool a b
  | int b=>obtain⟨t,rfl⟩:=rx;exact SeqAt.EqAt.bool_int a b t
  | str b=>obtain⟨t,rfl⟩:=rx;exact SeqAt.EqAt.bool_str a b t
  | _=>exact absurd (show false=true from fx) Bool.false_ne_true
 | int a =>
  obtain⟨t',rfl⟩:=ry
  cases x with
  | bI=>cases rx;exact SeqAt.EqAt.int_none a t'
  | bl b=>cases rx;exact SeqAt.EqAt.int_bool a t' b
  | int b=>obtain⟨t,rfl⟩:=rx;exact SeqAt.EqAt.int_int a t' b t
  | str b=>obtain⟨t,rfl⟩:=rx;exact SeqAt.EqAt.int_str a t' b t
  | _=>exact absurd (show false=true from fx) Bool.false_ne_true
 | str a =>
  obtain⟨t',rfl⟩:=ry
  cases x with
  | bI=>cases rx;exact SeqAt.EqAt.str_none a t'
  | bl b=>cases rx;exact SeqAt.EqAt.str_bool a t' b
  | int b=>obtain⟨t,rfl⟩:=rx;exact SeqAt.EqAt.str_int a t' b t
  | str b=>obtain⟨t,rfl⟩:=rx;exact SeqAt.EqAt.str_str a t' b t
  | _=>exact absurd (show false=true from fx) Bool.false_ne_true
 | _=>exact absurd (show false=true from fy) Bool.false_ne_true
def jo (x:V) (u:Value):Bool:=match u with
 | .none=>qL .bI x
 | .bool b=>qL (.bl b) x
 | .int i _=>qL (.int i) x
 | .str z _=>qL (.str z) x
 | _=>false
theorem xr {x y:V} {u:Value} (r:RelV y u) (f:iG y=true):jo x u=qL y x:=by
 cases y with
 | bI=>cases r;rfl
 | bl b=>cases r;rfl
 | int i=>obtain⟨t,rfl⟩:=r;rfl
 | str z=>obtain⟨t,rfl⟩:=r;rfl
 | _=>exact absurd (show false=true from f) Bool.false_ne_true
theorem j5 {x:V}:∀ {xs:List V} {us:List Value},Vals xs us->xs.all iG=true->us.any (jo x)=xs.any fun y=>qL y x
 | _,_,.nil,_=>rfl
 | y :: xs,u :: us,.cons r t,f=>by
  rw [List.all_cons,Bool.and_eq_true] at f
  rw [List.any_cons,List.any_cons,xr r f.1,j5 t f.2]
theorem jq {A:Around} {s:Shared} {x:V} {v:Value} (rx:RelV x v) (fx:iG x=true):∀ {xs:List V} {us:List Value},Vals xs us->xs.all iG=true->∀ u ∈ us,SeqAt.EqAt A s u v (jo x u)
 | _,_,.nil,_=>fun u hu=>by cases hu
 | y :: xs,u :: us,.cons r t,f=>fun u' hu=>by
  rw [List.all_cons,Bool.and_eq_true] at f
  rcases List.mem_cons.mp hu with rfl | hu
  ·rw [xr r f.1];exact Cd r rx f.1 fx
  ·exact jq rx fx t f.2 u' hu
def qM (x:V) (xs:List V):Bool:=xs.any fun y=>qL y x
def Dl (K:PySem.W.Frag) (neg:Bool):R2:=fun x y H Q=>∃ p xs,y=.ref p/\(aU K H p xs\/ay K H p xs)/\iG x=true/\xs.all iG=true/\Q (.bl (if neg then !qM x xs else qM x xs)) H
theorem qN:fm X (compareOp .In) (Dl X.K false):=by
 intro pins s σ H x y v u Q I rx ry h
 obtain⟨p,xs,rfl,hq,fx,fs,q⟩:=h
 cases ry
 rcases hq with hq | hq
 ·obtain⟨its,r,pl,hz⟩:=I.list hq
  refine SeqAt.in_listAt (jo x) pl.isList (fun w hw=>jq rx fx r fs w (by simpa using hw)) ⟨.bl _,H,I,rfl,?_⟩
  rw [show its.toArray.any (jo x)=its.any (jo x) by simp,j5 r fs]
  exact q
 ·obtain⟨its,r,pl,hz⟩:=I.tuple hq
  refine SeqAt.in_tupleAt (jo x) pl (fun w hw=>jq rx fx r fs w (by simpa using hw)) ⟨.bl _,H,I,rfl,?_⟩
  rw [show its.toArray.any (jo x)=its.any (jo x) by simp,j5 r fs]
  exact q
theorem sJ:fm X (compareOp .NotIn) (Dl X.K true):=by
 intro pins s σ H x y v u Q I rx ry h
 obtain⟨p,xs,rfl,hq,fx,fs,q⟩:=h
 cases ry
 rcases hq with hq | hq
 ·obtain⟨its,r,pl,hz⟩:=I.list hq
  refine SeqAt.notIn_listAt (jo x) pl.isList (fun w hw=>jq rx fx r fs w (by simpa using hw)) ⟨.bl _,H,I,rfl,?_⟩
  rw [show its.toArray.any (jo x)=its.any (jo x) by simp,j5 r fs]
  exact q
 ·obtain⟨its,r,pl,hz⟩:=I.tuple hq
  refine SeqAt.notIn_tupleAt (jo x) pl (fun w hw=>jq rx fx r fs w (by simpa using hw)) ⟨.bl _,H,I,rfl,?_⟩
  rw [show its.toArray.any (jo x)=its.any (jo x) by simp,j5 r fs]
  exact q
theorem bx:eU X (.builtin "len") (fun xs H Q=>∃ p ys,xs = [.ref p]/\(aU X.K H p ys\/ay X.K H p ys)/\Q (.int ys.length) H):=by
 intro pins s σ H xs us Q I r h
 obtain⟨p,ys,rfl,hq,q⟩:=h
 obtain⟨u,rfl,rx⟩:=vals1 r
 cases rx
 have hn:=jm
 rcases hq with hq | hq
 ·obtain⟨its,r',pl,hz⟩:=I.list hq
  have hlen:=r'.length
  exact Calls.call_len_list pl.isList (by simp only [List.size_toArray] <;> omega) ⟨.int ys.length,H,I.tok _,⟨s.toks+1,by rw [List.size_toArray,hlen]⟩,q⟩
 ·obtain⟨its,r',pl,hz⟩:=I.tuple hq
  have hlen:=r'.length
  exact len_tuple pl (by simp only [List.size_toArray] <;> omega) ⟨.int ys.length,H,I.tok _,⟨s.toks+1,by rw [List.size_toArray,hlen]⟩,q⟩
theorem lJ:eU X (.type "list") (fun xs H Q=>∃ p ys,xs = [.ref p]/\(aU X.K H p ys\/ay X.K H p ys)/\∀ l,H l=none->Q (.ref l) (upd H l (.lst ys))):=by
 intro pins s σ H xs us Q I r h
 obtain⟨p,ys,rfl,hq,q⟩:=h
 obtain⟨u,rfl,rx⟩:=vals1 r
 cases rx
 have fin:∀ (its:List Value),Vals ys its->ys.length<=sizeLine->∀ (h':Heap) (c':Nat),(∀ b o',s.heap.get? b=some o'->h'.get? b=some o') ->
   h'.get? s.heap.objs.size=some { cls:=.type "list",dict:=none,data:=.seq its.toArray c',slots:=#[] }->EP X pins σ Q (.ref s.heap.objs.size) { s with heap:=h' }:=fun its r' hz h' c' kp e =>
  ⟨.ref s.heap.objs.size,_,I.laid (t':=s.toks) kp (Nat.le_refl _) (show cf X.prog X.w _ h' _ (.lst ys) from ⟨hz,its,c',r',e⟩),rfl,q _ (I.aT.fresh (Nat.le_refl _))⟩
 rcases hq with hq | hq
 ·obtain⟨its,r',pl,hz⟩:=I.list hq
  have hlen:=r'.length
  obtain⟨o,ho,hc,n,hd⟩:=pl.isList
  exact call_list_seq p (.inl rfl) ho hc hd (fun h' c' kp e=>fin its r' hz h' c' kp e) (by simp only [List.size_toArray] <;> omega)
 ·obtain⟨its,r',pl,hz⟩:=I.tuple hq
  have hlen:=r'.length
  obtain⟨o,ho,hc,n,hd⟩:=pl
  exact call_list_seq p (.inr rfl) ho hc hd (fun h' c' kp e=>fin its r' hz h' c' kp e) (by simp only [List.size_toArray] <;> omega)
theorem bf:eU X (.type "tuple") (fun xs H Q=>∃ p ys,xs = [.ref p]/\((aU X.K H p ys/\∀ l,H l=none->Q (.ref l) (upd H l (.tup ys)))\/(ay X.K H p ys/\Q (.ref p) H))):=by
 intro pins s σ H xs us Q I r h
 obtain⟨p,ys,rfl,h⟩:=h
 obtain⟨u,rfl,rx⟩:=vals1 r
 cases rx
 rcases h with ⟨hq,q⟩ | ⟨hq,q⟩
 ·obtain⟨its,r',pl,hz⟩:=I.list hq
  have hlen:=r'.length
  refine call_tuple_list pl.isList (fun h' kp=>?_) (by simp only [List.size_toArray] <;> omega)
  have I1:Inv X pins σ H { s with heap:=h' }:=I.kept (t':=s.toks) kp
  have I2:Inv X pins σ (upd H h'.objs.size (.tup ys)) { s with heap:=h'.push { cls:=.type "tuple",data:=.seq its.toArray } } :=
   I1.laid (t':=s.toks) (fun b o e=>Heap.get?_push_of_some _ e) (Nat.le_refl _) (show cf X.prog X.w _ _ _ (.tup ys) from ⟨hz,its,r',⟨_,Heap.get?_push_size _ rfl,rfl,_,rfl,rfl⟩⟩)
  exact⟨.ref h'.objs.size,_,I2,rfl,q _ (I1.aT.fresh (Nat.le_refl _))⟩
 ·obtain⟨its,r',pl,hz⟩:=I.tuple hq
  exact call_tuple_same pl ⟨.ref p,H,I,rfl,q⟩
def Ce (K:PySem.W.Frag) (T:String) (x:V) (H:Hp):Prop:=match x with
 | .str _=>T = "str"
 | .int _=>T = "int"
 | .ref p=>(T = "list" /\ ∃ xs,aU K H p xs)\/(T = "tuple" /\ ∃ o,K.lookup p=some o/\o.cls=.type "tuple" /\ o.dict=none) \/
   (T = "dict" /\ ((∃ kvs,H p=some (.dK kvs))\/∃ kvs,H p=some (.dT kvs)))\/(T = "set" /\ ∃ S n,H p=some (.set S n))
 | _=>False
theorem xt {pins:List (Addr × Obj)} {σ : St} {H:Hp} {s:Shared} {T:String} {x:V} {v:Value} (I:Inv X pins σ H s) (r:RelV x v) (ty:Ce X.K T x H) :
  s.TypeIs v T/\∀ a,v=.ref a->∃ ob,s.heap.get? a=some ob/\ob.dict=none:=by
 cases x with
 | str z =>
  obtain⟨t,rfl⟩:=r
  cases (show T = "str" from ty)
  exact⟨typeIs_str s z t,fun _ e=>nomatch e⟩
 | int i =>
  obtain⟨t,rfl⟩:=r
  cases (show T = "int" from ty)
  exact⟨typeIs_int s i t,fun _ e=>nomatch e⟩
 | ref p =>
  cases r
  rcases ty with ⟨rfl,xs,hq⟩ | ⟨rfl,o,hk,hc,hd⟩ | ⟨rfl,hk⟩ | ⟨rfl,S,n,hk⟩
  ·obtain⟨its,_,pl,_⟩:=I.list hq
   refine⟨pl.isList.typeIs,fun a e=>?_⟩
   cases e
   obtain⟨o,n,e,c,hd,_⟩:=pl
   exact⟨o,e,hd⟩
  ·refine⟨⟨o,I.iJ p o hk,hc⟩,fun a e=>?_⟩
   cases e
   exact⟨o,I.iJ _ o hk,hd⟩
  ·have z:∃ o,s.heap.get? p=some o/\o.ExactDict:=by
    rcases hk with ⟨kvs,hk⟩ | ⟨kvs,hk⟩
    ·obtain⟨_,_,_,_,o,_,_,e,ex,_⟩:=I.aT p _ hk
     exact⟨o,e,ex⟩
    ·obtain⟨_,_,_,_,o,_,_,e,ex,_⟩:=I.aT p _ hk
     exact⟨o,e,ex⟩
   obtain⟨o,e,ex⟩:=z
   refine⟨⟨o,e,ex.1⟩,fun a e2=>?_⟩
   cases e2
   exact⟨o,e,ex.2.1⟩
  ·obtain⟨o,_,_,_,e,ex,_⟩:=I.aT p _ hk
   refine⟨⟨o,e,ex.1⟩,fun a e2=>?_⟩
   cases e2
   exact⟨o,e,ex.2.1⟩
 | _=>exact False.elim ty
def DS (K:PySem.W.Frag) (T:String) (r:V->List V->Hp->VK->Prop) (to:TE):TE:=fun σ H Q=>to σ H fun x H1=>Ce K T x H1/\r x [] H1 Q
def Ea (K:PySem.W.Frag) (T:String) (r:V->List V->Hp->VK->Prop) (to:TE) (t:TA):TE:=fun σ H Q=>to σ H fun x H1=>Ce K T x H1/\t σ H1 fun xs H2=>r x xs H2 Q
variable {o e:Expr} {es:List Expr} {to:TE} {t:TA} {name:Str} {apos cpos:Pos} {T id:String} {r:V->List V->Hp->VK->Prop}
theorem Cf (pa:PlainAttrs T) (slot:Slot T name id) (hty:typeOf (.builtin id)=pure (.type "method_descriptor")) (hm:Ca X id r) (ho:PE X o to)
  (hbase:attributeBase o name X.env (eval o X.env)=eval o X.env:=by rfl) (hline:(apos.endLine == cpos.line)=true:=by rfl):PE X (.Call (.Attribute o name apos) [] [] cpos) (DS X.K T r to):=by
 intro pins s σ H Q I h
 refine wpAny_Call_method0_late hbase hline (ba (ho pins s σ H _ I h) fun v s1 ⟨x,H1,I1,r1,ty,q1⟩=>?_)
 obtain⟨h1,h2⟩:=xt I1 r1 ty
 exact⟨T,id,pa,slot,hty,h1,h2,Calls.callWith_builtin rfl (PySem.evalArgs_none (hm pins s1 σ H1 x [] v [] Q I1 r1 .nil q1))⟩
theorem fY (pa:PlainAttrs T) (slot:Slot T name id) (hty:typeOf (.builtin id)=pure (.type "method_descriptor")) (hm:Ca X id r) (ho:PE X o to) (ha:PA X (e :: es) t)
  (hbase:attributeBase o name X.env (eval o X.env)=eval o X.env:=by rfl)
  (hfew:((backTo cpos (starEach (e :: es) X.env)).all (fun x=>!x.1) && (backToKw cpos (keywordEach [] X.env)).all (fun x=>x.1.isSome)
   && decide ((e :: es).length+([]:List Keyword).length+(if ([]:List Keyword).isEmpty then 0 else 1) < 30))=true:=by rfl)
  (hline:(apos.endLine == cpos.line)=true:=by rfl) (hs:starEach (e :: es) X.env=(false,eval e X.env) :: starEach es X.env:=by rfl) (hplain:(backTo cpos (starEach es X.env)).any (·.1)=false:=by rfl) :
  PE X (.Call (.Attribute o name apos) (e :: es) [] cpos) (Ea X.K T r to t):=by
 intro pins s σ H Q I h
 refine wpAny_Call_method_late hbase hfew hline rfl (ba (ho pins s σ H _ I h) fun v s1 ⟨x,H1,I1,r1,ty,q1⟩=>?_)
 obtain⟨h1,h2⟩:=xt I1 r1 ty
 refine⟨T,id,pa,slot,hty,h1,h2,?_⟩
 have hA:=ha cpos pins s1 σ H1 _ I1 q1
 rw [hs] at hA ⊢
 refine Calls.callWith_builtin (by show (false || (backTo cpos (starEach es X.env)).any (·.1))=false;rw [hplain] <;> rfl) (Calls.evalArgs_plain ?_)
 exact ba hA fun us s2 ⟨vs,H2,I2,r2,q2⟩=>hm pins s2 σ H2 x vs v us Q I2 r1 r2 q2
end
def xu (X:Cx) (id:String) (r:V->List V->Hp->VK->Prop):Prop :=
 ∀ (pins:List (Addr × Obj)) (s:Shared) (σ : St) (H:Hp) (x:V) (xs:List V) (v:Value) (us:List Value) (Q:VK),Inv X pins σ H s->RelV x v->Vals xs us->r x xs H Q ->
  wpAny (model X.prog X.w) X.A (call (.builtin id) (v :: us)) (EP X pins σ Q) X.xe s
theorem Vals.one:∀ {x:V} {us:List Value},Vals [x] us->∃ u,us = [u]/\RelV x u
 | _,_,.cons r .nil=>⟨_,rfl,r⟩
theorem Vals.zero:∀ {us:List Value},Vals [] us->us = []
 | _,.nil=>rfl
theorem Vals.dropLast {xs:List V} {us:List Value} (h:Vals xs us):Vals xs.dropLast us.dropLast:=by
 induction h with
 | nil=>exact .nil
 | cons r t ih =>
  cases t with
  | nil=>exact .nil
  | cons q t'=>exact .cons r ih
theorem vS {α : Type} (l:List α):l.eraseIdx (l.length - 1)=l.dropLast:=by
 induction l with
 | nil=>rfl
 | cons a r ih =>
  cases r with
  | nil=>rfl
  | cons b r =>
   have e:(a :: b :: r).length - 1=((b :: r).length - 1)+1:=by
    have h1:(a :: b :: r).length=r.length+2:=rfl
    have h2:(b :: r).length=r.length+1:=rfl
    omega
   rw [e,List.eraseIdx_cons_succ,ih]
   all_goals rfl
section
variable {X:Cx} {pins:List (Addr × Obj)} {σ : St} {H:Hp} {s:Shared} {l b:Addr} {xs ys zs:List V}
theorem Inv.yZ {its its':List Value} {n:Nat} {f:Array Value->Array Value} {t':Nat} (I:Inv X pins σ H s) (hH:H l=some (.lst xs))
  (e:s.heap.get? l=some { cls:=.type "list",data:=.seq its.toArray n }) (hf:f its.toArray=its'.toArray) (hv:Vals ys its') (hz:ys.length<=sizeLine) :
  Inv X pins σ (upd H l (.lst ys)) { s with heap:=s.heap.update l (Obj.mapSeq f),toks:=t' }:=by
 have q:=PySem.IsL.update e f
 rw [hf] at q
 refine I.write (x:=l) (e:=l) (by rw [hH];exact trivial) (.inl rfl) (fun b' u hb hu=>(Heap.get?_update_other s.heap (Obj.mapSeq f) (Ne.symm hb)).trans hu) ⟨_,q⟩ ?_
 exact⟨hz,its',_,hv,q⟩
theorem Inv.fresh (I:Inv X pins σ H s):H s.heap.objs.size=none:=I.aT.fresh (Nat.le_refl _)
theorem Inv.vT (I:Inv X pins σ H s) (hH:H l=some (.lst xs)):xs.length<=sizeLine/\∃ (its:List Value) (n:Nat),Vals xs its/\xs.length=its.length/\s.heap.get? l=some { cls:=.type "list",data:=.seq its.toArray n }:=by
 obtain⟨z,its,n,r,e⟩:=I.aT l _ hH
 exact⟨z,its,n,r,r.length,e⟩
theorem y0 {n:Nat} (h:n<=sizeLine):Builtin.List.listTooLong n=false:=by
 unfold Builtin.List.listTooLong
 exact decide_eq_false (by omega)
end
section
variable {X:Cx}
def AM:V->List V->Hp->VK->Prop:=fun x vs H Q=>∃ l xs y,x=.ref l/\vs = [y]/\H l=some (.lst xs)/\xs.length < sizeLine/\Q .bI (upd H l (.lst (xs ++ [y])))
theorem d9:xu X "list.append" AM:=by
 intro pins s σ H x vs v us Q I rx rv h
 obtain⟨l,xs,y,rfl,rfl,hH,hz,q⟩:=h
 cases rx
 obtain⟨u,rfl,ru⟩:=rv.one
 obtain⟨z,its,n,r,hl,e⟩:=I.vT hH
 refine call_meets F.slot_list_append ⟨_,e,rfl⟩ F.entry_list_append (F.args_list_append_2 _ _) (PySem.list_append l its.toArray n u (by rw [List.size_toArray];omega)) ⟨e,?_⟩
 refine⟨.bI,_,I.yZ (its':=its ++ [u]) hH e (by simp) (r.append (.cons ru .nil)) ?_,rfl,q⟩
 rw [List.length_append,List.length_singleton]
 omega
def AN:V->List V->Hp->VK->Prop:=fun x vs H Q=>∃ l b xs zs,x=.ref l/\vs = [.ref b]/\H l=some (.lst xs)/\H b=some (.lst zs)/\xs.length+zs.length<=sizeLine/\Q .bI (upd H l (.lst (xs++zs)))
theorem qO:xu X "list.extend" AN:=by
 intro pins s σ H x vs v us Q I rx rv h
 obtain⟨l,b,xs,zs,rfl,rfl,hH,hB,hz,q⟩:=h
 cases rx
 obtain⟨u,rfl,ru⟩:=rv.one
 cases ru
 obtain⟨z,its,n,r,hl,e⟩:=I.vT hH
 obtain⟨z2,its2,n2,r2,hl2,e2⟩:=I.vT hB
 have hsz:its.toArray.size+its2.toArray.size<=sizeLine:=by rw [List.size_toArray,List.size_toArray];omega
 have hlong:¬ (!its.toArray.isEmpty && Builtin.List.listTooLong (its.toArray.size+its2.toArray.size))=true:=by
  rw [y0 hsz,Bool.and_false]
  exact Bool.false_ne_true
 refine call_meets F.slot_list_extend ⟨_,e,rfl⟩ F.entry_list_extend (F.args_list_extend_2 _ _)
  (AutoSeq1.list_extend_list_list_0 l its.toArray n b its2.toArray n2 hlong (by rw [List.size_toArray];omega) (by omega)) ⟨e,e2,?_⟩
 refine⟨.bI,_,I.yZ (its':=its++its2) hH e (by simp) (r.append r2) ?_,rfl,q⟩
 rw [List.length_append]
 omega
def DT:V->List V->Hp->VK->Prop:=fun x vs H Q=>∃ l xs y,x=.ref l/\vs = []/\H l=some (.lst xs)/\xs[xs.length - 1]? = some y/\Q y (upd H l (.lst xs.dropLast))
theorem Cg:xu X "list.pop" DT:=by
 intro pins s σ H x vs v us Q I rx rv h
 obtain⟨l,xs,y,rfl,rfl,hH,hy,q⟩:=h
 cases rx
 have hus:=rv.zero
 subst hus
 obtain⟨z,its,n,r,hl,e⟩:=I.vT hH
 obtain⟨u,hu,ru⟩:=r.get hy
 have hy':its.toArray[its.toArray.size - 1]? = some u:=by
  show its.toArray[its.length - 1]? = some u
  rw [<-Array.getElem?_toList,<-hl]
  exact hu
 refine call_meets F.slot_list_pop ⟨_,e,rfl⟩ F.entry_list_pop (F.args_list_pop_1 _) (MeetsSeq.list_pop_last l its.toArray n u hy' (by rw [List.size_toArray];omega)) ⟨e,?_⟩
 refine⟨y,_,I.yZ (its':=its.dropLast) hH e ?_ r.dropLast ?_,ru,q⟩
 ·show its.toArray.eraseIdxIfInBounds (its.toArray.size - 1)=its.dropLast.toArray
  rw [List.size_toArray,List.eraseIdxIfInBounds_toArray,vS]
 ·rw [List.length_dropLast]
  omega
end
section
variable {prog:Program} {w:World} {A:Around} {E:Value->Shared->Prop} {s:Shared}
end
section
variable {X:Cx}
end
end L2
namespace Dm
open PySem PySem.W PySem.Calls PyProof.Rows
theorem oC {P:Params} {h:Heap}:∀ (ns:List Int) (vs:List Value),WellAll P h vs (ns.map WData.int)->IntsAre vs ns:=by
 intro ns
 induction ns with
 | nil =>
  intro vs w
  rw [List.map_nil] at w
  cases w
  exact .nil
 | cons n ns ih =>
  intro vs w
  rw [List.map_cons] at w
  cases w with
  | cons a b =>
   cases a
   exact .cons _ _ (ih _ b)
theorem xw {l:OpenLaw} {n:Nat} (hn:l.most=some n) {P:Params} {h:Heap} {args:List WData} {vals:List Value}
  (hpre:l.row.toRowW.claim.pre args=true) (hwl:WellAll P h vals args) :
  ∃ a vs ns,vals = [Value.ref a]/\args = [WData.list (ns.map WData.int)]/\h.get? a=some { cls:=.type "list",data:=.seq vs.toArray }/\IntsAre vs ns/\ns.length<=n:=by
 have hsh:WShape.hasAll [] args [.list .int] = true:=(pre_splitW hpre).1
 have hc:l.pre.holds [] { args:=args }=true:=(pre_splitW hpre).2
 obtain⟨d,r,rfl,h1,h2⟩:=hasAllW_cons hsh
 obtain rfl:=hasAllW_nil h2
 obtain⟨xs,rfl,h3⟩:=hasW_list h1
 obtain⟨ns,rfl⟩:=items_int h3
 have hlen:ns.length<=n:=by
  unfold OpenLaw.pre at hc
  have h4:(WTm.not (.lt (.lit (.int (n:Int))) (.len (.arg 0)))).holds [] { args:=[.list (ns.map .int)] }=true:=by
   have h4:=(holds_andW hc).1
   rw [hn] at h4
   exact h4
  have h5:=condW_of h4 (w_not (w_lt w_lit (w_len_list (w_arg rfl))))
  rw [List.length_map] at h5
  refine Nat.le_of_not_lt fun q=>?_
  have q':(n:Int) < ((ns.length:Nat):Int):=by omega
  first
   | (rw [decide_eq_true q'] at h5;exact absurd h5 (by decide))
   | (simp at h5;omega)
 cases hwl with
 | cons w1 w2 =>
  cases w2
  cases w1 with
  | list ho hall=>exact⟨_,_,ns,rfl,rfl,ho,oC ns _ hall,hlen⟩
theorem xx (l:OpenLaw) (args:List WData):l.row.toRowW.claim.post args (.bool true) args=true :=
 postW_of (r:=l.row.toRowW) (X:=(true == true))
  (show WShape.has [] (.bool true) .bool=true by first | rfl | decide | simp [WShape.has,WShape.arms,WShape.armsAll])
  (show (WTm.eq .res (.lit (.bool true))).value [] { args:=args,res:=some (.bool true),after:=args }=some (.bool (true == true)) from w_eq_bool (w_res rfl) w_lit) rfl
theorem um {l:OpenLaw} {n:Nat} {q:Program} {loose:List Str} {XP:(Str->Option Value)->Heap->Prop} {YP:World->Heap->Prop} {d:DefRec}
  (hn:l.most=some n) (hdf:d.params.defaults = [])
  (call:∀ (w:World) (eC s₁ : Shared) (mg mb:Str->Option Value) (fa:Addr) (o:Obj) (pm cd doc:Value) (a:Addr) (vs:List Value) (ns:List Int),
   Ground q loose [] XP w eC mg mb s₁.heap->YP w s₁.heap ->
   s₁.heap.get? fa=some o->o.data=.func (docDef d.name d.params d.body d.scope pm cd doc)->s₁.heap.CodeRec cd d.name->mg d.name=some (.ref fa) ->
   s₁.heap.get? a=some { cls:=.type "list",data:=.seq vs.toArray }->IntsAre vs ns->ns.length<=n->s₁.gens = #[] ->
   codeAny (model l.prog w) callerA (.call (.ref fa) ⟨[.ref a],[]⟩) (fun r s'=>r=.ok (.ret (.bool true))/\OldK s₁.heap s'.heap/\s'.os=s₁.os/\AllBare s'.gens) s₁) :
  WalkO q loose XP YP l.row.toRowW d [] (fun f vs=>PySem.call f vs):=by
 intro w eC s₁ mg mb G Y fa o pm cd doc dV kV ho hd hcd hD hmg hg args vals as hpre hlay hrd hwl hlo
 obtain rfl:dV=.none:=Dflts.none hD hdf
 obtain rfl:kV=.none:=Dflts.noKw hD
 obtain⟨a,vs,ns,rfl,rfl,hobj,hints,hlen⟩:=xw hn hpre hwl
 refine enter_call (codeAny_mono (call w eC s₁ mg mb fa o pm cd doc a vs ns G Y ho (fd_plain hd) hcd hmg hobj hints hlen hg) fun r s' hq=>?_)
 obtain⟨rfl,h2,h3,h4⟩:=hq
 exact⟨.inl ⟨.bool true,.bool true,[],rfl,fun _=>rfl,.bool true,xx l _,fun _=>⟨List.Pairwise.nil,fun _ hm=>(nomatch hm)⟩⟩,h2,h3,h4⟩
section
variable {prog:Program} {w:World} {A:Around} {E:Value->Shared->Prop} {s:Shared} {K:Frag}
def ledger (h:Heap) (L d:Addr):List (Addr × Obj):=(List.range h.objs.size).filterMap fun a=>if a=L\/a=d then none else (h.get? a).map fun o=>(a,o)
end
end Dm
namespace L2
open PySem PySem.Spec PyProof.Rows
theorem lK:∀ {vs:List Value} {ns:List Int},IntsAre vs ns->Vals (ns.map V.int) vs
 | _,_,.nil=>.nil
 | _,_,.cons n t h=>.cons ⟨t,rfl⟩ (lK h)
def y3 (H:Hp):Prop:=∀ b,H b=none\/∃ o xs,H b=some (.mX o (.lst xs))
theorem y4 {P:Program} {w:World} {K:PySem.W.Frag} {mg mb:Str->Option Value} {CX:lI} {k:Nat} {fa a:Addr} {fd:FuncData} {x:Str} {sp:Sp} {s₁ : Shared} {vs:List Value} {ns:List Int}
    (KX:K.In s₁.heap) (hns:s₁.heap.Ns mainGlobals mg) (hb:s₁.heap.Ns builtinsNs mb) (hbb:∀ x:Str,x ≠ "__name__" -> mb x=bootBuiltins x) (hlim:s₁.heap.NoLimit) (hg:s₁.gens = #[])
    (ha:s₁.heap.get? a=some { cls:=.type "list",data:=.seq vs.toArray }) (hi:IntsAre vs ns) (hl:ns.length<=sizeLine) (hr:cN k callerA)
    (F:∀ base:Heap,K.In base->base.Ns mainGlobals mg->bc P w K mg base CX k fa fd [x] sp) (hbind:∀ (s:Shared) (u:Value),BindsTo s fd ⟨[u],[]⟩ [(x,u)])
    (hsp:∀ H:Hp,y3 H->aU K H a (ns.map V.int)->sp [.ref a] H (fun v _=>v=.bl true) fun _ _ _=>False)
    (hCX:∀ H e s',CX [] H s₁ (fun _ _ _=>False) e s'->False) :
    codeAny (model P w) callerA (.call (.ref fa) ⟨[.ref a],[]⟩) (fun r s'=>r=.ok (.ret (.bool true))/\OldK s₁.heap s'.heap/\s'.os=s₁.os/\AllBare s'.gens) s₁:=by
  have rv:=lK hi
  have lenV:=hi.length
  have core:∀ H:Hp,y3 H->aU K H a (ns.map V.int)->d8 P w H s₁.heap->(∀ b,H b ≠ none->b=a)->(H a ≠ none->K.lookup a=none) ->
      codeAny (model P w) callerA (.call (.ref fa) ⟨[.ref a],[]⟩) (fun r s'=>r=.ok (.ret (.bool true))/\OldK s₁.heap s'.heap/\s'.os=s₁.os/\AllBare s'.gens) s₁:=by
    intro H hO hS aT hA hK
    have base_of:∀ {b:Addr} {o:Obj},s₁.heap.get? b=some o->H b=none->(kq s₁.heap H).get? b=some o:=fun e n=>yH e n
    have noA:∀ {b:Addr} {o:Obj} {es:Array DictEntry} {ep:Nat},s₁.heap.get? b=some o->o.data=.dict es ep->H b=none:=fun {b o es ep} e d=>by
      cases q:H b with
      | none=>rfl
      | some u =>
        have e':b=a:=hA b (by rw [q];simp)
        subst e'
        rw [ha] at e;cases e
        have d':Data.seq vs.toArray _=Data.dict es ep:=d
        cases d'
    have nsK:∀ {b:Addr} {m:Str->Option Value},s₁.heap.Ns b m->(kq s₁.heap H).Ns b m:=fun {b m} ⟨o,es,ep,e,d,r⟩=>⟨o,es,ep,base_of e (noA e d),d,r⟩
    have hKb:K.In (kq s₁.heap H):=fun b o e=>base_of (KX b o e) (by
      cases q:H b with
      | none=>rfl
      | some u =>
        have e':b=a:=hA b (by rw [q];simp)
        subst e'
        rw [hK (by rw [q];simp)] at e;cases e)
    have hM:Mod K mg (kq s₁.heap H):=⟨hKb,nsK hns,⟨mb,nsK hb,hbb⟩,let ⟨mc,h1,h2⟩:=hlim;⟨mc,nsK h1,h2⟩⟩
    have e0:ny P w K mg (kq s₁.heap H) callerA [] s₁ H:=⟨rfl,hM,fun b o e=>Ax e,Nat.le_of_eq (w9 _ _),trivial,fun b hb=>absurd (show b ∈ ([]:List Addr) from hb) (by simp),aT,.of_eq hg⟩
    refine codeAny_mono ((F _ hKb (nsK hns)).run callerA [] s₁ H ⟨[.ref a],[]⟩ [.ref a] [.ref a] _ _ hr e0 (hbind s₁ (.ref a)) (.cons rfl .nil) (hsp H hO hS)) fun r s' h=>?_
    cases r with
    | error e=>exact (hCX H e s' h).elim
    | ok fl =>
      cases fl with
      | next=>exact False.elim h
      | brk=>exact False.elim h
      | cont=>exact False.elim h
      | ret u =>
        obtain⟨v,H',os,bare,un,hok',r',q⟩:=h
        have q':v=.bl true:=q
        subst q'
        obtain rfl:u=Value.bool true:=r'
        refine⟨rfl,OldK.of_keep fun b o e=>?_,os,bare⟩
        cases q:H b with
        | none=>exact un.keep b o e q (by intro z;exact absurd (show b ∈ ([]:List Addr) from z) (by simp)) (by simp)
        | some u =>
          rcases hO b with z | ⟨ob,xs,z⟩
          · rw [q] at z;cases z
          · have z2:=un.ko b ob _ z
            obtain⟨e1,_⟩:=aT b _ z
            obtain⟨e2,_⟩:=hok' b _ z2
            rw [e] at e1;cases e1
            exact e2
  cases hk:K.lookup a with
  | some o =>
    have e:=KX a o hk
    rw [ha] at e
    cases e
    refine core (fun _=>none) (fun _=>.inl rfl) (.inr ⟨_,vs.toArray,_,hk,rfl,rfl,rfl,by rw [List.size_toArray,lenV];exact hl,by simpa using rv⟩) (fun b u z=>by have z':(none:Option HO)=some u:=z;cases z') (fun b z=>absurd rfl z) fun z=>absurd rfl z
  | none =>
    refine core (fun b=>if b=a then some (.mX { cls:=.type "list",data:=.seq vs.toArray } (.lst (ns.map V.int))) else none) (fun b=>?_) (.inl (.inr ⟨{ cls:=.type "list",data:=.seq vs.toArray },if_pos rfl⟩)) (fun b u z=>?_) (fun b z=>?_) fun _=>hk
    · by_cases hb:b=a
      · exact .inr ⟨_,_,if_pos hb⟩
      · exact .inl (if_neg hb)
    · by_cases hb:b=a
      · have z':=(if_pos hb).symm.trans z
        cases z'
        subst hb
        exact⟨ha,by rw [List.length_map];exact hl,vs,_,rv,ha⟩
      · have z':=(if_neg hb).symm.trans z
        cases z'
    · by_cases hb:b=a
      · exact hb
      · exact absurd (if_neg hb) z
abbrev KOf {K:PySem.W.Frag} {h:Heap} (_:K.In h):PySem.W.Frag:=K
theorem AO {l:PySem.W.OpenLaw} {n k:Nat} {q:Program} {loose:List Str} {XP:(Str->Option Value)->Heap->Prop} {YP:World->Heap->Prop} {d:DefRec} {K:Params->PySem.W.Frag} {CX:World->lI} {sp:World->Sp} {x:Str}
  (hn:l.most=some n) (hn2:n<=sizeLine) (hdf:d.params.defaults = []) (hr:cN k callerA)
  (hY:∀ (w:World) (h:Heap),YP w h->(K w.params).In h)
  (F:∀ (w:World) (mg:Str->Option Value) (fa:Addr) (h:Heap),(K w.params).In h->h.Ns mainGlobals mg->mg d.name=some (.ref fa) ->
   ∃ fd:FuncData,(∀ (s:Shared) (u:Value),BindsTo s fd ⟨[u],[]⟩ [(x,u)]) /\
    ∀ base:Heap,(K w.params).In base->base.Ns mainGlobals mg->bc l.prog w (K w.params) mg base (CX w) k fa fd [x] (sp w))
  (hsp:∀ (w:World) (H:Hp) (a:Addr) (ns:List Int),ns.length<=n->y3 H->aU (K w.params) H a (ns.map V.int)->sp w [.ref a] H (fun v _=>v=.bl true) fun _ _ _=>False)
  (hCX:∀ (w:World) (H:Hp) (s:Shared) (e:Value) (s':Shared),CX w [] H s (fun _ _ _=>False) e s'->False) :
  PySem.W.WalkO q loose XP YP l.row.toRowW d [] (fun f vs=>PySem.call f vs):=by
 refine Dm.um hn hdf fun w eC s₁ mg mb fa o pm cd doc a vs ns G Y ho hd hcd hmg hobj hints hlen hg=>?_
 have KX:=hY w _ Y
 obtain⟨fd,hb,hF⟩:=F w mg fa _ KX G.T.g hmg
 exact y4 KX G.T.g G.T.b G.T.builtins G.T.nolimit hg hobj hints (Nat.le_trans hlen hn2) hr hF hb (fun H hO hS=>hsp w H a ns hlen hO hS) fun H e s'=>hCX w H s₁ e s'
def inClass (s:Stmt) (j:Nat):Stmt:=match s with
 | .ClassDef _ _ _ body _ _ _ _ _ _ _=>body.getD j (.Pass ⟨0,0,0,0⟩)
 | _=>.Pass ⟨0,0,0,0⟩
def aK (s:Stmt):Arguments:=match s with
 | .FunctionDef _ a _ _ _ _ _ _ _ _=>a
 | _=>{ posonlyargs:=[],args:=[],vararg:=none,kwonlyargs:=[],kw_defaults:=[],kwarg:=none,defaults:=[] }
def aI (s:Stmt):List Stmt:=match s with
 | .FunctionDef _ _ b _ _ _ _ _ _ _=>b
 | _=>[]
def ar (s:Stmt):Scope:=match s with
 | .FunctionDef _ _ _ _ _ _ sc _ _ _=>sc
 | _=>{ kind:=.function,names:=[],isGenerator:=false,isCoroutine:=false }
abbrev bO:lI:=fun _ _ _ _ _ _=>False
abbrev E0:XK:=fun _ _ _=>False
theorem rY {X:Cx}:Passes bO X E0:=fun _ _ _ _ _ _ _ h=>h.elim
structure bQ (K:PySem.W.Frag) (x qual:Str) (st:Stmt) (f:Addr) (fd:FuncData):Prop where
 ex:∃ (oc:Value) (od:Option Addr) (kV doc pm:Value) (an:Option Addr) (cdv ct:Value) (osl:Array (Option Value)),
  fd=PySem.W.fnOf x qual (aK st) (aI st) (ar st) .none kV doc pm an cdv ct/\K.lookup f=some ⟨oc,od,.func fd,osl⟩/\PySem.W.codeIn K cdv qual=true
 kp:PySem.W.keepIn K (.ref f)=true
section
variable {P:Program} {w:World} {K:PySem.W.Frag} {mg:Str->Option Value} {base:Heap}
theorem bQ.ok {x qual:Str} {st:Stmt} {f:Addr} {fd:FuncData} {N ps:List Str} {k:Nat} {sp:Sp} (F:bQ K x qual st f fd) (S:aL N ps (ar st)) (len:∀ vs H Q E,sp vs H Q E->vs.length=ps.length)
  (hbody:∀ (cdv:Value) (A:Around) (outer:List Env) (s:Shared) (H:Hp) (vs:List V) (Q:VK) (E:XK),cN k (A.deeper (envOfC qual (ar st) s.heap.objs.size f cdv))->sp vs H Q E ->
   ∃ t,jG (nz bO P w K mg base N qual (ar st) f cdv A outer s H E).uM (aI st) t/\t { nx:=fun _ H'=>Q .bI H',rt:=Q } (start N vs) H):bc P w K mg base bO (k+1) f fd ps sp:=by
 obtain⟨oc,od,kV,doc,pm,an,cdv,ct,osl,rfl,lk,hcd⟩:=F.ex
 refine Ah lk hcd S len fun A outer s H vs Q E hr hsp=>?_
 obtain⟨t,h,q⟩:=hbody cdv A outer s H vs Q E hr hsp
 exact⟨t,h.uM,q⟩
theorem bQ.binds {x qual:Str} {st:Stmt} {f:Addr} {fd:FuncData} {ps:List Str} (F:bQ K x qual st f fd)
  (h:∀ (kV doc pm:Value) (an:Option Addr) (cdv ct:Value) (us:List Value),us.length=ps.length->bindArgs (PySem.W.fnOf x qual (aK st) (aI st) (ar st) .none kV doc pm an cdv ct) ⟨us,[]⟩=pure (ps.zip us)):Binds K fd ps []:=by
 obtain⟨oc,od,kV,doc,pm,an,cdv,ct,osl,rfl,lk,hcd⟩:=F.ex
 exact .all (h kV doc pm an cdv ct)
theorem aV {x qual:Str} {st:Stmt} {f:Addr} {oc:Value} {od an:Option Addr} {osl:Array (Option Value)} {kV doc pm cdv ct:Value} (l:K.lookup f=some ⟨oc,od,.func (PySem.W.fnOf x qual (aK st) (aI st) (ar st) .none kV doc pm an cdv ct),osl⟩)
  (c:PySem.W.codeIn K cdv qual=true) (k:PySem.W.keepIn K (.ref f)=true):bQ K x qual st f (PySem.W.fnOf x qual (aK st) (aI st) (ar st) .none kV doc pm an cdv ct):=⟨⟨oc,od,kV,doc,pm,an,cdv,ct,osl,rfl,l,c⟩,k⟩
end
theorem dH {A:Around} {k:Nat} (hr:cN k A):A.units+1 < cLine:=Nat.lt_of_le_of_lt (Nat.add_le_add_left (by decide:1<=64) _) hr.units
theorem bL {n:Nat} (h:n<=1000):n < sizeLine:=Nat.lt_of_le_of_lt h (by decide)
section
variable {X:Cx}
theorem pv (i:Nat) {x:Str} {pos:Pos} (hN:X.N[i]? = some x:=by rfl) (hv:z9 X.env.scope x:=by first | exact Or.inl rfl | exact Or.inr (Or.inl rfl) | exact Or.inr (Or.inr rfl)) (hd:(x == ("__debug__" : Str))=false:=by decide)
  (hcd:(x == ("__classdict__" : Str))=false:=by decide):PE X (.Name x pos) (BE i):=BF hN hv hd hcd
end
theorem cB {A B:Prop} (h:B):if false=true then A else B:=by
 rw [if_neg Bool.false_ne_true]
 exact h
theorem cm {A B:Prop} (h:A):if true=true then A else B:=by
 rw [if_pos rfl]
 exact h
theorem dX {c A B:Prop} [Decidable c] (h1:c->A) (h2:¬ c->B):if c then A else B:=by
 by_cases h:c
 ·rw [if_pos h]
  exact h1 h
 ·rw [if_neg h]
  exact h2 h
def au (H H':Hp):Prop:=∀ b o,H b=some o->H' b=some o
theorem au.refl (H:Hp):au H H:=fun _ _ h=>h
theorem au.trans {H H1 H2:Hp} (a:au H H1) (b:au H1 H2):au H H2:=fun c o h=>b c o (a c o h)
theorem au.free {H H':Hp} (e:au H H') {l:Addr} (h:H' l=Option.none):H l=Option.none:=by
 cases q:H l with
 | none=>rfl
 | some o =>
  rw [e l o q] at h
  cases h
theorem au.seq {K:PySem.W.Frag} {H H':Hp} {a:Addr} {xs:List V} (e:au H H') (h:aU K H a xs):aU K H' a xs:=by
 rcases h with (h | ⟨o,h⟩) | h
 ·exact .inl (.inl (e _ _ h))
 ·exact .inl (.inr ⟨o,e _ _ h⟩)
 ·exact .inr h
section
variable {X:Cx}
theorem AQ:fm X (binaryOp .Mult) (rI IntMulOk fun i j=>.int (i * j)):=uO fun _ _ _ _ _ _ _ hc q=>mul_int q hc
def C5 (_i j:Int):Prop:=0 < j/\j.natAbs.log2 < 9000
theorem y6:fm X (binaryOp .FloorDiv) (rI C5 fun i j=>.int (i / j)):=uO fun i j _ _ _ _ _ hc q=>by
 have h1:(0:Int) < j:=hc.1
 exact floordiv_int (by omega) (by rw [Int.fdiv_eq_ediv_of_nonneg i (by omega)];exact q) (.inl (PyProof.noPylong_of_log2 hc.2))
structure Own (P:Program) (w:World) (K:PySem.W.Frag) (mg:Str->Option Value) (base:Heap) (x:Str) (k:Nat) (ps:List Str) (sp:Sp):Prop where
 ex:∃ f fd,bc P w K mg base bO k f fd ps sp/\mg x=some (.ref f)/\PySem.W.keepIn K (.ref f)=true/\Binds K fd ps []
variable {x:Str} {k:Nat} {ps:List Str} {sp:Sp} {e:Expr} {es:List Expr} {t:TA} {p pos:Pos}
theorem aB (o:Own X.prog X.w X.K X.mg X.base x k ps sp) (hr:cN k X.A) (hg:Gl X x) (ha:PA X (e :: es) t)
  (hdb:(x == ("__debug__" : Str))=false:=by decide) (he:starEach (e :: es) X.env=(false,eval e X.env) :: starEach es X.env:=by rfl)
  (hpl:(backTo pos (starEach es X.env)).any (·.1)=false:=by rfl):PE X (.Call (.Name x p) (e :: es) [] pos) (Af sp [] E0 t):=by
 obtain⟨f,fd,F,hm,hk,hb⟩:=o.ex
 exact AF F hr hg hm hk hb .nil rY ha hdb he hpl
end
theorem bH {α : Type} {x:α} {xs:List α}:fD (x :: xs) 0=some x:=bw (j:=0) rfl
theorem dB {α : Type} {x y:α} {xs:List α}:fD (x :: y :: xs) 1=some y:=bw (j:=1) rfl
theorem at2 {α : Type} {x y z:α} {xs:List α}:fD (x :: y :: z :: xs) 2=some z:=bw (j:=2) rfl
theorem vU {α : Type} {xs:List α} {i:Int} (h0:0<=i) (h1:i < xs.length):∃ v,fD xs i=some v/\v ∈ xs:=by
 obtain⟨j,rfl⟩:∃ j:Nat,i=j:=⟨i.toNat,by omega⟩
 have hj:j < xs.length:=by omega
 exact⟨xs[j],bw (by simp [hj]),List.getElem_mem hj⟩
theorem cK:bootBuiltins "len" = some (.builtin "len"):=by decide +kernel
theorem sL:bootBuiltins "min" = some (.builtin "min"):=by decide +kernel
theorem Ci:bootBuiltins "max" = some (.builtin "max"):=by decide +kernel
theorem xy:bootBuiltins "int" = some (.type "int"):=by decide +kernel
theorem bZ:bootBuiltins "tuple" = some (.type "tuple"):=by decide +kernel
theorem uV:bootBuiltins "list" = some (.type "list"):=by decide +kernel
def di (H:Hp) (b:Addr):Prop:=∃ x y:Int,H b=some (.lst [.int x,.int y])/\0<=y/\y < 2147483648
def Fix (b:Addr) (H H':Hp):Prop:=∀ c o,H c=some o->c ≠ b->H' c=some o
theorem Fix.trans {b:Addr} {H H1 H2:Hp} (u:Fix b H H1) (v:Fix b H1 H2):Fix b H H2:=fun c o h n=>v c o (u c o h n) n
theorem Fix.Ai {b:Addr} {H:Hp} {o:HO}:Fix b H (upd H b o):=fun c u h n=>by rw [ai n];exact h
theorem Fix.new {b p:Addr} {H:Hp} {o:HO} (hp:H p=none):Fix b H (upd H p o):=fun c u h _=>by rw [ai (aw h hp)];exact h
theorem Fix.of_same {b:Addr} {H H':Hp} (h:au H H'):Fix b H H':=fun c o e _=>h c o e
theorem au.new {p:Addr} {H:Hp} {o:HO} (hp:H p=none):au H (upd H p o):=fun c u h=>by rw [ai (aw h hp)];exact h
theorem di.new {b p:Addr} {H:Hp} {o:HO} (h:di H b) (hp:H p=none):di (upd H p o) b:=by
 obtain⟨x,y,e,q⟩:=h
 exact⟨x,y,by rw [ai (aw e hp)];exact e,q⟩
theorem di.same {b:Addr} {H H':Hp} (h:di H b) (s:au H H'):di H' b:=by
 obtain⟨x,y,e,q⟩:=h
 exact⟨x,y,s _ _ e,q⟩
theorem xA {α : Type} {x0:α}:[x0].length<=sizeLine:=by show 1<=sizeLine;decide
theorem ln2 {α : Type} {x0 x1:α}:[x0,x1].length<=sizeLine:=by show 2<=sizeLine;decide
theorem qP {α : Type} {x0 x1 x2:α}:[x0,x1,x2].length<=sizeLine:=by show 3<=sizeLine;decide
theorem Eb {α : Type} {x0 x1 x2 x3 x4:α}:[x0,x1,x2,x3,x4].length<=sizeLine:=by show 5<=sizeLine;decide
theorem lL {α : Type} {x0 x1 x2 x3 x4 x5 x6:α}:[x0,x1,x2,x3,x4,x5,x6].length<=sizeLine:=by show 7<=sizeLine;decide
theorem au.oE {b:Addr} {H H1 H2:Hp} (s:au H H1) (n:H b=none) (f:Fix b H1 H2):au H H2:=fun c o e=>f c o (s c o e) (aw e n)
theorem di.sM {b p:Addr} {H:Hp} {xs:List V} (h:di H b) (e:H p=some (.tup xs)):p ≠ b:=by
 obtain⟨x,y,e1,_⟩:=h
 exact bA e e1 (by intro z;cases z)
theorem di.eE {b p:Addr} {H:Hp} (h:di H b) (e:H p=none):p ≠ b:=by
 obtain⟨x,y,e1,_⟩:=h
 exact fun z=>aw e1 e z.symm
def vV (K:PySem.W.Frag):Sp:=fun vs H Q _=>∃ (a:Addr) (ns:List Int) (k:Int),vs = [.ref a,.int k]/\aU K H a (ns.map V.int)/\0<=k /\
 ∀ b H',H b=none->di H' b->au H H'->Q (.ref b) H'
def gN:Sp:=fun vs H Q _=>∃ (b:Addr) (m:Int),vs = [.ref b,.int m]/\di H b/\(0 < m/\m.natAbs.log2 < 9000) /\
 ∀ r H',0<=r->r < m->di H' b->Fix b H H'->Q (.int r) H'
def rZ (K:PySem.W.Frag):Sp:=fun vs H Q _=>∃ (a:Addr) (ns:List Int),vs = [.ref a]/\aU K H a (ns.map V.int)/\ns.length<=63/\∀ H',Q (.bl true) H'
def j6 (cells:List (Str × Addr)):List (Str × NameKind)->List (Str × Addr)->List (Str × Addr)
 | [],cs=>cs
 | (n,k) :: r,cs=>j6 cells r (if k == .free then (n,(cells.lookup n).getD 0) :: cs else cs)
theorem oF {scope:Scope} {env:Env} (hf:∀ y ∈ scope.names,y.2=.free->∃ c,env.cells.lookup y.1=some c):closureFor scope env=pure (j6 env.cells scope.names []):=by
 have key:∀ (names:List (Str × NameKind)) (cs:List (Str × Addr)),(∀ y ∈ names,y.2=.free->∃ c,env.cells.lookup y.1=some c) ->
   (forIn names cs fun x r=>match x with
    | (name,kind)=>if (kind == NameKind.free)=true then (do let a <-cellOf env name;pure (ForInStep.yield ((name,a) :: r))) else pure (ForInStep.yield r):Sem (List (Str × Addr)))=pure (j6 env.cells names cs):=by
  intro names
  induction names with
  | nil=>intro cs _;rfl
  | cons y r ih =>
   intro cs hy
   obtain⟨n,k⟩:=y
   have ih':=fun cs=>ih cs fun z hz=>hy z (List.mem_cons_of_mem _ hz)
   rw [List.forIn_cons]
   by_cases hk:(k == NameKind.free)=true
   ·have e:k=.free:=by simpa using hk
    obtain⟨c,hc⟩:=hy (n,k) List.mem_cons_self e
    have hc':env.cells.lookup n=some c:=hc
    simp only [hk,if_true,cellOf,hc',pure_bind,j6,Option.getD_some]
    exact ih' _
   ·have hk':(k == NameKind.free)=false:=by simpa using hk
    simp only [hk',Bool.false_eq_true,if_false,pure_bind,j6]
    exact ih' _
 unfold closureFor
 have e:=key scope.names [] hf
 show ((forIn scope.names ([]:List (Str × Addr)) fun x r=>match x with
    | (name,kind)=>if (kind == NameKind.free)=true then (do let a <-cellOf env name;pure (ForInStep.yield ((name,a) :: r))) else pure (ForInStep.yield r):Sem (List (Str × Addr))) >>= fun r=>pure r)=_
 rw [e,pure_bind]
theorem lM {cells:List (Str × Addr)}:∀ (names:List (Str × NameKind)) (cs:List (Str × Addr)),(∀ y ∈ names,y.2=.free->∃ c,cells.lookup y.1=some c) ->
  (∀ x c,cs.lookup x=some c->cells.lookup x=some c)->∀ x c,(j6 cells names cs).lookup x=some c->cells.lookup x=some c
 | [],_,_,h,x,c,e=>h x c e
 | (n,k) :: r,cs,hf,h,x,c,e=>by
  refine lM r _ (fun y hy=>hf y (List.mem_cons_of_mem _ hy)) (fun z d hz=>?_) x c e
  by_cases hk:(k == NameKind.free)=true
  ·rw [if_pos hk] at hz
   obtain⟨c',hc⟩:=hf (n,k) List.mem_cons_self (by simpa using hk)
   have hc':cells.lookup n=some c':=hc
   rw [List.lookup_cons] at hz
   cases hzn:z == n with
   | true =>
    rw [hzn] at hz
    have:z=n:=by simpa using hzn
    subst this
    rw [hc'] at hz ⊢
    simpa using hz
   | false=>rw [hzn] at hz;exact h z d hz
  ·rw [if_neg hk] at hz;exact h z d hz
theorem pS {cells:List (Str × Addr)} {x:Str}:∀ (names:List (Str × NameKind)) (cs:List (Str × Addr)),((x,NameKind.free) ∈ names\/∃ c,cs.lookup x=some c)->∃ c,(j6 cells names cs).lookup x=some c
 | [],_,h=>by
  rcases h with h | h
  ·cases h
  ·exact h
 | (n,k) :: r,cs,h=>by
  refine pS r _ ?_
  by_cases hk:(k == NameKind.free)=true
  ·rw [if_pos hk]
   cases hxn:x == n with
   | true=>exact .inr ⟨_,by rw [List.lookup_cons,hxn]⟩
   | false =>
    rcases h with h | ⟨c,h⟩
    ·rcases List.mem_cons.mp h with h | h
     ·have:x=n:=(Prod.mk.inj h).1
      subst this
      simp at hxn
     ·exact .inl h
    ·exact .inr ⟨c,by rw [List.lookup_cons,hxn];exact h⟩
  ·rw [if_neg hk]
   rcases h with h | h
   ·rcases List.mem_cons.mp h with h | h
    ·have:NameKind.free=k:=(Prod.mk.inj h).2
     subst this
     simp at hk
    ·exact .inl h
   ·exact .inr h
theorem jr {env:Env} {x:Str} {k:NameKind} (hk:k=.cell\/k=.free):∀ {names:List (Str × NameKind)},(∀ y ∈ names,y.2 ≠ .cell) ->
  (names.map fun (n,k)=>if (k == NameKind.free && env.scope.kind == .function && env.kindOf n == some .cell) then (n,NameKind.cell) else (n,k)).lookup x=some k->(x,NameKind.free) ∈ names
 | [],_,h=>by simp at h
 | (n,q) :: r,hc,h=>by
  have ih:=jr (env:=env) (x:=x) hk (names:=r) (fun y hy=>hc y (List.mem_cons_of_mem _ hy))
  have h':List.lookup x ((if (q == NameKind.free && env.scope.kind == .function && env.kindOf n == some .cell)=true then (n,NameKind.cell) else (n,q)) :: _)=some k:=h
  by_cases hq:(q == NameKind.free && env.scope.kind == .function && env.kindOf n == some .cell)=true
  ·rw [if_pos hq,List.lookup_cons] at h'
   have eq:q=.free:=by
    rw [Bool.and_eq_true,Bool.and_eq_true] at hq
    simpa using hq.1.1
   cases hxn:x == n with
   | true =>
    have:x=n:=by simpa using hxn
    subst this;subst eq
    exact List.mem_cons_self
   | false=>rw [hxn] at h';exact List.mem_cons_of_mem _ (ih h')
  ·rw [if_neg hq,List.lookup_cons] at h'
   cases hxn:x == n with
   | true =>
    rw [hxn] at h'
    have:x=n:=by simpa using hxn
    subst this
    have e:q=k:=Option.some.inj h'
    subst e
    rcases hk with hk | hk
    ·exact absurd hk (hc (x,q) List.mem_cons_self)
    ·subst hk;exact List.mem_cons_self
   | false=>rw [hxn] at h';exact List.mem_cons_of_mem _ (ih h')
theorem lN {env:Env} {x:Str}:∀ {names:List (Str × NameKind)},names.lookup x=some .free ->
  (names.map fun (n,k)=>if (k == NameKind.free && env.scope.kind == .function && env.kindOf n == some .cell) then (n,NameKind.cell) else (n,k)).lookup x=some .cell \/
  (names.map fun (n,k)=>if (k == NameKind.free && env.scope.kind == .function && env.kindOf n == some .cell) then (n,NameKind.cell) else (n,k)).lookup x=some .free
 | [],h=>by simp at h
 | (n,q) :: r,h=>by
  have ih:=lN (env:=env) (x:=x) (names:=r)
  show List.lookup x ((if (q == NameKind.free && env.scope.kind == .function && env.kindOf n == some .cell)=true then (n,NameKind.cell) else (n,q)) :: _)=some .cell \/
   List.lookup x ((if (q == NameKind.free && env.scope.kind == .function && env.kindOf n == some .cell)=true then (n,NameKind.cell) else (n,q)) :: _)=some .free
  rw [List.lookup_cons] at h
  by_cases hq:(q == NameKind.free && env.scope.kind == .function && env.kindOf n == some .cell)=true
  ·rw [if_pos hq,List.lookup_cons]
   cases hxn:x == n with
   | true=>exact .inl rfl
   | false=>rw [hxn] at h;exact ih h
  ·rw [if_neg hq,List.lookup_cons]
   cases hxn:x == n with
   | true=>rw [hxn] at h;exact .inr h
   | false=>rw [hxn] at h;exact ih h
def hZ (X:Cx) (scope:Scope) (C:Addr) (N':List Str) (fp:List Addr) (s₁ : Shared) (H₁ : Hp):Cx where
 prog:=X.prog
 w:=X.w
 K:=X.K
 mg:=X.mg
 base:=X.base
 A:=X.A
 N:=N'
 eC:=s₁
 si:=H₁
 env:=compEnvC scope (j6 X.env.cells scope.names []) C X.env
 outer:=X.stack
 stack:=X.stack
 ex:=fp
 fn:=fun _=>false
 calm:=X.calm
 pn:=[]
 xe:=fun _ _=>False
def iu (X:Cx) (scope:Scope):List Str->List Nat->Prop
 | [],[]=>True
 | x :: fr,j :: js=>(X.N[j]? = some x/\(X.env.kindOf x=some .cell\/X.env.kindOf x=some .free)/\scope.names.lookup x=some .free)/\iu X scope fr js
 | _,_=>False
theorem iu.len {X:Cx} {scope:Scope}:∀ {fr:List Str} {js:List Nat},iu X scope fr js->fr.length=js.length
 | [],[],_=>rfl
 | _ :: _,_ :: _,h=>by simp [iu.len h.2]
 | [],_ :: _,h=>h.elim
 | _ :: _,[],h=>h.elim
theorem iu.mem {X:Cx} {scope:Scope} {x:Str}:∀ {fr:List Str} {js:List Nat},iu X scope fr js->x ∈ fr->X.env.kindOf x=some .cell\/X.env.kindOf x=some .free
 | [],[],_,h=>by cases h
 | a :: fr,b :: js,h,hm=>by
  rcases List.mem_cons.mp hm with rfl | hm
  ·exact h.1.2.1
  ·exact iu.mem h.2 hm
 | [],_ :: _,h,_=>h.elim
 | _ :: _,[],h,_=>h.elim
theorem iu.get {X:Cx} {scope:Scope}:∀ {fr:List Str} {js:List Nat} {i:Nat} {x:Str} {j:Nat},iu X scope fr js->fr[i]? = some x->js[i]? = some j ->
  X.N[j]? = some x/\(X.env.kindOf x=some .cell\/X.env.kindOf x=some .free)/\scope.names.lookup x=some .free
 | [],[],_,_,_,_,h,_=>by simp at h
 | a :: fr,b :: js,0,x,j,h,h1,h2=>by
  simp at h1 h2
  subst h1;subst h2
  exact h.1
 | a :: fr,b :: js,i+1,x,j,h,h1,h2=>iu.get h.2 (by simpa using h1) (by simpa using h2)
 | [],_ :: _,_,_,_,h,_,_=>h.elim
 | _ :: _,[],_,_,_,h,_,_=>h.elim
def m4 (n:Nat) (js:List Nat) (σ : St):St:=List.replicate n none++js.map fun j=>σ.getD j none
theorem Cj {X:Cx} {pins:List (Addr × Obj)} {σ : St} {H:Hp} {s:Shared} {scope:Scope} {fp:List Addr} {C:Addr} {N':List Str} (I:Inv X pins σ H s) (hk:scope.kind=.function) (hcell:∀ y ∈ scope.names,y.2 ≠ .cell)
  (hf:∀ y ∈ scope.names,y.2=.free->∃ c,X.env.cells.lookup y.1=some c) (hC:s.heap.objs.size<=C) (hfp:∀ b ∈ fp,ji X pins H b) (hlt:∀ b ∈ fp,b < s.heap.objs.size):(hZ X scope C N' fp s H).Ok:=by
 have ag:∀ x c,(j6 X.env.cells scope.names []).lookup x=some c->X.env.cells.lookup x=some c:=lM scope.names [] hf fun x c e=>by simp at e
 refine⟨I.ok.mod,hk,I.ok.glob,I.ok.blt,hC,fun x y c h1 h2=>I.ok.inj x y c (ag x c h1) (ag y c h2),fun x hx=>?_,(fun x c h=>(by cases h)),I.ok.hd,I.ok.frames,.inl rfl,fun b hb=>?_,I.bs,?_,fun b o e hb=>?_,fun b hb=>?_,I.stack,I.uK⟩
 ·refine pS scope.names [] (.inl ?_)
  rcases hx with hx | hx
  ·exact jr (.inl rfl) hcell hx
  ·exact jr (.inr rfl) hcell hx
 ·obtain⟨h1,h2,h3,h4,h5,h6⟩:=hfp b hb
  exact⟨Nat.ne_of_lt (Nat.lt_of_lt_of_le (hlt b hb) hC),fun x c e=>h5 x c (ag x c e)⟩
 ·exact Nat.le_trans I.ok.om I.sz
 ·obtain⟨h1,h2,h3,h4,h5,h6⟩:=hfp b hb
  rcases h4 with h4 | h4
  ·exact I.ok.sj b o e h4
  ·exact absurd (Nat.lt_of_lt_of_le (Heap.lt_size e) (Nat.le_trans I.ok.om h4)) (Nat.lt_irrefl _)
 ·obtain⟨h1,h2,h3,h4,h5,h6⟩:=hfp b hb
  intro z
  rcases List.mem_cons.mp (I.oo b z) with z | z
  ·exact h2 z
  ·exact h3 z
def uW (J:It) (n:Nat) (js:List Nat) (g:TG) (ct:TT) (te:TE) (acc:Addr) (σ : St) (H1:Hp) (Q:VK):Prop :=
 ∃ W:Nat->Nat->List V->St->Hp->Prop,(∃ m,W 0 m [] (m4 n js σ) (upd H1 acc (.lst [])))/\∀ i m ys τ H2,W i m ys τ H2->H2 acc=some (.lst ys)/\ys.length < sizeLine /\
  ((J.stop i H2/\Q (.ref acc) H2)\/(J.go i H2/\∃ N:List V->St->Hp->Prop,(∀ ys' τ' H',N ys' τ' H'->∃ m',m' < m/\W (i+1) m' ys' τ' H')/\∀ x H3,J.xg i H2 x H3->g x τ H3 fun τ1 H4=>ct τ1 H4 fun b H5 =>
   if b=true then te τ1 H5 fun y H6=>H6 acc=some (.lst ys)/\N (ys ++ [y]) τ1 (upd H6 acc (.lst (ys ++ [y]))) else N ys τ1 H5))
def Dn (n:Nat) (js:List Nat) (wi:TI) (g:TG) (ct:TT) (te:TE):TE:=fun σ H Q=>wi σ H fun J H1=>∀ acc,H1 acc=none->uW J n js g ct te acc σ H1 Q
def xB (X:Cx) (ifs:List Expr) (t:TT):Prop :=
 ∀ (pins:List (Addr × Obj)) (s:Shared) (σ : St) (H:Hp) (Q:Bool->Hp->Prop),Inv X pins σ H s->t σ H Q ->
  wpAny (model X.prog X.w) X.A (forIn ifs true fun c r=>if r=true then do let ok <-isTrue c X.env (eval c X.env);pure (ForInStep.yield ok) else pure (ForInStep.yield r)) (TP X pins σ Q) X.xe s
def Ck:TT:=fun _ H Q=>Q true H
theorem fb {X:Cx}:xB X [] Ck:=fun _ _ σ H Q I h=>wpAny_pure ⟨H,I,h⟩
theorem pT {X:Cx} {c:Expr} {t:TT} (h:PT X c t):xB X [c] t:=by
 intro pins s σ H Q I q
 rw [List.forIn_cons]
 simp only [if_true,bind_assoc,pure_bind]
 refine wpAny_bind (ba (h pins s σ H Q I q) fun b s1 h1=>?_)
 exact wpAny_pure h1
section
variable {X:Cx} {pos:Pos}
theorem lj {prog:Program} {w:World} {A:Around} {R:Result->Shared->Prop} {s:Shared} {elt target iter:Expr} {ifs:List Expr} {scope:Scope} {pos:Pos} {it acc:Value} {env:Env} (I:Nat->Shared->Prop)
  (turn:∀ n s,I n s->wpAny (model prog w) A (pyNext it) (fun r s₁=>match r with
   | none=>R (.ok .next) s₁
   | some v=>wpAny (model prog w) A (letOwnedTupleGo target it v) (fun _ s₁'=>wpAny (model prog w) A (assign target env v) (fun _ s₂ =>
     wpAny (model prog w) A (forIn ifs true fun c r=>if r=true then do let ok <-isTrue c env (eval c env);pure (ForInStep.yield ok) else pure (ForInStep.yield r)) (fun ok s₃ =>
      if ok=true then wpAny (model prog w) A (eval elt env) (fun x s₄ =>
       wpAny (model prog w) A (call (.builtin "list.append") [acc,x]) (fun _ s₅=>∃ m,m < n/\I m s₅) (fun _ _=>False) s₄) (fun _ _=>False) s₃
      else ∃ m,m < n/\I m s₃) (fun _ _=>False) s₂) (fun _ _=>False) s₁') (fun _ _=>False) s₁) (fun _ _=>False) s)
  (n:Nat) (h:I n s) :
  codeAny (model prog w) A (.compLoop (.ListComp elt [⟨target,iter,ifs,0⟩] scope pos) 0 it acc env) R s:=by
 refine codeAny_loop rfl I (fun n s hI=>?_) n h
 show wpAny _ A ((compTurn (.ListComp elt [⟨target,iter,ifs,0⟩] scope pos) 0 it acc env).onRaise (fun x=>do noteFrame x env;theTreesLotGoes x)) _ _ s
 refine wpAny_noted ?_
 rw [compTurn_list]
 refine wpAny_bind (wpAny_standAt (wpAny_bind (wpAny_mono (turn n s hI) (fun r s₁ h₁=>?_) fun _ _ h'=>h'.elim)))
 cases r with
 | none=>exact wpAny_pure h₁
 | some v =>
  refine wpAny_bind (wpAny_mono h₁ (fun _ s₁' h₁'=>?_) fun _ _ h'=>h'.elim)
  refine wpAny_bind (wpAny_mono h₁' (fun _ s₂ h₂=>wpAny_bind (wpAny_mono h₂ (fun ok s₃ h₃=>?_) fun _ _ h'=>h'.elim)) fun _ _ h'=>h'.elim)
  cases ok with
  | false=>exact wpAny_pure ⟨rfl,h₃⟩
  | true =>
   exact wpAny_bind (wpAny_bind (wpAny_mono h₃ (fun x s₄ h₄=>wpAny_bind (wpAny_mono h₄ (fun _ s₅ h₅=>wpAny_pure (wpAny_pure ⟨rfl,h₅⟩)) fun _ _ h'=>h'.elim)) fun _ _ h'=>h'.elim))
theorem uX {pins:List (Addr × Obj)} {σ : St} {H:Hp} {s:Shared} {E:Value->Shared->Prop} {tg elt iter:Expr} {ifs:List Expr} {scope:Scope} {g:TG} {ct:TT} {te:TE} {ts fr:List Str} {js:List Nat}
    {it:Addr} {fp:List Addr} {tn:Nat->Heap->Prop} {J:It} {Q:VK} {RR:Value->Addr->Result->Shared->Prop}
    (hc:X.calm=true) (hkind:scope.kind=.function) (hcell:∀ y ∈ scope.names,y.2 ≠ .cell) (hfree:∀ y ∈ scope.names,y.2=.free->X.env.kindOf y.1=some .cell\/X.env.kindOf y.1=some .free)
    (hfr:iu X scope fr js) (htg:∀ C fp s₁ H₁,PG (hZ X scope C (ts++fr) fp s₁ H₁) tg g) (hct:∀ C fp s₁ H₁,xB (hZ X scope C (ts++fr) fp s₁ H₁) ifs ct) (hte:∀ C fp s₁ H₁,PE (hZ X scope C (ts++fr) fp s₁ H₁) elt te)
    (I:Inv X pins σ H s) (T:Turn X.prog X.w X.K tg J fp it tn) (st:tn 0 s.heap) (hfp:∀ b ∈ fp,ji X pins H b)
    (h:∀ acc,H acc=none->uW J ts.length js g ct te acc σ H Q)
    (hRR:∀ acc C H' s' m,Inv X pins σ H' s'->s'.heap.Ns C m->H' C=none->s.heap.objs.size<=C->Q (.ref acc) H'->RR (.ref acc) C (.ok .next) s') :
    wpAny (model X.prog X.w) X.A (newList []) (fun acc s₃=>wpAny (model X.prog X.w) X.A (newFunctionEnv scope X.env.globals (j6 X.env.cells scope.names []) [] X.env.qual none .none (some X.env)) (fun cenv s₄ =>
      codeAny (model X.prog X.w) X.A (.compStart (.ListComp elt [⟨tg,iter,ifs,0⟩] scope pos) 0 (.ref it) acc { cenv with scope:=relabel scope X.env }) (RR acc cenv.locals) s₄) E s₃) E s:=by
  have hf:∀ y ∈ scope.names,y.2=.free->∃ c,X.env.cells.lookup y.1=some c:=fun y hy e=>I.ok.has y.1 (hfree y hy e)
  have ag:∀ x c,(j6 X.env.cells scope.names []).lookup x=some c->X.env.cells.lookup x=some c:=lM scope.names [] hf fun x c e=>by simp at e
  have hlt:∀ b ∈ fp,b < s.heap.objs.size:=fun b hb=>by
    obtain⟨o,e,_⟩:=T.obj _ _ st b hb
    exact Heap.lt_size e
  refine wpAny_newObj_type (wpAny_newFunctionEnv hcell (by intro y hy;simp at hy) (fun h₁ hns₁ hsb₁=>?_) hkind)
  dsimp only at hns₁ hsb₁ ⊢
  generalize hH2:s.heap.push { cls:=.type "list",dict:=none,data:=.seq ([]:List Value).toArray }=G2 at hns₁ hsb₁ ⊢
  have hC:G2.objs.size=s.heap.objs.size+1:=by rw [<-hH2,Heap.size_push]
  have hDC:s.heap.objs.size ≠ G2.objs.size:=by rw [hC];exact Nat.ne_of_lt (Nat.lt_succ_self _)
  have hCle:s.heap.objs.size<=G2.objs.size:=by rw [hC];exact Nat.le_succ _
  have below:∀ b,b < s.heap.objs.size->b ≠ G2.objs.size/\b ≠ s.heap.objs.size:=fun b hb=>⟨by rw [hC];exact Nat.ne_of_lt (Nat.lt_succ_of_lt hb),Nat.ne_of_lt hb⟩
  have old:∀ b o,s.heap.get? b=some o->h₁.get? b=some o:=fun b o e=>hsb₁.extBut b o (below b (Heap.lt_size e)).1 (Heap.get?_push_of_some _ (hH2 ▸ Heap.get?_push_of_some _ e))
  have hacc:h₁.get? s.heap.objs.size=some { cls:=.type "list",data:=.seq ([]:List Value).toArray }:=hsb₁.extBut _ _ hDC (Heap.get?_push_of_some _ (hH2 ▸ Heap.get?_push_size _ rfl))
  have nD:H s.heap.objs.size=none:=I.aT.fresh (Nat.le_refl _)
  have nC:H G2.objs.size=none:=I.aT.fresh hCle
  obtain⟨W,⟨m0,w0⟩,turn⟩:=h s.heap.objs.size nD
  generalize hXb:hZ X scope G2.objs.size (ts++fr) fp s H=Xb
  have Ib:∀ tk,Inv Xb [] (m4 ts.length js σ) (upd H s.heap.objs.size (.lst [])) { s with heap:=h₁,toks:=tk }:=by
    intro tk
    subst hXb
    refine⟨Cj I hkind hcell hf hCle hfp hlt,rfl,I.bare,Un.laid old (Nat.le_refl _) nD,⟨_,hns₁,fun i x v e1 e2 e3=>?_⟩,fun x c e=>?_,?_,fun x c e=>?_,fun p hp=>absurd (show p ∈ ([]:List (Addr × Obj)) from hp) (by simp),I.aT.laid old (Nat.le_refl _) ⟨by show 0<=sizeLine;decide,[],_,.nil,hacc⟩,?_⟩
    · have hi:ts.length<=i:=by
        refine Nat.le_of_not_lt fun hi=>?_
        unfold m4 at e2
        rw [List.getElem?_append_left (by simpa using hi),List.getElem?_replicate] at e2
        split at e2 <;> cases e2
      have e1':fr[i - ts.length]? = some x:=by
        have e1'':(ts++fr)[i]? = some x:=e1
        rw [List.getElem?_append_right hi] at e1''
        exact e1''
      unfold m4 at e2
      rw [List.getElem?_append_right (by simpa using hi),List.length_replicate,List.getElem?_map] at e2
      cases ej:js[i - ts.length]? with
      | none=>rw [ej] at e2;cases e2
      | some j =>
        rw [ej] at e2
        have e2':σ.getD j none=some v:=by simpa using e2
        obtain⟨q1,q2,q3⟩:=hfr.get e1' ej
        have e2'':σ[j]? = some (some v):=by
          rw [List.getD_eq_getElem?_getD] at e2'
          cases ez:σ[j]? with
          | none=>rw [ez] at e2';cases e2'
          | some z=>rw [ez] at e2';rw [show z=some v from e2']
        obtain⟨m,hn,hl⟩:=I.loc
        obtain⟨u,r,l⟩:=hl j x v q1 e2'' (by
          rcases q2 with q2 | q2
          · exact .inr (.inl q2)
          · exact .inr (.inr q2))
        refine⟨u,r,.inr ⟨lN q3,?_⟩⟩
        rcases l with ⟨l,_⟩ | ⟨_,c,lc,lv⟩
        · rcases q2 with q2 | q2 <;> (rw [l] at q2;cases q2)
        · obtain⟨c',hc'⟩:=pS (cells:=X.env.cells) scope.names [] (.inl (PySem.mem_of_lookup q3))
          have:=ag x c' hc'
          rw [lc] at this
          cases this
          obtain⟨o,ho,hd⟩:=lv
          exact⟨c,hc',o,old _ _ ho,hd⟩
    · obtain⟨v,o,ho,hd⟩:=I.cell x c (ag x c e)
      exact⟨v,o,old _ _ ho,hd⟩
    · show upd H s.heap.objs.size (.lst []) G2.objs.size=none
      rw [ai hDC.symm];exact nC
    · obtain⟨v,o,ho,hd⟩:=I.cell x c (ag x c e)
      rw [ai (Nat.ne_of_lt (Heap.lt_size ho))]
      exact I.gP x c (ag x c e)
    · show (m4 ts.length js σ).length=(ts++fr).length
      unfold m4
      rw [List.length_append,List.length_replicate,List.length_map,List.length_append,hfr.len]
  have fpB:∀ {H':Hp},(∀ b ∈ fp,H' b=none)->∀ b ∈ fp,ji Xb [] H' b:=fun {H'} hn b hb=>by
    subst hXb
    obtain⟨h1,h2,h3,h4,h5,h6⟩:=hfp b hb
    refine⟨hn b hb,(below b (hlt b hb)).1,fun z=>?_,.inl hb,fun x c e=>h5 x c (ag x c e),fun p hp=>absurd (show p ∈ ([]:List (Addr × Obj)) from hp) (by simp)⟩
    rcases List.mem_cons.mp (I.oo b z) with z | z
    · exact h2 z
    · exact h3 z
  have fin:∀ {τ : St} {H':Hp} {s':Shared},Inv Xb [] τ H' s'->Q (.ref s.heap.objs.size) H'->RR (.ref s.heap.objs.size) G2.objs.size (.ok .next) s':=fun {τ H' s'} Jb q=>by
    subst hXb
    obtain⟨m,hn,_⟩:=Jb.loc
    refine hRR _ _ H' s' m (I.CS (ch:=fp) Jb.os Jb.base Jb.aT Jb.bare fun b hb=>?_) hn Jb.free hCle q
    obtain⟨h1,h2,h3,h4,h5,h6⟩:=hfp b hb
    exact⟨h4,h2,h5,h6⟩
  have loop:∀ tk,codeAny (model X.prog X.w) X.A (.compLoop (.ListComp elt [⟨tg,iter,ifs,0⟩] scope pos) 0 (.ref it) (.ref s.heap.objs.size) (compEnvC scope (j6 X.env.cells scope.names []) G2.objs.size X.env))
        (RR (.ref s.heap.objs.size) G2.objs.size) { s with heap:=h₁,toks:=tk }:=by
    intro tk
    refine lj (fun n s'=>∃ i ys τ H',Inv Xb [] τ H' s'/\tn i s'.heap/\(∀ b ∈ fp,H' b=none)/\W i n ys τ H') ?_ m0 ⟨0,[],_,_,Ib tk,T.keep _ _ _ st fun b hb o e=>old b o e,fun b hb=>?_,w0⟩
    · rintro n s3 ⟨i,ys,τ,H3,I3,st3,fr3,w3⟩
      have htg':=htg G2.objs.size fp s H
      have hct':=hct G2.objs.size fp s H
      have hte':=hte G2.objs.size fp s H
      rw [hXb] at htg' hct' hte'
      have eP:Xb.prog=X.prog:=by subst hXb;rfl
      have ew:Xb.w=X.w:=by subst hXb;rfl
      have eK:Xb.K=X.K:=by subst hXb;rfl
      have eA:Xb.A=X.A:=by subst hXb;rfl
      have ec:Xb.calm=true:=by subst hXb;exact hc
      have ee:Xb.env=compEnvC scope (j6 X.env.cells scope.names []) G2.objs.size X.env:=by subst hXb;rfl
      have ex:Xb.xe=fun _ _=>False:=by subst hXb;rfl
      rw [<-eP,<-ew,<-eA,<-ee]
      obtain⟨ha,hl,turn'⟩:=turn i n ys τ H3 w3
      rcases turn' with ⟨stop,q⟩ | ⟨go,N,hN,step⟩
      · have hd:=T.done Xb eP ew eK ec i [] s3 τ H3 (fun _ _=>False) I3 (fpB fr3) st3 stop
        rw [<-eP,<-ew] at hd
        refine wpAny_mono hd (fun r s4 hr4=>?_) fun _ _ z=>z
        obtain⟨hr,I4⟩:=hr4
        subst hr
        exact fin I4 q
      · have hd:=T.item Xb eP ew eK ec i [] s3 τ H3 (fun _ _=>False) I3 (fpB fr3) st3 go
        rw [<-eP,<-ew] at hd
        refine wpAny_mono hd (fun r s4 hr4=>?_) fun _ _ z=>z
        obtain⟨u,hr,h4⟩:=hr4
        subst hr
        refine wpAny_mono h4 (fun _ s5 ⟨x,H5,I5,r5,y5,st5,fr5⟩=>?_) fun _ _ z=>z
        have I5':=I5.pinned (fpB fr5) (T.obj _ _ st5)
        have keepT:∀ {σ7:St} {H7:Hp} {s7:Shared},Inv Xb ([] ++ lF fp s5.heap) σ7 H7 s7->tn (i+1) s7.heap/\∀ b ∈ fp,H7 b=none:=fun {σ7 H7 s7} I7=>by
          refine⟨T.keep _ _ _ st5 fun b hb o e=>(I7.pin (b,o) (List.mem_append_right _ (List.mem_append_right _ (iW hb e)))).1,fun b hb=>?_⟩
          obtain⟨o,e,d⟩:=T.obj _ _ st5 b hb
          exact (I7.pin (b,o) (List.mem_append_right _ (List.mem_append_right _ (iW hb e)))).2.1
        refine wpAny_mono (htg' _ s5 τ H5 x u _ I5' r5 (step x H5 y5)) (fun _ s6 ⟨τ6,H6,I6,q6⟩=>?_) (fun _ _ z=>by rw [ex] at z;exact z)
        refine wpAny_mono (hct' _ s6 τ6 H6 _ I6 q6) (fun ok s7 ⟨H7,I7,q7⟩=>?_) (fun _ _ z=>by rw [ex] at z;exact z)
        cases ok with
        | false =>
          have q7':N ys τ6 H7:=by rw [if_neg (by simp)] at q7;exact q7
          rw [if_neg (by simp)]
          obtain⟨m',hm,w7⟩:=hN _ _ _ q7'
          exact⟨m',hm,i+1,ys,τ6,H7,I7.jj,(keepT I7).1,(keepT I7).2,w7⟩
        | true =>
          rw [if_pos rfl] at q7 ⊢
          refine wpAny_mono (hte' _ s7 τ6 H7 _ I7 q7) (fun v s8 ⟨y,H8,I8,r8,ha8,n8⟩=>?_) (fun _ _ z=>by rw [ex] at z;exact z)
          refine wpAny_mono (d9 (X:=Xb) _ s8 τ6 H8 (.ref s.heap.objs.size) [y] (.ref s.heap.objs.size) [v] (fun _ H9=>H9=upd H8 s.heap.objs.size (.lst (ys ++ [y]))) I8 rfl (.cons r8 .nil) ⟨_,ys,y,rfl,rfl,ha8,hl,rfl⟩) (fun _ s9 ⟨_,H9,I9,_,e9⟩=>?_) (fun _ _ z=>by rw [ex] at z;exact z)
          subst e9
          obtain⟨m',hm,w8⟩:=hN _ _ _ n8
          exact⟨m',hm,i+1,_,τ6,_,I9.jj,(keepT I9).1,(keepT I9).2,w8⟩
    · rw [ai (Nat.ne_of_lt (hlt b hb))]
      exact (hfp b hb).1
  exact codeAny_compStart_list (loop _) (T.self _ 0 _ _ _ (T.keep _ _ _ st fun b hb o e=>old b o e) (loop _))
theorem Inv.xC {pins:List (Addr × Obj)} {σ : St} {H H':Hp} {s s':Shared} {C:Addr} {h':Heap} (I:Inv X pins σ H s) {σ':St} (I':Inv X pins σ' H' s') (hC:H' C=none) (hle:s.heap.objs.size<=C) (hsb:Heap.SameBut C s'.heap h') :
  Inv X pins σ' H' { s' with heap:=h' }:=by
 obtain⟨h1,h2,h3,h4,h5,h6⟩:=I.pN (H':=H') hle hC
 exact I'.turned (t':=s'.toks) (fun b o hb e=>hsb.extBut b o hb e) hC h2 h4 h5 h6
theorem eF {tg elt iter:Expr} {ifs:List Expr} {scope:Scope} {wi:TI} {g:TG} {ct:TT} {te:TE} (ts fr:List Str) (js:List Nat)
  (hc:X.calm=true) (hi:PI X tg iter wi) (hkind:scope.kind=.function) (hcell:∀ y ∈ scope.names,y.2 ≠ .cell) (hnames:∀ y ∈ scope.names,y.2=.local->scope.names.lookup y.1=some .local)
  (hfree0:∀ y ∈ scope.names,y.2=.free->y.1 ∈ fr) (hfr:iu X scope fr js)
  (htg:∀ C fp s₁ H₁,PG (hZ X scope C (ts++fr) fp s₁ H₁) tg g) (hct:∀ C fp s₁ H₁,xB (hZ X scope C (ts++fr) fp s₁ H₁) ifs ct) (hte:∀ C fp s₁ H₁,PE (hZ X scope C (ts++fr) fp s₁ H₁) elt te)
  (hs:∀ x,foldedSetIterable iter X.env x=pure x:=by intro _;rfl):PE X (.ListComp elt [⟨tg,iter,ifs,0⟩] scope pos) (Dn ts.length js wi g ct te):=by
 have hfree:∀ y ∈ scope.names,y.2=.free->X.env.kindOf y.1=some .cell\/X.env.kindOf y.1=some .free:=fun y hy e=>hfr.mem (hfree0 y hy e)
 intro pins s σ H Q I h
 rw [eval_ListComp]
 refine wpAny_comprehension_free (use:=none) rfl hs (oF fun y hy e=>I.ok.has y.1 (hfree y hy e)) hkind hnames (ba (hi pins s σ H _ I h) fun xv s1 h1=>ba h1 fun itv s2 h2=>?_)
 obtain⟨it,fp,tn,J,H2,e,I2,T,st2,f2,hW⟩:=h2
 subst e
 refine uX (RR:=fun acc C=>compPost (model X.prog X.w) X.A X.xe none (EP X pins σ Q) acc C) hc hkind hcell hfree hfr htg hct hte I2 T st2 f2 hW ?_
 intro acc C H' s' m I' hn hC hle q
 exact⟨m,hn,fun h' hsb=>⟨.ref acc,H',I2.xC I' hC hle hsb,rfl,q⟩⟩
theorem nB {tg elt iter:Expr} {ifs:List Expr} {scope:Scope} {wi:TI} {g:TG} {ct:TT} {te:TE} {i:Nat} {y:Str} {py spos:Pos} (ts fr:List Str) (js:List Nat)
  (hsw:swapsWith (.ListComp elt [⟨tg,iter,ifs,0⟩] scope pos) (some (.Name y py)) spos.line X.env=pure true) (hN:X.N.Nodup) (hi0:X.N[i]? = some y) (hx:X.env.scope.names.lookup y=some .local)
  (hc:X.calm=true) (hi:PI X tg iter wi) (hkind:scope.kind=.function) (hcell:∀ y ∈ scope.names,y.2 ≠ .cell) (hnames:∀ y ∈ scope.names,y.2=.local->scope.names.lookup y.1=some .local)
  (hfree0:∀ y ∈ scope.names,y.2=.free->y.1 ∈ fr) (hfr:iu X scope fr js)
  (htg:∀ C fp s₁ H₁,PG (hZ X scope C (ts++fr) fp s₁ H₁) tg g) (hct:∀ C fp s₁ H₁,xB (hZ X scope C (ts++fr) fp s₁ H₁) ifs ct) (hte:∀ C fp s₁ H₁,PE (hZ X scope C (ts++fr) fp s₁ H₁) elt te)
  (hs:∀ x,foldedSetIterable iter X.env x=pure x:=by intro _;rfl):PS X (.Assign [.Name y py] (.ListComp elt [⟨tg,iter,ifs,0⟩] scope pos) spos) (yN (Dn ts.length js wi g ct te) (rV i)):=by
 have hfree:∀ y ∈ scope.names,y.2=.free->X.env.kindOf y.1=some .cell\/X.env.kindOf y.1=some .free:=fun y hy e=>hfr.mem (hfree0 y hy e)
 intro pins s σ H D I h
 rw [exec_Assign_Name_used _ _ _ _ hsw]
 refine wpAny_bind (wpAny_standAt (wpAny_bind ?_))
 show wpAny _ X.A (do let _ <-comprehension (.ListComp elt [⟨tg,iter,ifs,0⟩] scope pos) scope X.env _ (newList []) false (eval iter X.env) (some (assign (.Name y py) X.env))) _ _ s
 refine wpAny_bind (wpAny_mono (wpAny_comprehension_free (use:=some (assign (.Name y py) X.env)) (Q:=fun _ s'=>SP X pins D .next s') rfl hs (oF fun y hy e=>I.ok.has y.1 (hfree y hy e)) hkind hnames
  (ba (hi pins s σ H _ I h) fun xv s1 h1=>ba h1 fun itv s2 h2=>?_)) (fun _ s' hq=>wpAny_pure (wpAny_pure hq)) fun _ _ e=>e)
 obtain⟨it,fp,tn,J,H2,e,I2,T,st2,f2,hW⟩:=h2
 subst e
 refine uX (Q:=fun v H'=>D.nx (σ.set i (some v)) H') (RR:=fun acc C=>compPost (model X.prog X.w) X.A X.xe (some (assign (.Name y py) X.env)) (fun _ s'=>SP X pins D .next s') acc C) hc hkind hcell hfree hfr htg hct hte I2 T st2 f2 hW ?_
 intro acc C H' s' m I' hn hC hle q
 show wpAny _ X.A (assign (.Name y py) X.env (.ref acc)) _ _ _
 refine wpAny_assign_Name (qD I' hN hi0 (.inl hx) (v:=.ref acc) rfl (fun s'' I'' hch=>?_) (.inr hx))
 obtain⟨h1,h2,h3,h4,h5,h6⟩:=I2.pN (H':=H') hle hC
 obtain⟨a,hsb,ha⟩:=hch
 refine⟨m,hn.sameBut hsb ?_,fun h' hsb'=>⟨_,H',I2.xC I'' hC hle hsb',q⟩⟩
 rcases ha with ha | ha
 ·rw [ha];exact h2
 ·exact fun z=>h5 y a ha z.symm
end
theorem pU {K:PySem.W.Frag} {a acc:Addr} {xs:List V} {n:Nat} {js:List Nat} {g:TG} {ct:TT} {te:TE} {σ : St} {H1:Hp} {Q:VK} (Pv:Nat->List V->St->Hp->Prop) (h0:Pv 0 [] (m4 n js σ) (upd H1 acc (.lst [])))
  (hl:∀ i ys τ H,i<=xs.length->Pv i ys τ H->aU K H a xs/\H acc=some (.lst ys)/\ys.length < sizeLine)
  (hs:∀ i x ys τ H,xs[i]? = some x->Pv i ys τ H->g x τ H fun τ1 H4=>ct τ1 H4 fun b H5=>if b=true then te τ1 H5 fun y H6=>H6 acc=some (.lst ys)/\Pv (i+1) (ys ++ [y]) τ1 (upd H6 acc (.lst (ys ++ [y]))) else Pv (i+1) ys τ1 H5)
  (hd:∀ ys τ H,Pv xs.length ys τ H->Q (.ref acc) H) :
  uW (BL K a) n js g ct te acc σ H1 Q:=by
 refine⟨fun i m ys τ H=>m=xs.length - i/\i<=xs.length/\Pv i ys τ H,⟨xs.length,by simp,Nat.zero_le _,h0⟩,?_⟩
 rintro i m ys τ H ⟨rfl,hi,p⟩
 obtain⟨q,q2,q3⟩:=hl i ys τ H hi p
 refine⟨q2,q3,?_⟩
 by_cases hlt:i < xs.length
 ·refine .inr ⟨⟨xs,xs[i],q,by simp [hlt]⟩,Pv (i+1),fun ys' τ' H' p'=>⟨xs.length - (i+1),by omega,rfl,hlt,p'⟩,fun x H' y=>?_⟩
  obtain⟨e,y⟩:=y
  subst e
  exact hs i x ys τ _ (y xs q) p
 ·have e:i=xs.length:=by omega
  subst e
  exact .inl ⟨⟨xs,q,Nat.le_refl _⟩,hd ys τ H p⟩
theorem j7 {K:PySem.W.Frag} {a acc:Addr} {xs:List V} {n:Nat} {js:List Nat} {g:TG} {ct:TT} {te:TE} {σ : St} {H1:Hp} {Q:VK} (Pv:Nat->List V->St->Hp->Prop) (h0:Pv 0 [] (m4 n js σ) (upd H1 acc (.lst [])))
  (hl:∀ i ys τ H,i<=xs.length->Pv i ys τ H->ay K H a xs/\H acc=some (.lst ys)/\ys.length < sizeLine)
  (hs:∀ i x ys τ H,xs[i]? = some x->Pv i ys τ H->g x τ H fun τ1 H4=>ct τ1 H4 fun b H5=>if b=true then te τ1 H5 fun y H6=>H6 acc=some (.lst ys)/\Pv (i+1) (ys ++ [y]) τ1 (upd H6 acc (.lst (ys ++ [y]))) else Pv (i+1) ys τ1 H5)
  (hd:∀ ys τ H,Pv xs.length ys τ H->Q (.ref acc) H) :
  uW (uN K a) n js g ct te acc σ H1 Q:=by
 refine⟨fun i m ys τ H=>m=xs.length - i/\i<=xs.length/\Pv i ys τ H,⟨xs.length,by simp,Nat.zero_le _,h0⟩,?_⟩
 rintro i m ys τ H ⟨rfl,hi,p⟩
 obtain⟨q,q2,q3⟩:=hl i ys τ H hi p
 refine⟨q2,q3,?_⟩
 by_cases hlt:i < xs.length
 ·refine .inr ⟨⟨xs,xs[i],q,by simp [hlt]⟩,Pv (i+1),fun ys' τ' H' p'=>⟨xs.length - (i+1),by omega,rfl,hlt,p'⟩,fun x H' y=>?_⟩
  obtain⟨e,y⟩:=y
  subst e
  exact hs i x ys τ _ (y xs q) p
 ·have e:i=xs.length:=by omega
  subst e
  exact .inl ⟨⟨xs,q,Nat.le_refl _⟩,hd ys τ H p⟩
theorem nE {lo:Int} {k:Nat} {acc:Addr} {n:Nat} {js:List Nat} {g:TG} {ct:TT} {te:TE} {σ : St} {H1:Hp} {Q:VK} (Pv:Nat->List V->St->Hp->Prop) (h0:Pv 0 [] (m4 n js σ) (upd H1 acc (.lst [])))
  (hl:∀ i ys τ H,i<=k->Pv i ys τ H->H acc=some (.lst ys)/\ys.length < sizeLine)
  (hs:∀ i ys τ H,i < k->Pv i ys τ H->g (.int (lo+i)) τ H fun τ1 H4=>ct τ1 H4 fun b H5=>if b=true then te τ1 H5 fun y H6=>H6 acc=some (.lst ys)/\Pv (i+1) (ys ++ [y]) τ1 (upd H6 acc (.lst (ys ++ [y]))) else Pv (i+1) ys τ1 H5)
  (hd:∀ ys τ H,Pv k ys τ H->Q (.ref acc) H) :
  uW (sD lo k) n js g ct te acc σ H1 Q:=by
 refine⟨fun i m ys τ H=>m=k - i/\i<=k/\Pv i ys τ H,⟨k,by simp,Nat.zero_le _,h0⟩,?_⟩
 rintro i m ys τ H ⟨rfl,hi,p⟩
 obtain⟨q2,q3⟩:=hl i ys τ H hi p
 refine⟨q2,q3,?_⟩
 by_cases hlt:i < k
 ·refine .inr ⟨hlt,Pv (i+1),fun ys' τ' H' p'=>⟨k - (i+1),by omega,rfl,hlt,p'⟩,fun x H' y=>?_⟩
  obtain⟨e,y⟩:=y
  subst e y
  exact hs i ys τ _ hlt p
 ·have e:i=k:=by omega
  subst e
  exact .inl ⟨Nat.le_refl _,hd ys τ H p⟩
section
variable {X:Cx}
end
def DU (t:TS):TS:=fun D σ H=>∃ M:St->Hp->Prop,t { D with nx:=M } σ H/\∀ σ' H',M σ' H'->D.nx σ' H'
theorem cL {X:Cx} {st:Stmt} {t:TS} (h:PS X st t):PS X st (DU t):=by
 intro pins s σ H D I q
 obtain⟨M,q,hM⟩:=q
 refine ba (h pins s σ H _ I q) fun f s' hs=>?_
 cases f with
 | next =>
  obtain⟨σ',H',I',m⟩:=hs
  exact⟨σ',H',I',hM _ _ m⟩
 | brk=>exact hs
 | cont=>exact hs
 | ret u=>exact hs
theorem ia {m:Int} (h0:0 < m) (h1:m < 1073741824):m.natAbs.log2 < 9000:=by
 have h:m.natAbs.log2 < 30:=(Nat.log2_lt (by omega)).mpr (by omega)
 omega
theorem uY {X:Cx} {K:PySem.W.Frag} {es:List Expr} {k:Nat} {t:qE} {n:Nat} {pos:Pos} (hK:X.K=K) (h:PG X (.Tuple es k pos) (yM X.K n t)):PG X (.Tuple es k pos) (yM K n t):=by
 subst hK
 exact h
mutual
inductive aS (H:Hp):V->PyData->Prop
 | bI:aS H .bI .none
 | bl (b:Bool):aS H (.bl b) (.bool b)
 | int (i:Int):aS H (.int i) (.int i)
 | str (x:Str):aS H (.str x) (.str x)
 | lst {p:Addr} {xs:List V} {ds:List PyData}:H p=some (.lst xs)->bh H xs ds->aS H (.ref p) (.list ds)
 | tup {p:Addr} {xs:List V} {ds:List PyData}:H p=some (.tup xs)->bh H xs ds->aS H (.ref p) (.tuple ds)
inductive bh (H:Hp):List V->List PyData->Prop
 | nil:bh H [] []
 | cons {x:V} {xs:List V} {d:PyData} {ds:List PyData}:aS H x d->bh H xs ds->bh H (x :: xs) (d :: ds)
end
section
variable {P:Program} {w:World} {H:Hp} {h:Heap}
mutual
theorem aS.reads (ok:d8 P w H h):∀ {x:V} {d:PyData} {v:Value},aS H x d->RelV x v->∃ as,Reads h v d as
 | _,_,v,.bI,r=>by
  cases (show v=Value.none from r)
  exact⟨_,.none⟩
 | _,_,v,.bl b,r=>by
  cases (show v=Value.bool b from r)
  exact⟨_,.bool b⟩
 | _,_,v,.int i,r=>by
  obtain⟨t,e⟩:=(show ∃ t,v=Value.int i t from r)
  cases e
  exact⟨_,.int i t⟩
 | _,_,v,.str x,r=>by
  obtain⟨t,e⟩:=(show ∃ t,v=Value.str x t from r)
  cases e
  exact⟨_,.str x t⟩
 | _,_,v,.lst (p:=p) (xs:=xs) e ds,r=>by
  cases (show v=Value.ref p from r)
  obtain⟨_,its,n,rv,h1⟩:=(show cf P w H h p (.lst xs) from ok p _ e)
  obtain⟨as,ra⟩:=bh.reads ok ds rv
  exact⟨_,.list (vs:=its.toArray) h1 rfl rfl (by simpa using ra)⟩
 | _,_,v,.tup (p:=p) (xs:=xs) e ds,r=>by
  cases (show v=Value.ref p from r)
  obtain⟨_,its,rv,o,h1,h2,n,h3⟩:=(show cf P w H h p (.tup xs) from ok p _ e)
  obtain⟨as,ra⟩:=bh.reads ok ds rv
  exact⟨_,.tuple (vs:=its.toArray) h1 h2 h3.1 (by simpa using ra)⟩
theorem bh.reads (ok:d8 P w H h):∀ {xs:List V} {ds:List PyData} {vs:List Value},bh H xs ds->Vals xs vs->∃ as,ReadsAll h vs ds as
 | _,_,_,.nil,.nil=>⟨_,.nil⟩
 | _,_,_,.cons r rs,.cons q qs=>by
  obtain⟨as,ra⟩:=aS.reads ok r q
  obtain⟨bs,rb⟩:=bh.reads ok rs qs
  exact⟨_,.cons ra rb⟩
end
end
section
variable {X:Cx}
def DV (neg:Bool):R2:=fun x y H Q=>∃ dx dy,aS H x dx/\aS H y dy/\dx.canLay0=true/\dy.canLay0=true/\min dx.depth dy.depth<=60/\Q (.bl (if neg then !PyData.eqv dx dy else PyData.eqv dx dy)) H
theorem lO (hu:X.A.units+64 < cLine):fm X (compareOp .NotEq) (DV true):=by
 intro pins s σ H x y v u Q I rx ry h
 obtain⟨dx,dy,r1,r2,c1,c2,hd,q⟩:=h
 obtain⟨as,ra⟩:=r1.reads I.aT rx
 obtain⟨bs,rb⟩:=r2.reads I.aT ry
 exact PySem.SeqAt.neOverData X.prog X.w X.A X.xe s v u dx dy as bs _ ra rb c1 c2 (by omega) ⟨.bl _,H,I,rfl,q⟩
end
def one (c:Nat):Str:=⟨#[c]⟩
theorem sN (rest:List Str):∀ a:Array Nat,(rest.foldl (fun acc p=>acc++Str.empty.cps++p.cps) a).toList=a.toList++rest.flatMap (·.cps.toList):=by
 induction rest with
 | nil=>intro a;simp
 | cons x r ih =>
  intro a
  rw [List.foldl_cons,ih]
  have e:Str.empty.cps = #[]:=rfl
  simp [e]
theorem join_ones (cs:List Nat):(Txt.join Str.empty (cs.map one)).cps.toList=cs:=by
 cases cs with
 | nil=>rfl
 | cons c r =>
  show (List.foldl (fun acc p=>acc++Str.empty.cps++p.cps) (#[c]:Array Nat) (r.map one)).toList=c :: r
  rw [sN]
  simp only [List.flatMap_map,one]
  simp
theorem y7:Str.ofString "" = Str.empty:=by decide +kernel
theorem vW {ys:List Str}:∀ {us:List Value},Vals (ys.map V.str) us->StrsAre us ys:=by
 induction ys with
 | nil=>intro us r;cases r;exact .nil
 | cons y ys ih =>
  intro us r
  cases r with
  | cons h t =>
   obtain⟨k,e⟩:=h
   subst e
   exact .cons y k (ih t)
section
variable {X:Cx}
def rJoin (K:PySem.W.Frag):V->List V->Hp->VK->Prop:=fun x vs H Q=>∃ (z:Str) (p:Addr) (ys:List Str),x=.str z/\vs = [.ref p]/\aU K H p (ys.map V.str)/\(ys.map (·.length)).sum+ys.length * z.length<=16777216/\Q (.str (Txt.join z ys)) H
theorem uZ:Ca X "str.join" (rJoin X.K):=by
 intro pins s σ H x vs v us Q I rx rv h
 obtain⟨z,p,ys,rfl,rfl,hS,hz,q⟩:=h
 obtain⟨t,e⟩:=(show ∃ t,v=Value.str z t from rx)
 subst e
 obtain⟨u,rfl,ru⟩:=vals1 rv
 cases (show u=Value.ref p from ru)
 obtain⟨its,rv',pl,_⟩:=I.list hS
 exact join_list pl.isList (by simpa using vW rv') hz fun t' k=>⟨.str _,H,I.tok k,⟨_,rfl⟩,q⟩
end
inductive cg where
 | put (x:Str) (n:Int)
 | copy (x y:Str)
 | add (x:Str) (n:Int)
 | read (x:Str)
 | tell (x:Str)
inductive End where
 | stop
 | go (p:Nat)
 | cC (less:Bool) (x:Str) (n:Int) (p q:Nat)
abbrev Piece:=List cg × End
def wT (b:Bool):Str:=if b=true then "less" else "is"
def cq:cg->PyData
 | .put x n=>.tuple [.str "put",.str x,.int n]
 | .copy x y=>.tuple [.str "copy",.str x,.str y]
 | .add x n=>.tuple [.str "add",.str x,.int n]
 | .read x=>.tuple [.str "read",.str x]
 | .tell x=>.tuple [.str "tell",.str x]
def lP:End->PyData
 | .stop=>.tuple [.str "stop"]
 | .go p=>.tuple [.str "go",.int p]
 | .cC b x n p q=>.tuple [.str (wT b),.str x,.int n,.int p,.int q]
def fc (p:Piece):PyData:=.tuple [.tuple (p.1.map cq),lP p.2]
def df (ps:List Piece):PyData:=.tuple (ps.map fc)
structure fR (x:Str):Prop where
 lo:1<=x.length
 hi:x.length<=8
 az:∀ c ∈ x.cps.toList,97<=c/\c<=122
def ku (n:Int):Prop:=-(10 ^ 40) < n/\n < 10 ^ 40
def fS (xs:List Str):cg->Prop
 | .put x n=>x ∈ xs/\ku n
 | .copy x y=>x ∈ xs/\y ∈ xs
 | .add x n=>x ∈ xs/\ku n
 | .read x=>x ∈ xs
 | .tell x=>x ∈ xs
def jJ (xs:List Str) (count:Nat):End->Prop
 | .stop=>True
 | .go p=>p < count
 | .cC _ x n p q=>x ∈ xs/\ku n/\p < count/\q < count
structure cM (xs:List Str) (most:Nat) (ps:List Piece):Prop where
 iX:∀ p ∈ ps,p.1.length<=most/\∀ d ∈ p.1,fS xs d
 ends:∀ p ∈ ps,jJ xs ps.length p.2
mutual
def bP:PyData->Bool
 | .list _=>false
 | .tuple xs=>bN xs
 | _=>true
def bN:List PyData->Bool
 | []=>true
 | x :: xs=>bP x && bN xs
end
mutual
theorem aS.bb {H H':Hp} (k:∀ p xs,H p=some (.tup xs)->H' p=some (.tup xs)):∀ {x:V} {d:PyData},aS H x d->bP d=true->aS H' x d
 | _,_,.bI,_=>.bI
 | _,_,.bl b,_=>.bl b
 | _,_,.int i,_=>.int i
 | _,_,.str x,_=>.str x
 | _,_,.lst _ _,h=>nomatch h
 | _,_,.tup e ds,h=>.tup (k _ _ e) (bh.bb k ds h)
theorem bh.bb {H H':Hp} (k:∀ p xs,H p=some (.tup xs)->H' p=some (.tup xs)):∀ {xs:List V} {ds:List PyData},bh H xs ds->bN ds=true->bh H' xs ds
 | _,_,.nil,_=>.nil
 | _,_,.cons r rs,h=>by
  simp only [bN,Bool.and_eq_true] at h
  exact .cons (aS.bb k r h.1) (bh.bb k rs h.2)
end
theorem aS.fix {b:Addr} {H H':Hp} {x:V} {d:PyData} (r:aS H x d) (hb:di H b) (f:Fix b H H') (n:bP d=true):aS H' x d :=
 r.bb (fun p xs e=>f p _ e (hb.sM e)) n
theorem aS.same {H H':Hp} {x:V} {d:PyData} (r:aS H x d) (f:au H H') (n:bP d=true):aS H' x d :=
 r.bb (fun p xs e=>f p _ e) n
theorem bh.fix {b:Addr} {H H':Hp} {xs:List V} {ds:List PyData} (r:bh H xs ds) (hb:di H b) (f:Fix b H H') (n:bN ds=true):bh H' xs ds :=
 r.bb (fun p xs e=>f p _ e (hb.sM e)) n
theorem bh.same {H H':Hp} {xs:List V} {ds:List PyData} (r:bh H xs ds) (f:au H H') (n:bN ds=true):bh H' xs ds :=
 r.bb (fun p xs e=>f p _ e) n
theorem bh.put {H:Hp} {xs ys:List V} {ds:List PyData} {l:Addr} {o:HO} (r:bh H xs ds) (hl:H l=some (.lst ys)) (n:bN ds=true):bh (upd H l o) xs ds :=
 r.bb (fun p zs e=>by rw [ai (bA e hl (by intro z;cases z))];exact e) n
theorem bh.app {H:Hp} {x:V} {d:PyData}:∀ {xs:List V} {ds:List PyData},bh H xs ds->aS H x d->bh H (xs ++ [x]) (ds ++ [d])
 | _,_,.nil,q=>.cons q .nil
 | _,_,.cons r rs,q=>.cons r (bh.app rs q)
theorem bh.len {H:Hp}:∀ {xs:List V} {ds:List PyData},bh H xs ds->xs.length=ds.length
 | _,_,.nil=>rfl
 | _,_,.cons _ rs=>by simp [bh.len rs]
theorem m5 (d:cg):bP (cq d)=true:=by cases d <;> rfl
theorem ky (e:End):bP (lP e)=true:=by cases e <;> rfl
theorem bX:∀ ds:List cg,bN (ds.map cq)=true
 | []=>rfl
 | d :: ds=>by show (bP (cq d) && bN (ds.map cq))=true;rw [m5,bX ds];rfl
theorem jt (p:Piece):bP (fc p)=true:=by
 show (bN (p.1.map cq) && (bP (lP p.2) && true))=true
 rw [bX,ky];rfl
theorem cb:∀ ps:List Piece,bN (ps.map fc)=true
 | []=>rfl
 | p :: ps=>by show (bP (fc p) && bN (ps.map fc))=true;rw [jt,cb ps];rfl
theorem cw (ps:List Piece):bP (df ps)=true:=cb ps
structure fZ (H:Hp) (b l:Addr) (xs:List Str):Prop where
 at_:H l=some (.lst (xs.map V.str))
 ne:l ≠ b
 vX:xs ≠ []
 bG:xs.length<=1000
 ok:∀ x ∈ xs,fR x
theorem fZ.fix {H H':Hp} {b l:Addr} {xs:List Str} (h:fZ H b l xs) (f:Fix b H H'):fZ H' b l xs:=⟨f l _ h.at_ h.ne,h.ne,h.vX,h.bG,h.ok⟩
theorem fZ.pos {H:Hp} {b l:Addr} {xs:List Str} (h:fZ H b l xs):0 < ((xs.map V.str).length:Int)/\((xs.map V.str).length:Int) < 1073741824:=by
 have h1:=h.vX
 have h2:=h.bG
 have h3:0 < xs.length:=by cases xs with | nil=>exact absurd rfl h1 | cons _ _=>simp
 rw [List.length_map]
 omega
def pV:Sp:=fun vs H Q _=>∃ (b:Addr),vs = [.ref b]/\di H b/\∀ l xs H',fZ H' b l xs->xs.length<=4->di H' b->Fix b H H'->Q (.ref l) H'
def ju:Sp:=fun vs H Q _=>∃ (b:Addr),vs = [.ref b]/\di H b/\∀ n H',ku n->di H' b->Fix b H H'->Q (.int n) H'
def sO:Sp:=fun vs H Q _=>∃ (b l:Addr) (xs:List Str),vs = [.ref b,.ref l]/\di H b/\fZ H b l xs/\∀ v d H',aS H' v (cq d)->fS xs d->di H' b->Fix b H H'->Q v H'
def sP:Sp:=fun vs H Q _=>∃ (b l:Addr) (xs:List Str) (c:Nat),vs = [.ref b,.ref l,.int c]/\di H b/\fZ H b l xs/\0 < c/\c < 1073741824/\∀ v e H',aS H' v (lP e)->jJ xs c e->di H' b->Fix b H H'->Q v H'
def sQ:Sp:=fun vs H Q _=>∃ (b:Addr) (c m:Nat),vs = [.ref b,.int c,.int m]/\di H b/\0 < c/\c<=1000/\m<=1000/\∀ v xs ps H',aS H' v (df ps)->ps.length=c->cM xs m ps->((∀ x ∈ xs,fR x)/\xs.length<=4)->di H' b->Fix b H H'->Q v H'
def pW:Sp:=fun vs H Q _=>∃ (b:Addr) (m:Nat),vs = [.ref b,.int m]/\di H b/\0 < m/\m<=1000/\∀ (n:Nat) H',0 < n->n<=max m 4->di H' b->Fix b H H'->Q (.int n) H'
def oG:Str := "abcdefghijklmnopqrstuvwxyz"
theorem sR:oG.cps.toList=(List.range 26).map (· + 97):=by decide +kernel
theorem u0:oG.length<=sizeLine:=by decide +kernel
theorem xD {r:Int} (h0:0<=r) (h1:r < 26):∃ c,fD oG.cps.toList r=some c/\97<=c/\c<=122:=by
 have hl:oG.cps.toList.length=26:=by rw [sR];simp
 obtain⟨c,hc,hm⟩:=vU (xs:=oG.cps.toList) h0 (by rw [hl];exact h1)
 refine⟨c,hc,?_⟩
 rw [sR] at hm
 obtain⟨k,hk,rfl⟩:=List.mem_map.mp hm
 have:=List.mem_range.mp hk
 omega
theorem nF {xs:List Str} {r:Int} (h0:0<=r) (h1:r < ((xs.map V.str).length:Int)):∃ x,fD (xs.map V.str) r=some (V.str x)/\x ∈ xs:=by
 obtain⟨v,hv,hm⟩:=vU h0 h1
 obtain⟨x,hx,rfl⟩:=List.mem_map.mp hm
 exact⟨x,hv,hx⟩
theorem jv {σ : L2.St} {H:Hp} {Q:Bool->Hp->Prop} (h:Q true H):Ck σ H Q:=h
theorem dC {i:Nat} {v:V} {σ : L2.St} {H:Hp} {Q:L2.St->Hp->Prop} (h:Q (σ.set i (some v)) H):rV i v σ H Q:=h
section
variable {κ : Type} [DecidableEq κ]
def cW (kvs:List (κ × V)) (k:κ):Option V:=(kvs.find? fun kv=>decide (kv.1=k)).map (·.2)
def putK (kvs:List (κ × V)) (k:κ) (v:V):List (κ × V) :=
 if (kvs.any fun kv=>decide (kv.1=k))=true then kvs.map (fun kv=>if kv.1=k then (kv.1,v) else kv) else kvs ++ [(k,v)]
theorem dY {p:κ × V} {r:List (κ × V)} {k:κ} (e:p.1=k):cW (p :: r) k=some p.2:=by simp [cW,List.find?_cons,e]
theorem dZ {p:κ × V} {r:List (κ × V)} {k:κ} (e:¬ p.1=k):cW (p :: r) k=cW r k:=by simp [cW,List.find?_cons,e]
theorem kA (k:κ):∀ kvs:List (κ × V),(kvs.any fun kv=>decide (kv.1=k))=(cW kvs k).isSome
 | []=>rfl
 | p :: r=>by
  rw [List.any_cons]
  by_cases e:p.1=k
  ·simp only [dY e,decide_eq_true e,Bool.true_or,Option.isSome_some]
  ·rw [dZ e,decide_eq_false e,Bool.false_or];exact kA k r
theorem sS (k j:κ) (y:V):∀ kvs:List (κ × V),cW (kvs.map fun kv=>if kv.1=k then (kv.1,y) else kv) j=(cW kvs j).map fun x=>if j=k then y else x
 | []=>rfl
 | p :: r=>by
  have ih:=sS k j y r
  rw [List.map_cons]
  by_cases h:p.1=k
  ·rw [if_pos h]
   by_cases e:p.1=j
   ·rw [dY (p:=(p.1,y)) e,dY e,Option.map_some,if_pos (e.symm.trans h)]
   ·rw [dZ (p:=(p.1,y)) e,dZ e,ih]
  ·rw [if_neg h]
   by_cases e:p.1=j
   ·rw [dY (p:=p) e,dY e,Option.map_some,if_neg (fun z=>h (e.trans z))]
   ·rw [dZ (p:=p) e,dZ e,ih]
theorem qQ (k j:κ) (y:V):∀ kvs:List (κ × V),cW kvs k=none->cW (kvs ++ [(k,y)]) j=if j=k then some y else cW kvs j
 | [],_=>by
  by_cases e:k=j
  ·rw [if_pos e.symm];exact dY (p:=(k,y)) e
  ·rw [if_neg (fun z=>e z.symm)];exact dZ (p:=(k,y)) e
 | p :: r,hn=>by
  rw [List.cons_append]
  have hk:¬ p.1=k:=fun z=>by rw [dY z] at hn;cases hn
  rw [dZ hk] at hn
  have ih:=qQ k j y r hn
  by_cases e:p.1=j
  ·rw [dY e,dY e,if_neg (fun z=>hk (e.trans z))]
  ·rw [dZ e,dZ e,ih]
theorem sT (kvs:List (κ × V)) (k j:κ) (y:V):cW (putK kvs k y) j=if j=k then some y else cW kvs j:=by
 unfold putK
 by_cases a:(kvs.any fun kv=>decide (kv.1=k))=true
 ·rw [if_pos a,sS]
  rw [kA] at a
  by_cases e:j=k
  ·obtain⟨x,hx⟩:=Option.isSome_iff_exists.mp a
   rw [if_pos e,e,hx,Option.map_some,if_pos rfl]
  ·rw [if_neg e]
   cases cW kvs j with
   | none=>rfl
   | some x=>rw [Option.map_some,if_neg e]
 ·rw [if_neg a]
  refine qQ k j y kvs ?_
  rw [kA] at a
  cases q:cW kvs k with
  | none=>rfl
  | some x=>rw [q] at a;exact (a rfl).elim
theorem eW (kvs:List (κ × V)) (k:κ) (v:V):(putK kvs k v).length<=kvs.length+1:=by
 unfold putK
 split
 ·rw [List.length_map];omega
 ·rw [List.length_append,List.length_cons,List.length_nil];omega
theorem fM.xE {o:Option V} {u:Option Value} (r:fM o u):o.isSome=u.isSome:=by
 cases o with
 | none=>cases u with
  | none=>rfl
  | some _=>exact (show False from r).elim
 | some _=>cases u with
  | none=>exact (show False from r).elim
  | some _=>rfl
theorem fM.getD {o:Option V} {u:Option Value} {d:V} {d':Value} (r:fM o u) (rd:RelV d d'):RelV (o.getD d) (u.getD d'):=by
 cases o with
 | none=>cases u with
  | none=>exact rd
  | some _=>exact (show False from r).elim
 | some _=>cases u with
  | none=>exact (show False from r).elim
  | some _=>exact r
theorem KV.val {kvs:List (κ × V)} {vs:List (κ × Value)} (r:KV kvs vs) (k:κ):fM (cW kvs k) (valueAt vs k):=by
 unfold KV at r
 induction r with
 | nil=>exact True.intro
 | @cons p q ps qs h t ih =>
  obtain⟨h1,h2⟩:=h
  by_cases e:p.1=k
  ·have e':q.1=k:=h1.symm.trans e
   have b:valueAt (q :: qs) k=some q.2:=by simp [valueAt,List.find?_cons,e']
   rw [dY e,b];exact h2
  ·have e':¬ q.1=k:=fun z=>e (h1.trans z)
   have b:valueAt (q :: qs) k=valueAt qs k:=by simp [valueAt,List.find?_cons,e']
   rw [dZ e,b];exact ih
theorem KV.any {kvs:List (κ × V)} {vs:List (κ × Value)} (r:KV kvs vs) (k:κ):(kvs.any fun kv=>decide (kv.1=k))=vs.any fun kv=>decide (kv.1=k):=by
 unfold KV at r
 induction r with
 | nil=>rfl
 | cons h t ih=>rw [List.any_cons,List.any_cons,ih,h.1]
theorem KV.y8 {kvs:List (κ × V)} {vs:List (κ × Value)} (r:KV kvs vs) (k:κ) {y:V} {u:Value} (ry:RelV y u) :
  KV (kvs.map fun kv=>if kv.1=k then (kv.1,y) else kv) (vs.map fun kv=>if kv.1=k then (kv.1,u) else kv):=by
 unfold KV at r ⊢
 induction r with
 | nil=>exact .nil
 | @cons p q ps qs h t ih =>
  rw [List.map_cons,List.map_cons]
  refine .cons ?_ ih
  obtain⟨h1,h2⟩:=h
  by_cases e:p.1=k
  ·rw [if_pos e,if_pos (h1.symm.trans e)];exact⟨h1,ry⟩
  ·rw [if_neg e,if_neg (fun z=>e (h1.trans z))];exact⟨h1,h2⟩
theorem KV.put {kvs:List (κ × V)} {vs:List (κ × Value)} (r:KV kvs vs) (k:κ) {y:V} {u:Value} (ry:RelV y u):KV (putK kvs k y) (stored vs k u):=by
 unfold putK stored
 rw [r.any k]
 by_cases e:(vs.any fun kv=>decide (kv.1=k))=true
 ·rw [if_pos e,if_pos e];exact r.y8 k ry
 ·rw [if_neg e,if_neg e];exact Paired.snoc r ⟨rfl,ry⟩
theorem KV.keys {kvs:List (κ × V)} {vs:List (κ × Value)} (r:KV kvs vs):kvs.map (·.1)=vs.map (·.1):=by
 unfold KV at r
 induction r with
 | nil=>rfl
 | cons h t ih=>rw [List.map_cons,List.map_cons,ih,h.1]
theorem KV.length {kvs:List (κ × V)} {vs:List (κ × Value)} (r:KV kvs vs):kvs.length=vs.length:=Paired.length r
end
theorem oH {P:Program} {w:World} {k:Key} {u:Value} (r:RelV (kV k) u):(aP P w).is k u=true:=by
 cases k with
 | inl i=>obtain⟨t,e⟩:=(show ∃ t,u=Value.int i t from r);subst e;exact mV P w i t
 | inr x=>obtain⟨t,e⟩:=(show ∃ t,u=Value.str x t from r);subst e;exact mW P w x t
theorem qR {P:Program} {w:World}:∀ {ks:List Key} {us:List Value},Vals (ks.map kV) us->ItemsAre (aP P w) ks us
 | [],_,r=>by rw [List.map_nil] at r;cases r;exact .nil
 | k :: ks,_,r=>by
  rw [List.map_cons] at r
  cases r with
  | cons h t=>exact .cons (oH h) (qR t)
abbrev KT (H:Hp):List (List Key × V)->List (List Key × Addr × Value)->Prop:=Paired fun p q=>p.1=q.1/\H q.2.1=some (.tup (p.1.map kV))/\RelV p.2 q.2.2
theorem KT.val {H:Hp} {kvs:List (List Key × V)} {xs:List (List Key × Addr × Value)} (r:KT H kvs xs) (k:List Key):fM (cW kvs k) ((atKey xs k).map (·.2)):=by
 induction r with
 | nil=>exact True.intro
 | @cons p q ps qs h t ih =>
  obtain⟨h1,_,h2⟩:=h
  by_cases e:p.1=k
  ·have e':q.1=k:=h1.symm.trans e
   have b:atKey (q :: qs) k=some q.2:=by simp [atKey,List.find?_cons,e']
   rw [dY e,b];exact h2
  ·have e':¬ q.1=k:=fun z=>e (h1.trans z)
   have b:atKey (q :: qs) k=atKey qs k:=by simp [atKey,List.find?_cons,e']
   rw [dZ e,b];exact ih
theorem KT.y8 {H:Hp} {kvs:List (List Key × V)} {xs:List (List Key × Addr × Value)} (r:KT H kvs xs) (k:List Key) {y:V} {u:Value} (ry:RelV y u) :
  KT H (kvs.map fun kv=>if kv.1=k then (kv.1,y) else kv) (xs.map (putAt k u)):=by
 induction r with
 | nil=>exact .nil
 | @cons p q ps qs h t ih =>
  rw [List.map_cons,List.map_cons]
  refine .cons ?_ ih
  obtain⟨h1,h2,h3⟩:=h
  unfold putAt
  by_cases e:p.1=k
  ·rw [if_pos e,if_pos (h1.symm.trans e)];exact⟨h1,h2,ry⟩
  ·rw [if_neg e,if_neg (fun z=>e (h1.trans z))];exact⟨h1,h2,h3⟩
theorem KT.put {H:Hp} {kvs:List (List Key × V)} {xs:List (List Key × Addr × Value)} (r:KT H kvs xs) (k:List Key) {b:Addr} {y:V} {u:Value} (hb:H b=some (.tup (k.map kV))) (ry:RelV y u) :
  KT H (putK kvs k y) (storedH xs k b u):=by
 have e:(kvs.any fun kv=>decide (kv.1=k))=(atKey xs k).isSome:=by
  rw [kA,(r.val k).xE,Option.isSome_map]
 unfold putK storedH
 rw [e]
 by_cases q:(atKey xs k).isSome=true
 ·rw [if_pos q,if_pos q];exact r.y8 k ry
 ·rw [if_neg q,if_neg q];exact Paired.snoc r ⟨rfl,hb,ry⟩
theorem KT.keeps {H H':Hp} {kvs:List (List Key × V)} {xs:List (List Key × Addr × Value)} (r:KT H kvs xs) (ht:∀ b ys,H b=some (.tup ys)->H' b=some (.tup ys)):KT H' kvs xs :=
 Paired.yG r fun _ _ z=>⟨z.1,ht _ _ z.2.1,z.2.2⟩
section
variable {P:Program} {w:World} {H:Hp} {h:Heap} {a:Addr}
theorem Aj {u:HO} (ok:d8 P w H h) (e:Rd H a u):cf P w H h a u:=e.ok ok
theorem mC {kvs:List (Key × V)} (ok:d8 P w H h) (e:Rd H a (.dK kvs)):kvs.length<=sizeLine/\(a == sysModules)=false/\∃ vs,KV kvs vs/\h.DictOf (aP P w) a vs :=
 show cf P w H h a (.dK kvs) from Aj ok e
theorem Ak {kvs:List (Key × V)} (ok:d8 P w H h) (e:H a=some (.dK kvs)):kvs.length<=sizeLine/\(a == sysModules)=false/\∃ vs,KV kvs vs/\h.DictOf (aP P w) a vs:=mC ok (.inl e)
theorem oJ {ks:List Key} (ok:d8 P w H h) (e:H a=some (.tup (ks.map kV))):(tupleKind (aP P w)).is h ks a:=by
 obtain⟨_,its,r,o,h1,h2,n,h3⟩:=(show cf P w H h a (.tup (ks.map kV)) from ok a _ e)
 exact⟨o,its.toArray,n,h1,h2,h3.1,by simpa using qR r⟩
theorem oK {kvs:List (List Key × V)} (ok:d8 P w H h) (e:Rd H a (.dT kvs)):kvs.length<=sizeLine/\(a == sysModules)=false /\
  ∃ xs,KT H kvs xs/\h.DictOfH (tupleKind (aP P w)) a xs:=by
 obtain⟨z,y,xs,r,o,es,ep,h1,h2,h3,h4,h5⟩:=(show cf P w H h a (.dT kvs) from Aj ok e)
 refine⟨z,y,xs,r,o,es,ep,h1,h2,h3,h4,fun x hx=>?_,h5⟩
 have all:∀ {l:List (List Key × V)} {m:List (List Key × Addr × Value)},KT H l m->∀ x ∈ m,(tupleKind (aP P w)).is h x.1 x.2.1:=by
  intro l m q
  induction q with
  | nil=>intro x hx;exact nomatch hx
  | @cons p q ps qs hq t ih =>
   intro x hx
   rcases List.mem_cons.mp hx with e | hx
   ·subst e
    exact oJ ok (by rw [<-hq.1];exact hq.2.1)
   ·exact ih x hx
 exact all r x hx
theorem C6 {kvs:List (List Key × V)} (ok:d8 P w H h) (e:H a=some (.dT kvs)):kvs.length<=sizeLine/\(a == sysModules)=false /\
  ∃ xs,KT H kvs xs/\h.DictOfH (tupleKind (aP P w)) a xs:=oK ok (.inl e)
end
def eX (H:Hp) (a:Addr) (y:V) (r:Option V):Prop :=
 (∃ kvs k,Rd H a (.dK kvs)/\y=kV k/\r=cW kvs k)\/∃ kvs k b,Rd H a (.dT kvs)/\y=.ref b/\H b=some (.tup (k.map kV))/\r=cW kvs k
def ib (H:Hp) (a:Addr) (y v:V) (H':Hp):Prop :=
 (∃ kvs k,H a=some (.dK kvs)/\y=kV k/\kvs.length < sizeLine/\H' = upd H a (.dK (putK kvs k v))) \/
 ∃ kvs k b,H a=some (.dT kvs)/\y=.ref b/\H b=some (.tup (k.map kV))/\kvs.length < sizeLine/\H' = upd H a (.dT (putK kvs k v))
theorem eX.k {H:Hp} {a:Addr} {kvs:List (Key × V)} {k:Key} (e:H a=some (.dK kvs)):eX H a (kV k) (cW kvs k):=.inl ⟨kvs,k,.inl e,rfl,rfl⟩
theorem ib.k {H:Hp} {a:Addr} {kvs:List (Key × V)} {k:Key} {v:V} (e:H a=some (.dK kvs)) (hl:kvs.length < sizeLine):ib H a (kV k) v (upd H a (.dK (putK kvs k v))):=.inl ⟨kvs,k,e,rfl,hl,rfl⟩
section
variable {X:Cx} {pins:List (Addr × Obj)} {σ : St} {H:Hp} {s:Shared} {a:Addr} {y v:V} {u r:Value} {o:Option V} {A:Around} {E:Value->Shared->Prop}
theorem Inv.big (I:Inv X pins σ H s):sysModules < s.heap.objs.size:=by
 have h:mainGlobals < s.heap.objs.size:=(I.mod.glob.keeps I.bk).lt
 exact Nat.lt_trans (by decide) h
theorem xF {Q:Value->Shared->Prop} (hu:A.units+1 < cLine) (I:Inv X pins σ H s) (g:eX H a y (some v)) (ry:RelV y u) (h:∀ w' s',Inv X pins σ H s'->RelV v w'->Q w' s') :
  wpAny (model X.prog X.w) A (getItem (.ref a) u) Q E s:=by
 rcases g with ⟨kvs,k,e,ey,l⟩ | ⟨kvs,k,b,e,ey,eb,l⟩
 ·subst ey
  obtain⟨z,hd,vs,rel,dd⟩:=mC I.aT e
  obtain⟨w',hw,rw'⟩:=fM.some_of (v:=v) (o:=valueAt vs k) (by rw [l];exact rel.val k)
  exact wpAny_getItem_of (oH ry) dd.mapOf hw (h w' _ (I.tok _) rw')
 ·subst ey
  cases (show u=Value.ref b from ry)
  obtain⟨z,hd,xs,rel,dd⟩:=oK I.aT e
  obtain⟨w',hw,rw'⟩:=fM.some_of (v:=v) (o:=(atKey xs k).map (·.2)) (by rw [l];exact rel.val k)
  obtain⟨p,hp,hp2⟩:=Option.map_eq_some_iff.mp hw
  refine wpAny_getItem_heap (tupleKind_room_in1 hu) (oJ I.aT eb) dd hp ?_
  rw [hp2]
  exact h w' _ (I.tok _) rw'
theorem u7 {h':Heap} {t':Nat} {ob:HO} (I:Inv X pins σ H s) (mu:w6 (H a)) (hs:Heap.SameBut a s.heap h') (he:∃ q,h'.get? a=some q) (new:cf X.prog X.w (upd H a ob) h' a ob) :
  Inv X pins σ (upd H a ob) { s with heap:=h',toks:=t' } :=
 I.write (x:=a) (e:=a) mu (.inl rfl) (fun b q hb z=>(hs.2 b hb).trans z) he new
theorem sU {P:Program} {w:World} {H':Hp} {h':Heap} {kvs:List (Key × V)} {vs:List (Key × Value)} (z:kvs.length<=sizeLine) (hd:(a == sysModules)=false) (rel:KV kvs vs) (dd:h'.DictOf (aP P w) a vs) :
  cf P w H' h' a (.dK kvs):=⟨z,hd,vs,rel,dd⟩
theorem xG {H':Hp} {Q:Unit->Shared->Prop} (hu:A.units+1 < cLine) (I:Inv X pins σ H s) (g:ib H a y v H') (ry:RelV y u) (rv:RelV v r) (h:∀ s',Inv X pins σ H' s'->Q () s') :
  wpAny (model X.prog X.w) A (setItem (.ref a) u r) Q E s:=by
 rcases g with ⟨kvs,k,e,ey,l,eH⟩ | ⟨kvs,k,b,e,ey,eb,l,eH⟩
 ·subst ey eH
  obtain⟨z,hd,vs,rel,dd⟩:=Ak I.aT e
  have hz:vs.length<=sizeLine:=by rw [<-rel.length];exact z
  have hl:(putK kvs k v).length<=sizeLine:=by have:=eW kvs k v;omega
  refine wpAny_setItem_pairs (hsz:=hz) (oH ry) dd fun h' dd' hs=>h _ ?_
  have he:∃ q,h'.get? a=some q:=let ⟨q,_,_,hq,_⟩:=dd';⟨q,hq⟩
  exact u7 I (by rw [e];exact True.intro) hs he (sU hl hd (rel.put k rv) dd')
 ·subst ey eH
  cases (show u=Value.ref b from ry)
  obtain⟨z,hd,xs,rel,dd⟩:=C6 I.aT e
  have hz:xs.length<=sizeLine:=by rw [<-Paired.length rel];exact z
  have hl:(putK kvs k v).length<=sizeLine:=by have:=eW kvs k v;omega
  refine wpAny_setItem_heap (hsz:=hz) (tupleKind_room_in1 hu) (oJ I.aT eb) dd fun h' dd' hs=>h _ ?_
  obtain⟨q,es,ep,hq,h2,h3,h4,_,h5⟩:=dd'
  refine u7 I (by rw [e];exact True.intro) hs ⟨q,hq⟩ ⟨hl,hd,_,(rel.put k eb rv).keeps fun c ys ec=>?_,q,es,ep,hq,h2,h3,h4,h5⟩
  rw [ai (bA ec e (fun z=>nomatch z))]
  exact ec
end
section
variable {X:Cx} {pins:List (Addr × Obj)} {σ : St} {H:Hp} {s:Shared} {a:Addr} {kvs:List (Key × V)} {k:Key} {u:Value} {A:Around} {E:Value->Shared->Prop}
end
def vY (i:Expr):Prop:=∀ ov iv,subscripted i false ov iv=operate [ov,iv] (getItem ov iv)
theorem pX {prog:Program} {w:World} {A:Around} {E:Value->Shared->Prop} {s:Shared} {env:Env} {value slice:Expr} {pos:Pos} {T id:String} {Q:Value->Shared->Prop}
  (hl:typeLookup (.type T) "__getitem__" = pure (some (.builtin id))) (hs:vY slice)
  (h:wpAny (model prog w) A (eval value env) (fun o s₁=>wpAny (model prog w) A (eval slice env) (fun i s₂=>s₂.TypeIs o T/\wpAny (model prog w) A (getItem o i) Q E s₂) E s₁) E s) :
  wpAny (model prog w) A (eval (.Subscript value slice pos) env) Q E s:=by
 refine Subscript_ (wpAny_mono h (fun o s₁ h₁=>wpAny_mono h₁ (fun i s₂ h₂=>?_) fun _ _ x=>x) fun _ _ x=>x)
 obtain⟨hT,h₂⟩:=h₂
 unfold subscriptTail
 refine wpAny_bind ?_
 rw [getitemInPython_of_ne hT.not_modules]
 refine wpAny_bind (wpAny_specialOf hT hl ?_)
 have fin:wpAny (model prog w) A (subscripted slice false o i) (fun r s₃=>wpAny (model prog w) A (letTemporaryGo value o r >>= fun _=>pure r) Q E s₃) E s₂:=by
  rw [hs o i]
  exact wpAny_operating (wpAny_mono h₂ (fun r s₃ h₃=>wpAny_bind (wpAny_letTemporaryGo (wpAny_pure h₃))) fun _ _ x=>x)
 first
  | exact wpAny_pure (wpAny_bind fin)
  | exact wpAny_bind (wpAny_pure (wpAny_bind fin))
  | exact wpAny_bind fin
theorem uo {X:Cx} {pins:List (Addr × Obj)} {σ : St} {H:Hp} {s:Shared} {a:Addr} {y:V} {o:Option V} (I:Inv X pins σ H s) (g:eX H a y o):s.TypeIs (.ref a) "dict" := by
 rcases g with ⟨kvs,k,e,_,_⟩ | ⟨kvs,k,b,e,_,_,_⟩
 ·obtain⟨_,_,vs,_,dd⟩:=mC I.aT e
  exact dd.typeIs
 ·obtain⟨_,_,xs,_,dd⟩:=oK I.aT e
  exact dd.typeIs
def C7 (td ty:TE):TE:=fun σ H Q=>td σ H fun x H1=>ty σ H1 fun y H2=>∃ a v,x=.ref a/\eX H2 a y (some v)/\Q v H2
def C8 (td ty tv:TE):TS:=fun D σ H=>tv σ H fun v H1=>td σ H1 fun x H2=>ty σ H2 fun y H3=>∃ a H4,x=.ref a/\ib H3 a y v H4/\D.nx σ H4
section
variable {X:Cx} {o i e value:Expr} {pos pos' tpos:Pos} {td ty tv:TE}
theorem u9 (hu:X.A.units+1 < cLine) (ho:PE X o td) (hi:PE X i ty) (hs:vY i):PE X (.Subscript o i pos) (C7 td ty):=by
 intro pins s σ H Q I h
 refine pX PySem.F.slot_dict_getitem.lookup hs (ba (ho pins s σ H _ I h) fun u s1 ⟨x,H1,I1,rx,q1⟩=>ba (hi pins s1 σ H1 _ I1 q1) fun iv s2 ⟨y,H2,I2,ry,a,v,ex,g,q2⟩=>?_)
 subst ex
 obtain rfl:u=Value.ref a:=rx
 exact⟨uo I2 g,xF hu I2 g ry fun w' s3 I3 rw'=>⟨v,H2,I3,rw',q2⟩⟩
theorem fE (hu:X.A.units+1 < cLine) (ho:PE X o td) (hi:PE X i ty) (hv:PE X value tv) (hs:swapsWith value (some (.Subscript o i pos')) pos.line X.env=pure false) :
  PS X (.Assign [.Subscript o i pos'] value pos) (C8 td ty tv):=by
 intro pins s σ H D I h
 refine wpAny_Assign_Subscript (ba (hv pins s σ H _ I h) fun r s1 ⟨v,H1,I1,rv,q1⟩=>ba (ho pins s1 σ H1 _ I1 q1) fun u s2 ⟨x,H2,I2,rx,q2⟩=>ba (hi pins s2 σ H2 _ I2 q2) fun iv s3 ⟨y,H3,I3,ry,a,H4,ex,g,q3⟩=>?_) hs
 subst ex
 obtain rfl:u=Value.ref a:=rx
 exact xG hu I3 g ry rv fun s4 I4=>⟨σ,H4,I4,q3⟩
end
theorem sV {P:Program} {w:World} {H:Hp} (h:Heap) (hb:sysModules < h.objs.size):cf P w H (h.push { cls:=.type "dict",data:=.dict #[] }) h.objs.size (.dK []) :=
 ⟨Nat.zero_le _,beq_eq_false_iff_ne.mpr (Ne.symm (Nat.ne_of_lt hb)),[],.nil,Heap.DictOf.new h⟩
def Cm:TE:=fun _ H Q=>∀ p,H p=none->Q (.ref p) (upd H p (.dK []))
section
variable {X:Cx} {pos:Pos}
theorem nG:PE X (.Dict [] [] pos) Cm:=fun pins s σ H Q I h =>
 wpAny_Dict_empty ⟨.ref s.heap.objs.size,_,I.laid (a:=s.heap.objs.size) (o:=.dK []) (t':=s.toks) (fun _ _ q=>Heap.get?_push_of_some _ q) (Nat.le_refl _) (sV s.heap I.big),rfl,h _ (I.aT.fresh (Nat.le_refl _))⟩
end
def sW:List (TE × TE)->St->Hp->(List (V × V)->Hp->Prop)->Prop
 | [],_,H,Q=>Q [] H
 | (tk,tv) :: r,σ,H,Q=>tk σ H fun x H1=>tv σ H1 fun y H2=>sW r σ H2 fun ps H3=>Q ((x,y) :: ps) H3
abbrev VV:List (V × V)->List (Value × Value)->Prop:=Paired fun p q=>RelV p.1 q.1/\RelV p.2 q.2
def Al (X:Cx) (pos:Pos) (keys:List (Option Expr)) (values:List Expr) (trs:List (TE × TE)):Prop :=
 ∀ (pins:List (Addr × Obj)) (s:Shared) (σ : St) (H:Hp) (Q:List (V × V)->Hp->Prop),Inv X pins σ H s->sW trs σ H Q ->
  wpAny (model X.prog X.w) X.A (evalPairs (pairTrees keys values X.env pos)) (fun vs s'=>∃ ps H',Inv X pins σ H' s'/\VV ps vs/\Q ps H') X.xe s
theorem AR {X:Cx} {pos:Pos}:Al X pos [] [] []:=fun pins s σ H Q I h=>pairTrees_nil_walk ⟨[],H,I,.nil,h⟩
theorem y9 {X:Cx} {pos:Pos} {k v:Expr} {ks:List (Option Expr)} {vs:List Expr} {tk tv:TE} {trs:List (TE × TE)} (hk:PE X k tk) (hv:PE X v tv) (hr:Al X pos ks vs trs) :
  Al X pos (some k :: ks) (v :: vs) ((tk,tv) :: trs):=fun pins s σ H Q I h =>
 pairTrees_cons_walk (ba (hk pins s σ H _ I h) fun u s1 ⟨x,H1,I1,rx,q1⟩=>ba (hv pins s1 σ H1 _ I1 q1) fun w2 s2 ⟨y,H2,I2,ry,q2⟩ =>
  ba (hr pins s2 σ H2 _ I2 q2) fun ws s3 ⟨ps,H3,I3,rel,q3⟩=>⟨(x,y) :: ps,H3,I3,.cons ⟨rx,ry⟩ rel,q3⟩)
structure M2 (X:Cx) (o:Expr) (m:Str) (apos:Pos) (e f:Expr) (cpos:Pos):Prop where
 base:attributeBase o m X.env (eval o X.env)=eval o X.env
 bG:((backTo cpos (starEach [e,f] X.env)).all (fun x=>!x.1) && (backToKw cpos (keywordEach [] X.env)).all (fun x=>x.1.isSome)
  && decide (([e,f]:List Expr).length+([]:List Keyword).length+(if ([]:List Keyword).isEmpty then 0 else 1) < 30))=true
 line:(apos.endLine == cpos.line)=true
 trees:backTo cpos (starEach [e,f] X.env) = [(false,eval e X.env),(false,eval f X.env)]
def Dp (H:Hp) (a:Addr):Prop:=(∃ kvs,Rd H a (.dK kvs))\/∃ kvs,Rd H a (.dT kvs)
theorem Cn {X:Cx} {pins:List (Addr × Obj)} {σ : St} {H:Hp} {s:Shared} {a:Addr} (I:Inv X pins σ H s) (d:Dp H a) :
  s.TypeIs (.ref a) "dict" /\ (∀ b,Value.ref a=.ref b->∃ ob,s.heap.get? b=some ob/\ob.dict=none)/\(a == sysModules)=false:=by
 rcases d with ⟨kvs,e⟩ | ⟨kvs,e⟩
 ·obtain⟨_,hd,vs,_,dd⟩:=mC I.aT e
  refine⟨dd.typeIs,fun b q=>?_,hd⟩
  cases q
  obtain⟨ob,_,_,h1,h2,_⟩:=dd
  exact⟨ob,h1,h2.2.1⟩
 ·obtain⟨_,hd,xs,_,dd⟩:=oK I.aT e
  refine⟨dd.typeIs,fun b q=>?_,hd⟩
  cases q
  obtain⟨ob,_,_,h1,h2,_⟩:=dd
  exact⟨ob,h1,h2.2.1⟩
section
variable {X:Cx} {pins:List (Addr × Obj)} {σ : St} {H:Hp} {s:Shared} {a:Addr} {y d:V} {u r:Value} {o:Option V} {A:Around} {E:Value->Shared->Prop}
theorem Co {Q:Value->Shared->Prop} (hu:A.units+1 < cLine) (I:Inv X pins σ H s) (g:eX H a y o) (ry:RelV y u) (rd:RelV d r) (h:∀ w' s',Inv X pins σ H s'->RelV (o.getD d) w'->Q w' s') :
  wpAny (model X.prog X.w) A (call (.builtin "dict.get") [.ref a,u,r]) Q E s:=by
 rcases g with ⟨kvs,k,e,ey,l⟩ | ⟨kvs,k,b,e,ey,eb,l⟩
 ·subst ey
  obtain⟨z,hd,vs,rel,dd⟩:=mC I.aT e
  refine call_meetsIn PySem.F.slot_dict_get dd.typeIs PySem.F.entry_dict_get (PySem.F.args_dict_get_3 _ _ _) (meets_dict_get_default (aP X.prog X.w) a (oH ry) hd r) ⟨_,dd.mapOf,h _ _ (I.tok _) ?_⟩
  rw [l]
  exact (rel.val k).getD rd
 ·subst ey
  cases (show u=Value.ref b from ry)
  obtain⟨z,hd,xs,rel,dd⟩:=oK I.aT e
  refine call_meetsIn PySem.F.slot_dict_get dd.typeIs PySem.F.entry_dict_get (PySem.F.args_dict_get_3 _ _ _) (meetsH_dict_get_default (tupleKind (aP X.prog X.w)) a b hd r) ⟨tupleKind_room_in1 hu,k,xs,oJ I.aT eb,dd,h _ _ (I.tok _) ?_⟩
  rw [l]
  exact (rel.val k).getD rd
end
section
variable {X:Cx} {o e f:Expr} {apos cpos:Pos} {td ty tx:TE}
end
section
variable {X:Cx} {pins:List (Addr × Obj)} {σ : St} {H:Hp} {s:Shared} {a:Addr} {kvs:List (Key × V)} {A:Around} {E:Value->Shared->Prop}
theorem za {Q:Value->Shared->Prop} (I:Inv X pins σ H s) (e:Rd H a (.dK kvs)) (h:∀ p s',H p=none->Inv X pins σ (upd H p (.dK kvs)) s'->Q (.ref p) s'):wpAny (model X.prog X.w) A (call (.type "dict") [.ref a]) Q E s:=by
 obtain⟨z,hd,vs,rel,dd⟩:=mC I.aT e
 refine kt_call_dict hd dd (by rw [<-rel.length];exact z) fun h' dd' hs=>?_
 refine h _ _ (I.aT.fresh (Nat.le_refl _)) (I.laid (a:=s.heap.objs.size) (o:=.dK kvs) (t':=s.toks) (fun b q hq=>?_) (Nat.le_refl _) (sU z (beq_eq_false_iff_ne.mpr (Ne.symm (Nat.ne_of_lt I.big))) rel dd'))
 exact (hs.2 b (Nat.ne_of_lt (Heap.lt_size hq))).trans (Heap.get?_push_of_some _ hq)
end
section
variable {X:Cx} {pins:List (Addr × Obj)} {σ : St} {H:Hp} {s:Shared} {a:Addr} {y:V} {u:Value} {A:Around} {E:Value->Shared->Prop}
end
section
variable {X:Cx}
end
section
variable {κ : Type} [DecidableEq κ]
end
theorem aS.cx {H:Hp} {v:V} {ds:List PyData} (h:aS H v (.tuple ds)):∃ p xs,v=.ref p/\H p=some (.tup xs)/\bh H xs ds:=by
 cases h with
 | tup e r=>exact⟨_,_,rfl,e,r⟩
theorem aS.int_inv {H:Hp} {v:V} {i:Int} (h:aS H v (.int i)):v=.int i:=by cases h;rfl
theorem aS.str_inv {H:Hp} {v:V} {x:Str} (h:aS H v (.str x)):v=.str x:=by cases h;rfl
theorem bh.cons_inv {H:Hp} {xs:List V} {d:PyData} {ds:List PyData} (h:bh H xs (d :: ds)):∃ x r,xs=x :: r/\aS H x d/\bh H r ds:=by
 cases h with
 | cons a b=>exact⟨_,_,rfl,a,b⟩
theorem bh.nil_inv {H:Hp} {xs:List V} (h:bh H xs []):xs = []:=by cases h;rfl
theorem bh.get {H:Hp}:∀ {xs:List V} {ds:List PyData} {i:Nat} {d:PyData},bh H xs ds->ds[i]? = some d->∃ x,xs[i]? = some x/\aS H x d
 | _,_,_,_,.nil,e=>by simp at e
 | _,_,0,_,.cons r _,e=>by
  simp at e
  subst e
  exact⟨_,rfl,r⟩
 | _,_,i+1,d,.cons _ t,e=>by
  obtain⟨x,h1,h2⟩:=bh.get (i:=i) (d:=d) t (by simpa using e)
  exact⟨x,by simpa using h1,h2⟩
def iH:cg->List V
 | .put x n=>[.str "put",.str x,.int n]
 | .copy x y=>[.str "copy",.str x,.str y]
 | .add x n=>[.str "add",.str x,.int n]
 | .read x=>[.str "read",.str x]
 | .tell x=>[.str "tell",.str x]
def fN:End->List V
 | .stop=>[.str "stop"]
 | .go p=>[.str "go",.int p]
 | .cC b x n p q=>[.str (wT b),.str x,.int n,.int p,.int q]
theorem j8 {H:Hp} {v:V} {d:cg} (h:aS H v (cq d)):∃ p,v=.ref p/\H p=some (.tup (iH d)):=by
  cases d <;> (
    obtain⟨p,xs,rfl,e,r⟩:=aS.cx h
    obtain⟨x1,r1,rfl,h1,r⟩:=r.cons_inv
    obtain⟨x2,r2,rfl,h2,r⟩:=r.cons_inv
    first
      | (obtain⟨x3,r3,rfl,h3,r⟩:=r.cons_inv
         have z:=r.nil_inv
         subst z
         refine⟨p,rfl,?_⟩
         first
           | rw [e,h1.str_inv,h2.str_inv,h3.int_inv];rfl
           | rw [e,h1.str_inv,h2.str_inv,h3.str_inv];rfl)
      | (have z:=r.nil_inv
         subst z
         refine⟨p,rfl,?_⟩
         rw [e,h1.str_inv,h2.str_inv];rfl))
theorem Cq {H:Hp} {v:V} {e:End} (h:aS H v (lP e)):∃ p,v=.ref p/\H p=some (.tup (fN e)):=by
 cases e with
 | stop =>
  obtain⟨p,xs,rfl,e,r⟩:=aS.cx h
  obtain⟨x1,r1,rfl,h1,r⟩:=r.cons_inv
  have z:=r.nil_inv
  subst z
  exact⟨p,rfl,by rw [e,h1.str_inv];rfl⟩
 | go q =>
  obtain⟨p,xs,rfl,e,r⟩:=aS.cx h
  obtain⟨x1,r1,rfl,h1,r⟩:=r.cons_inv
  obtain⟨x2,r2,rfl,h2,r⟩:=r.cons_inv
  have z:=r.nil_inv
  subst z
  exact⟨p,rfl,by rw [e,h1.str_inv,h2.int_inv];rfl⟩
 | cC b x n q q' =>
  obtain⟨p,xs,rfl,e,r⟩:=aS.cx h
  obtain⟨x1,r1,rfl,h1,r⟩:=r.cons_inv
  obtain⟨x2,r2,rfl,h2,r⟩:=r.cons_inv
  obtain⟨x3,r3,rfl,h3,r⟩:=r.cons_inv
  obtain⟨x4,r4,rfl,h4,r⟩:=r.cons_inv
  obtain⟨x5,r5,rfl,h5,r⟩:=r.cons_inv
  have z:=r.nil_inv
  subst z
  exact⟨p,rfl,by rw [e,h1.str_inv,h2.str_inv,h3.int_inv,h4.int_inv,h5.int_inv];rfl⟩
theorem fT {H:Hp} {v:V} {ps:List Piece} {i:Nat} {ds:List cg} {e:End} (h:aS H v (df ps)) (hi:ps[i]? = some (ds,e)) :
  ∃ p xs pc da ea vs,v=.ref p/\H p=some (.tup xs)/\xs.length=ps.length/\xs[i]? = some (.ref pc)/\H pc=some (.tup [.ref da,.ref ea])/\H da=some (.tup vs)/\bh H vs (ds.map cq)/\H ea=some (.tup (fN e)):=by
 obtain⟨p,xs,rfl,e1,r⟩:=aS.cx h
 have hl:=r.len
 obtain⟨x,hx,rx⟩:=r.get (i:=i) (d:=fc (ds,e)) (by rw [List.getElem?_map,hi];rfl)
 obtain⟨pc,ys,rfl,e2,r2⟩:=aS.cx rx
 obtain⟨y1,t1,rfl,q1,r2⟩:=r2.cons_inv
 obtain⟨y2,t2,rfl,q2,r2⟩:=r2.cons_inv
 have z:=r2.nil_inv
 subst z
 obtain⟨da,vs,rfl,e3,r3⟩:=aS.cx q1
 obtain⟨ea,rfl,e4⟩:=Cq q2
 exact⟨p,xs,pc,da,ea,vs,rfl,e1,by rw [hl,List.length_map],hx,e2,e3,r3,e4⟩
theorem cy {n:Nat} (h:n<=1000000):n < sizeLine:=Nat.lt_of_le_of_lt h (by decide)
theorem aN {c:Bool} {A B:Prop} (hc:c=false) (h:B):if c=true then A else B:=by subst hc;exact cB h
theorem bW {c:Bool} {A B:Prop} (hc:c=true) (h:A):if c=true then A else B:=by subst hc;exact cm h
def AS (td ty tx:TE):TE:=fun σ H Q=>td σ H fun x H1=>∃ a,x=.ref a/\Dp H1 a/\ty σ H1 fun y H2=>tx σ H2 fun z H3=>∃ o v,eX H3 a y o/\o.getD z=v/\Q v H3
theorem fo {X:Cx} {o e f:Expr} {apos cpos:Pos} {td ty tx:TE} (hu:X.A.units+1 < cLine) (ho:PE X o td) (he:PE X e ty) (hf:PE X f tx) (m:M2 X o "get" apos e f cpos):PE X (.Call (.Attribute o "get" apos) [e,f] [] cpos) (AS td ty tx):=by
 intro pins s σ H Q I h
 refine wpAny_Call_method m.base m.bG m.line PySem.F.plainAttrs_dict PySem.F.slot_dict_get PySem.F.type_dict_get (ba (ho pins s σ H _ I h) fun u s1 ⟨x,H1,I1,rx,a,ex,d,q1⟩=>?_)
 subst ex
 obtain rfl:u=Value.ref a:=rx
 obtain⟨t1,t2,_⟩:=Cn I1 d
 refine⟨t1,t2,?_⟩
 rw [m.trees]
 refine Calls.callWith_builtin rfl (Calls.evalArgs_plain (Calls.spliced_cons (ba (he pins s1 σ H1 _ I1 q1) fun iv s2 ⟨y,H2,I2,ry,q2⟩ =>
  Calls.spliced_cons (ba (hf pins s2 σ H2 _ I2 q2) fun fv s3 ⟨z,H3,I3,rz,ov,v,g,ev,q3⟩=>Calls.spliced_nil ?_))))
 exact Co hu I3 g ry rz fun w' s4 I4 rw'=>⟨v,H3,I4,by rw [<-ev];exact rw',q3⟩
structure RS where
 aY:Nat
 place:Nat
 w:Str->Int
 taken:Nat
 told:List Int
 word:Str
 aZ:List Nat
def cT (w:Str->Int) (x:Str) (n:Int):Str->Int:=fun y=>if y=x then n else w y
def gc (nums:List Int) (S:RS):cg->RS
 | .put x n=>{ S with w:=cT S.w x n,place:=S.place+1 }
 | .copy x y=>{ S with w:=cT S.w x (S.w y),place:=S.place+1 }
 | .add x n=>{ S with w:=cT S.w x (S.w x+n),place:=S.place+1 }
 | .tell x=>{ S with told:=S.told ++ [S.w x],place:=S.place+1 }
 | .read x=>match nums[S.taken]? with
  | none=>{ S with word := "dry" }
  | some n=>{ S with w:=cT S.w x n,taken:=S.taken+1,place:=S.place+1 }
def dD (b:Bool) (u n:Int):Bool:=if b=true then decide (u < n) else decide (u=n)
def iY (S:RS):End->RS
 | .stop=>{ S with word := "stop" }
 | .go p=>{ S with aY:=p,place:=0,aZ:=S.aZ ++ [p] }
 | .cC b x n p q=>{ S with aY:=if dD b (S.w x) n=true then p else q,place:=0,aZ:=S.aZ ++ [if dD b (S.w x) n=true then p else q] }
def cF (ps:List Piece) (nums:List Int) (S:RS):RS:=match ps[S.aY]? with
 | none=>S
 | some (ds,e)=>match ds[S.place]? with
  | some d=>gc nums S d
  | none=>iY S e
def DW (kvs:List (Key × V)) (w:Str->Int):Prop:=∀ x:Str,(cW kvs (Sum.inr x:Key)).getD (.int 0)=.int (w x)
theorem DW.put {kvs:List (Key × V)} {w:Str->Int} (h:DW kvs w) (x:Str) (n:Int):DW (putK kvs (Sum.inr x) (.int n)) (cT w x n):=fun y=>by
 rw [sT]
 unfold cT
 by_cases e:y=x
 ·subst e
  rw [if_pos rfl,if_pos rfl];rfl
 ·rw [if_neg (fun z=>e (Sum.inr.inj z)),if_neg e]
  exact h y
structure fe (H:Hp) (st d tl bl:Addr) (S:RS) (m:Nat):Prop where
 at_:H st=some (.tup [.int S.aY,.int S.place,.ref d,.int S.taken,.ref tl,.str S.word,.ref bl])
 dict:∃ kvs,H d=some (.dK kvs)/\DW kvs S.w/\kvs.length<=m
 told:H tl=some (.lst (S.told.map V.int))
 aZ:H bl=some (.lst (S.aZ.map fun k=>V.int (k:Nat)))
 ne:tl ≠ bl
 bG:S.told.length<=m/\S.aZ.length<=m+1
def eO (d tl bl:Addr) (H H':Hp):Prop:=∀ c o,H c=some o->c ≠ d->c ≠ tl->c ≠ bl->H' c=some o
theorem eO.trans {d tl bl:Addr} {H H1 H2:Hp} (a:eO d tl bl H H1) (b:eO d tl bl H1 H2):eO d tl bl H H2:=fun c o h n1 n2 n3=>b c o (a c o h n1 n2 n3) n1 n2 n3
theorem eO.new {d tl bl p:Addr} {H:Hp} {o:HO} (hp:H p=none):eO d tl bl H (upd H p o):=fun c u h _ _ _=>by rw [ai (aw h hp)];exact h
def dm (ps:List Piece):Prop:=∀ p ∈ ps,match p.2 with
 | .stop=>True
 | .go q=>q < ps.length
 | .cC _ _ _ q r=>q < ps.length/\r < ps.length
theorem cM.sX {xs:List Str} {m:Nat} {ps:List Piece} (h:cM xs m ps):dm ps:=fun p hp=>by
 have:=h.ends p hp
 cases e:p.2 with
 | stop=>exact True.intro
 | go q=>rw [e] at this;exact this
 | cC b x n q r=>rw [e] at this;exact⟨this.2.2.1,this.2.2.2⟩
def sY:Sp:=fun vs H Q _=>∃ (pv:V) (st np d tl bl:Addr) (ps:List Piece) (nums:List Int) (S:RS) (m:Nat),vs = [pv,.ref st,.ref np]/\aS H pv (df ps)/\dm ps/\H np=some (.tup (nums.map V.int))/\fe H st d tl bl S m /\
 S.aY < ps.length/\S.taken<=nums.length/\m<=10000/\∀ st' H',fe H' st' d tl bl (cF ps nums S) (m+1)->eO d tl bl H H'->Q (.ref st') H'
theorem sZ {ps:List Piece} {nums:List Int} {S:RS} (hp:dm ps) (h:S.aY < ps.length) (ht:S.taken<=nums.length):(cF ps nums S).aY < ps.length/\(cF ps nums S).taken<=nums.length:=by
 unfold cF
 have hx:ps[S.aY]? = some ps[S.aY]:=by simp [h]
 rw [hx]
 generalize hpc:ps[S.aY] = pc
 obtain⟨ds,e⟩:=pc
 have hm:(ds,e) ∈ ps:=by rw [<-hpc];exact List.getElem_mem h
 dsimp only
 cases hd:ds[S.place]? with
 | some dd =>
  cases dd with
  | read x =>
   dsimp only [gc]
   cases hn:nums[S.taken]? with
   | none=>exact⟨h,ht⟩
   | some n =>
    have:S.taken < nums.length:=(List.getElem?_eq_some_iff.mp hn).1
    exact⟨h,this⟩
  | _=>exact⟨h,ht⟩
 | none =>
  have hq:=hp (ds,e) hm
  cases e with
  | stop=>exact⟨h,ht⟩
  | go q=>exact⟨hq,ht⟩
  | cC b x n q r =>
   dsimp only [iY]
   refine⟨?_,ht⟩
   split
   ·exact hq.1
   ·exact hq.2
theorem fe.m6 {H1:Hp} {st' d tl bl:Addr} {S':RS} {m:Nat} {kvs:List (Key × V)} (h1:H1 d=some (.dK kvs)) (dw:DW kvs S'.w) (hk:kvs.length<=m) (t1:H1 tl=some (.lst (S'.told.map V.int)))
  (b1:H1 bl=some (.lst (S'.aZ.map fun k=>V.int (k:Nat)))) (ne:tl ≠ bl) (bG:S'.told.length<=m/\S'.aZ.length<=m+1) (hn:H1 st' = none) {xs:List V}
  (ex:xs = [.int S'.aY,.int S'.place,.ref d,.int S'.taken,.ref tl,.str S'.word,.ref bl]):fe (upd H1 st' (.tup xs)) st' d tl bl S' m:=by
 subst ex
 exact⟨ae,⟨kvs,by rw [ai (aw h1 hn)];exact h1,dw,hk⟩,by rw [ai (aw t1 hn)];exact t1,by rw [ai (aw b1 hn)];exact b1,ne,bG⟩
theorem eO.iZ {d tl bl:Addr} {H:Hp} {o:HO}:eO d tl bl H (upd H d o):=fun c u h n _ _=>by rw [ai n];exact h
theorem eO.C9 {d tl bl:Addr} {H:Hp} {o:HO}:eO d tl bl H (upd H tl o):=fun c u h _ n _=>by rw [ai n];exact h
theorem eO.Am {d tl bl:Addr} {H:Hp} {o:HO}:eO d tl bl H (upd H bl o):=fun c u h _ _ n=>by rw [ai n];exact h
theorem iL {ps:List Piece} {nums:List Int} {S:RS} {ds:List cg} {e:End} {dd:cg} (h1:ps[S.aY]? = some (ds,e)) (h2:ds[S.place]? = some dd):cF ps nums S=gc nums S dd:=by
 unfold cF
 rw [h1]
 dsimp only
 rw [h2]
theorem jw {ps:List Piece} {nums:List Int} {S:RS} {ds:List cg} {e:End} (h1:ps[S.aY]? = some (ds,e)) (h2:ds[S.place]? = none):cF ps nums S=iY S e:=by
 unfold cF
 rw [h1]
 dsimp only
 rw [h2]
def vO:Option Int->V
 | none=>.bI
 | some i=>.int i
def tf:Option Int->Option Int->Prop
 | some a,some b=>a<=b
 | _,_=>True
def cH (n:Int) (lo hi:Option Int):Bool:=(match lo with | none=>true | some a=>decide (a<=n)) && (match hi with | none=>true | some a=>decide (n<=a))
abbrev Rs:=Option (Option Int × Option Int)
def iw (hi:Option Int) (n:Int):Int:=match hi with | none=>n - 1 | some h=>if n - 1 < h then n - 1 else h
def gH (lo:Option Int) (n:Int):Int:=match lo with | none=>n | some l=>if n > l then n else l
def ff (lo hi:Option Int) (n:Int):Rs :=
 match lo with | none=>some (none,some (iw hi n)) | some l=>if iw hi n < l then none else some (some l,some (iw hi n))
def fP (lo hi:Option Int) (n:Int):Rs :=
 match hi with | none=>some (some (gH lo n),none) | some h=>if h < gH lo n then none else some (some (gH lo n),some h)
def kW (lo hi:Option Int) (n:Int):Rs:=if cH n lo hi=true then some (some n,some n) else none
def gI (lo hi:Option Int) (n:Int):Rs:=if lo=some n then (if hi=some n then none else some (some (n+1),hi)) else if hi=some n then some (lo,some (n - 1)) else some (lo,hi)
def ic (lo hi:Option Int) (n:Int) (side:Bool):Rs:=if side=true then ff lo hi n else fP lo hi n
def lQ (lo hi:Option Int) (n:Int) (side:Bool):Rs:=if side=true then kW lo hi n else gI lo hi n
def cR (w:Str) (lo hi:Option Int) (n:Int) (side:Bool):Rs:=if w = "less" then ic lo hi n side else lQ lo hi n side
def Cr (rt rf:Rs):Str:=match rf with
 | none => "yes"
 | some _=>match rt with
  | none => "no"
  | some _ => "open"
theorem zb {w:Str} {lo hi:Option Int} {n:Int} (le:tf lo hi) (h1:cR w lo hi n true=none) (h2:cR w lo hi n false=none):False:=by
 unfold cR at h1 h2
 by_cases hw:w = "less"
 ·rw [if_pos hw] at h1 h2
  simp only [ic,if_true,Bool.false_eq_true,if_false] at h1 h2
  unfold ff iw at h1
  unfold fP gH at h2
  cases lo <;> cases hi <;> simp only [reduceCtorEq] at h1 h2
  rename_i l h
  simp only [tf] at le
  by_cases c1:n - 1 < h
  ·simp only [c1,if_true] at h1
   by_cases c2:n - 1 < l
   ·by_cases c3:n > l
    ·simp only [c3,if_true] at h2
     split at h2
     ·omega
     ·cases h2
    ·simp only [c3,if_false] at h2
     split at h2
     ·omega
     ·cases h2
   ·rw [if_neg c2] at h1;cases h1
  ·simp only [c1,if_false] at h1
   split at h1
   ·omega
   ·cases h1
 ·rw [if_neg hw] at h1 h2
  simp only [lQ,if_true,Bool.false_eq_true,if_false] at h1 h2
  unfold gI at h2
  by_cases c1:lo=some n
  ·rw [if_pos c1] at h2
   by_cases c2:hi=some n
   ·subst c1;subst c2
    simp [kW,cH] at h1
   ·rw [if_neg c2] at h2;cases h2
  ·rw [if_neg c1] at h2
   split at h2 <;> cases h2
def RV (H:Hp) (v:V) (r:Rs):Prop:=match r with
 | none=>v=.bI
 | some (a,b)=>∃ p,v=.ref p/\H p=some (.tup [vO a,vO b])
theorem RV.same {H H':Hp} {v:V} {r:Rs} (h:RV H v r) (s:au H H'):RV H' v r:=by
 cases r with
 | none=>exact h
 | some ab =>
  obtain⟨p,e,h⟩:=h
  exact⟨p,e,s _ _ h⟩
theorem RV.put {H:Hp} {v:V} {r:Rs} {l:Addr} {xs:List V} {o:HO} (h:RV H v r) (hl:H l=some (.lst xs)):RV (upd H l o) v r:=by
 cases r with
 | none=>exact h
 | some ab =>
  obtain⟨p,e,h⟩:=h
  exact⟨p,e,by rw [ai (bA h hl (by intro z;cases z))];exact h⟩
def dO:Option Int->PyData
 | none=>.none
 | some i=>.int i
theorem Cs {H:Hp} (o:Option Int):aS H (vO o) (dO o):=by
 cases o with
 | none=>exact .bI
 | some i=>exact .int i
def vZ:Sp:=fun vs H Q _=>∃ (p:Addr) (w:Str) (n:Int) (lo hi:Option Int),vs = [.ref p,.str w,.int n]/\H p=some (.tup [vO lo,vO hi])/\∀ H',au H H'->Q (.str (Cr (cR w lo hi n true) (cR w lo hi n false))) H'
theorem au.put {H H':Hp} {l:Addr} {o:HO} (s:au H H') (n:H l=none):au H (upd H' l o):=fun c u e=>by rw [ai (aw e n)];exact s c u e
theorem xH:decide (V.str "less" = V.str "less")=true:=by decide +kernel
theorem v3:¬ (("is" : Str) = "less"):=by decide +kernel
theorem oM {lo:Option Int} {n:Int}:decide (vO lo=V.int n)=decide (lo=some n):=by
 cases lo with
 | none=>rfl
 | some i =>
  by_cases h:i=n
  ·subst h;simp [vO]
  ·have h1:¬ (V.int i=V.int n):=fun z=>h (V.int.inj z)
   have h2:¬ ((some i:Option Int)=some n):=fun z=>h (Option.some.inj z)
   rw [show vO (some i)=V.int i from rfl,decide_eq_false h1,decide_eq_false h2]
theorem lR {lo:Option Int} {n:Int}:BO (vO lo) (V.int n)=true:=by cases lo <;> rfl
structure eG (P:Program) (w:World) (K:PySem.W.Frag) (mg:Str->Option Value) (base:Heap) (C:Addr) (m:Str) (k:Nat) (ps:List Str) (sp:Sp):Prop where
 cl:j4 K C
 ex:∃ f fd,bc P w K mg base bO k f fd ps sp/\Meth K C m f/\Binds K fd ps []
structure pY (P:Program) (w:World) (K:PySem.W.Frag) (mg:Str->Option Value) (base:Heap) (C:Addr) (x:Str) (k:Nat) (ps:List Str) (sp:Sp):Prop where
 ex:∃ f fd,bc P w K mg base bO k f fd ps sp/\Mk K C f/\mg x=some (.ref C)/\Binds K fd ps []
section
variable {X:Cx} {C:Addr} {m x:Str} {k:Nat} {ps:List Str} {sp:Sp} {oe e:Expr} {es:List Expr} {ta:TE} {t:TA} {p pos apos:Pos}
theorem gd {pl:Sem Bool} (o:eG X.prog X.w X.K X.mg X.base C m k ps sp) (he:PE X oe ta) (hr:cN k X.A) (ha:PA X (e :: es) t)
  (hst:starEach (e :: es) X.env=(false,eval e X.env) :: starEach es X.env:=by rfl) (hpl:(backTo pos (starEach es X.env)).any (·.1)=false:=by rfl)
  (ht:eval (.Call (.Attribute oe m apos) (e :: es) [] pos) X.env=(do
   let ov <-eval oe X.env
   standAt apos.atName
   let (f,first) <-holding [ov] (getMethod ov m pl)
   callWith pos f first (backTo pos (starEach (e :: es) X.env)) (backToKw pos (keywordEach [] X.env))):=by rfl) :
  PE X (.Call (.Attribute oe m apos) (e :: es) [] pos) (rX C m sp [] E0 ta t):=by
 obtain⟨f,fd,F,hm,hb⟩:=o.ex
 exact AG he o.cl hm F hr hb .nil rY ha hst hpl ht
theorem jx {pl:Sem Bool} (o:eG X.prog X.w X.K X.mg X.base C m k ps sp) (he:PE X oe ta) (hr:cN k X.A)
  (ht:eval (.Call (.Attribute oe m apos) [] [] pos) X.env=(do
   let ov <-eval oe X.env
   standAt apos.atName
   let (f,first) <-holding [ov] (getMethod ov m pl)
   callWith pos f first (backTo pos (starEach [] X.env)) (backToKw pos (keywordEach [] X.env))):=by rfl) :
  PE X (.Call (.Attribute oe m apos) [] [] pos) (rX C m sp [] E0 ta sF):=by
 obtain⟨f,fd,F,hm,hb⟩:=o.ex
 exact yV he o.cl hm F hr hb .nil rY ht
theorem pZ (o:pY X.prog X.w X.K X.mg X.base C x k ps sp) (hr:cN (k+1) X.A) (hg:Gl X x) (ha:PA X (e :: es) t)
  (hdb:(x == ("__debug__" : Str))=false:=by decide) (he:starEach (e :: es) X.env=(false,eval e X.env) :: starEach es X.env:=by rfl)
  (hpl:(backTo pos (starEach es X.env)).any (·.1)=false:=by rfl):PE X (.Call (.Name x p) (e :: es) [] pos) (Ag C sp [] E0 t):=by
 obtain⟨f,fd,F,M,hm,hb⟩:=o.ex
 exact AH M F hr hg hm hb .nil rY ha hdb he hpl
theorem tj:eU X (.type "dict") (fun vs H Q=>∃ a kvs,vs = [.ref a]/\H a=some (.dK kvs)/\∀ q,H q=none->Q (.ref q) (upd H q (.dK kvs))):=by
 intro pins s σ H vs us Q I r h
 obtain⟨a,kvs,rfl,hd,q⟩:=h
 obtain⟨u,rfl,ru⟩:=vals1 r
 cases ru
 exact za I (.inl hd) fun q' s' hn I'=>⟨.ref q',_,I',rfl,q q' hn⟩
end
theorem mD:bootBuiltins "dict" = some (.type "dict"):=by decide +kernel
theorem jV {k:Str} {v:V} {l:List (Str × V)}:((k,v) :: l).lookup k=some v:=by simp [List.lookup]
theorem aJ {k k':Str} {v:V} {l:List (Str × V)} {o:Option V} (h:¬ k=k') (e:l.lookup k=o):((k',v) :: l).lookup k=o:=by
 rw [List.lookup_cons,beq_false_of_ne h];exact e
theorem zc {k:Str} {v u:V} {l:List (Str × V)}:cu k v ((k,u) :: l)=(k,v) :: l:=by simp only [cu,if_true]
theorem bS {k k':Str} {v u:V} {l l':List (Str × V)} (h:¬ k' = k) (e:cu k v l=l'):cu k v ((k',u) :: l)=(k',u) :: l':=by simp only [cu,if_neg h,e]
theorem jW {k:Str} {v:V}:cu k v [] = [(k,v)]:=rfl
def eV (a0 a1 a2 a3 a4 a5 a6 a7:V):List (Str × V):=[("pieces",a0),("passed",a1),("place",a2),("worths",a3),("numbers",a4),("taken",a5),("spoken",a6),("over",a7)]
section
variable {a0 a1 a2 a3 a4 a5 a6 a7 z:V}
theorem qS:(eV a0 a1 a2 a3 a4 a5 a6 a7).lookup ("pieces" : Str)=some a0:=jV
theorem jK:(eV a0 a1 a2 a3 a4 a5 a6 a7).lookup ("passed" : Str)=some a1:=(aJ (by decide +kernel) jV)
theorem fq:(eV a0 a1 a2 a3 a4 a5 a6 a7).lookup ("place" : Str)=some a2:=(aJ (by decide +kernel) (aJ (by decide +kernel) jV))
theorem iM:(eV a0 a1 a2 a3 a4 a5 a6 a7).lookup ("worths" : Str)=some a3:=(aJ (by decide +kernel) (aJ (by decide +kernel) (aJ (by decide +kernel) jV)))
theorem oN:(eV a0 a1 a2 a3 a4 a5 a6 a7).lookup ("numbers" : Str)=some a4:=(aJ (by decide +kernel) (aJ (by decide +kernel) (aJ (by decide +kernel) (aJ (by decide +kernel) jV))))
theorem nH:(eV a0 a1 a2 a3 a4 a5 a6 a7).lookup ("taken" : Str)=some a5:=(aJ (by decide +kernel) (aJ (by decide +kernel) (aJ (by decide +kernel) (aJ (by decide +kernel) (aJ (by decide +kernel) jV)))))
theorem lS:(eV a0 a1 a2 a3 a4 a5 a6 a7).lookup ("spoken" : Str)=some a6:=(aJ (by decide +kernel) (aJ (by decide +kernel) (aJ (by decide +kernel) (aJ (by decide +kernel) (aJ (by decide +kernel) (aJ (by decide +kernel) jV))))))
theorem va:(eV a0 a1 a2 a3 a4 a5 a6 a7).lookup ("over" : Str)=some a7:=(aJ (by decide +kernel) (aJ (by decide +kernel) (aJ (by decide +kernel) (aJ (by decide +kernel) (aJ (by decide +kernel) (aJ (by decide +kernel) (aJ (by decide +kernel) jV)))))))
theorem kB:(eV a0 a1 a2 a3 a4 a5 a6 a7).lookup ("worth" : Str)=none:=(aJ (by decide +kernel) (aJ (by decide +kernel) (aJ (by decide +kernel) (aJ (by decide +kernel) (aJ (by decide +kernel) (aJ (by decide +kernel) (aJ (by decide +kernel) (aJ (by decide +kernel) rfl))))))))
theorem xI:(eV a0 a1 a2 a3 a4 a5 a6 a7).lookup ("coming" : Str)=none:=(aJ (by decide +kernel) (aJ (by decide +kernel) (aJ (by decide +kernel) (aJ (by decide +kernel) (aJ (by decide +kernel) (aJ (by decide +kernel) (aJ (by decide +kernel) (aJ (by decide +kernel) rfl))))))))
theorem oO:(eV a0 a1 a2 a3 a4 a5 a6 a7).lookup ("lacks_number" : Str)=none:=(aJ (by decide +kernel) (aJ (by decide +kernel) (aJ (by decide +kernel) (aJ (by decide +kernel) (aJ (by decide +kernel) (aJ (by decide +kernel) (aJ (by decide +kernel) (aJ (by decide +kernel) rfl))))))))
theorem v5:(eV a0 a1 a2 a3 a4 a5 a6 a7).lookup ("is_held" : Str)=none:=(aJ (by decide +kernel) (aJ (by decide +kernel) (aJ (by decide +kernel) (aJ (by decide +kernel) (aJ (by decide +kernel) (aJ (by decide +kernel) (aJ (by decide +kernel) (aJ (by decide +kernel) rfl))))))))
theorem p4:(eV a0 a1 a2 a3 a4 a5 a6 a7).lookup ("take_number" : Str)=none:=(aJ (by decide +kernel) (aJ (by decide +kernel) (aJ (by decide +kernel) (aJ (by decide +kernel) (aJ (by decide +kernel) (aJ (by decide +kernel) (aJ (by decide +kernel) (aJ (by decide +kernel) rfl))))))))
theorem v7:(eV a0 a1 a2 a3 a4 a5 a6 a7).lookup ("do_deed" : Str)=none:=(aJ (by decide +kernel) (aJ (by decide +kernel) (aJ (by decide +kernel) (aJ (by decide +kernel) (aJ (by decide +kernel) (aJ (by decide +kernel) (aJ (by decide +kernel) (aJ (by decide +kernel) rfl))))))))
theorem oP:(eV a0 a1 a2 a3 a4 a5 a6 a7).lookup ("come_to" : Str)=none:=(aJ (by decide +kernel) (aJ (by decide +kernel) (aJ (by decide +kernel) (aJ (by decide +kernel) (aJ (by decide +kernel) (aJ (by decide +kernel) (aJ (by decide +kernel) (aJ (by decide +kernel) rfl))))))))
theorem xJ:(eV a0 a1 a2 a3 a4 a5 a6 a7).lookup ("do_end" : Str)=none:=(aJ (by decide +kernel) (aJ (by decide +kernel) (aJ (by decide +kernel) (aJ (by decide +kernel) (aJ (by decide +kernel) (aJ (by decide +kernel) (aJ (by decide +kernel) (aJ (by decide +kernel) rfl))))))))
theorem v8:(eV a0 a1 a2 a3 a4 a5 a6 a7).lookup ("do_step" : Str)=none:=(aJ (by decide +kernel) (aJ (by decide +kernel) (aJ (by decide +kernel) (aJ (by decide +kernel) (aJ (by decide +kernel) (aJ (by decide +kernel) (aJ (by decide +kernel) (aJ (by decide +kernel) rfl))))))))
theorem ix:cu "place" z (eV a0 a1 a2 a3 a4 a5 a6 a7)=eV a0 a1 z a3 a4 a5 a6 a7:=(bS (by decide +kernel) (bS (by decide +kernel) zc))
theorem zd:cu "taken" z (eV a0 a1 a2 a3 a4 a5 a6 a7)=eV a0 a1 a2 a3 a4 z a6 a7:=(bS (by decide +kernel) (bS (by decide +kernel) (bS (by decide +kernel) (bS (by decide +kernel) (bS (by decide +kernel) zc)))))
theorem AU:cu "over" z (eV a0 a1 a2 a3 a4 a5 a6 a7)=eV a0 a1 a2 a3 a4 a5 a6 z:=(bS (by decide +kernel) (bS (by decide +kernel) (bS (by decide +kernel) (bS (by decide +kernel) (bS (by decide +kernel) (bS (by decide +kernel) (bS (by decide +kernel) zc)))))))
theorem xK:cu "pieces" a0 ([]:List (Str × V))=([("pieces",a0)]:List (Str × V)):=jW
theorem xM:cu "passed" a1 ([("pieces",a0)]:List (Str × V))=([("pieces",a0),("passed",a1)]:List (Str × V)):=(bS (by decide +kernel) jW)
theorem ze:cu "place" a2 ([("pieces",a0),("passed",a1)]:List (Str × V))=([("pieces",a0),("passed",a1),("place",a2)]:List (Str × V)):=(bS (by decide +kernel) (bS (by decide +kernel) jW))
theorem xN:cu "worths" a3 ([("pieces",a0),("passed",a1),("place",a2)]:List (Str × V))=([("pieces",a0),("passed",a1),("place",a2),("worths",a3)]:List (Str × V)):=(bS (by decide +kernel) (bS (by decide +kernel) (bS (by decide +kernel) jW)))
theorem v9:cu "numbers" a4 ([("pieces",a0),("passed",a1),("place",a2),("worths",a3)]:List (Str × V))=([("pieces",a0),("passed",a1),("place",a2),("worths",a3),("numbers",a4)]:List (Str × V)):=(bS (by decide +kernel) (bS (by decide +kernel) (bS (by decide +kernel) (bS (by decide +kernel) jW))))
theorem zf:cu "taken" a5 ([("pieces",a0),("passed",a1),("place",a2),("worths",a3),("numbers",a4)]:List (Str × V))=([("pieces",a0),("passed",a1),("place",a2),("worths",a3),("numbers",a4),("taken",a5)]:List (Str × V)):=(bS (by decide +kernel) (bS (by decide +kernel) (bS (by decide +kernel) (bS (by decide +kernel) (bS (by decide +kernel) jW)))))
theorem xO:cu "spoken" a6 ([("pieces",a0),("passed",a1),("place",a2),("worths",a3),("numbers",a4),("taken",a5)]:List (Str × V))=([("pieces",a0),("passed",a1),("place",a2),("worths",a3),("numbers",a4),("taken",a5),("spoken",a6)]:List (Str × V)):=(bS (by decide +kernel) (bS (by decide +kernel) (bS (by decide +kernel) (bS (by decide +kernel) (bS (by decide +kernel) (bS (by decide +kernel) jW))))))
theorem AV:cu "over" a7 ([("pieces",a0),("passed",a1),("place",a2),("worths",a3),("numbers",a4),("taken",a5),("spoken",a6)]:List (Str × V))=([("pieces",a0),("passed",a1),("place",a2),("worths",a3),("numbers",a4),("taken",a5),("spoken",a6),("over",a7)]:List (Str × V)):=(bS (by decide +kernel) (bS (by decide +kernel) (bS (by decide +kernel) (bS (by decide +kernel) (bS (by decide +kernel) (bS (by decide +kernel) (bS (by decide +kernel) jW)))))))
end
structure jL (K:PySem.W.Frag) (C:Addr):Prop where
 cl:j4 K C
 pieces:dA K C "pieces"
 dE:dA K C "passed"
 place:dA K C "place"
 fU:dA K C "worths"
 p5:dA K C "numbers"
 taken:dA K C "taken"
 eI:dA K C "spoken"
 over:dA K C "over"
structure bo (C:Addr) (H:Hp) (p pl d nl sl:Addr) (plv:V) (nums:List Int) (S:RS) (m:Nat):Prop where
 ob:∃ dx,H p=some (.ins C dx (eV plv (.ref pl) (.int S.place) (.ref d) (.ref nl) (.int S.taken) (.ref sl) (.bl (decide (S.word = "stop")))))
 dE:H pl=some (.lst (S.aZ.map fun k=>V.int (k:Nat)))
 last:∃ xs,S.aZ=xs ++ [S.aY]
 dict:∃ kvs,H d=some (.dK kvs)/\DW kvs S.w/\kvs.length<=m
 nums:H nl=some (.lst (nums.map V.int))
 eI:H sl=some (.lst (S.told.map V.int))
 ne:pl ≠ nl/\pl ≠ sl/\nl ≠ sl
 bG:S.told.length<=m/\S.aZ.length<=m+1
def bV (p pl d sl:Addr) (H H':Hp):Prop:=∀ c o,H c=some o->c ≠ p->c ≠ pl->c ≠ d->c ≠ sl->H' c=some o
theorem bV.refl (p pl d sl:Addr) (H:Hp):bV p pl d sl H H:=fun _ _ h _ _ _ _=>h
theorem bV.trans {p pl d sl:Addr} {H H1 H2:Hp} (a:bV p pl d sl H H1) (b:bV p pl d sl H1 H2):bV p pl d sl H H2:=fun c o h n1 n2 n3 n4=>b c o (a c o h n1 n2 n3 n4) n1 n2 n3 n4
theorem bV.jM {p pl d sl:Addr} {H:Hp} {o:HO}:bV p pl d sl H (upd H p o):=fun c u h n _ _ _=>by rw [ai n];exact h
theorem bV.Ct {p pl d sl:Addr} {H:Hp} {o:HO}:bV p pl d sl H (upd H pl o):=fun c u h _ n _ _=>by rw [ai n];exact h
theorem bV.iZ {p pl d sl:Addr} {H:Hp} {o:HO}:bV p pl d sl H (upd H d o):=fun c u h _ _ n _=>by rw [ai n];exact h
theorem bV.Cu {p pl d sl:Addr} {H:Hp} {o:HO}:bV p pl d sl H (upd H sl o):=fun c u h _ _ _ n=>by rw [ai n];exact h
theorem bV.of_same {p pl d sl:Addr} {H H':Hp} (h:au H H'):bV p pl d sl H H':=fun c o e _ _ _ _=>h c o e
section
variable {C:Addr} {H H':Hp} {p pl d nl sl:Addr} {plv:V} {nums:List Int} {S:RS} {m:Nat}
theorem bo.vb (A:bo C H p pl d nl sl plv nums S m):p ≠ pl/\p ≠ d/\p ≠ nl/\p ≠ sl/\d ≠ pl/\d ≠ nl/\d ≠ sl:=by
 obtain⟨dx,h1⟩:=A.ob
 obtain⟨kvs,h2,_⟩:=A.dict
 refine⟨bA h1 A.dE ?_,bA h1 h2 ?_,bA h1 A.nums ?_,bA h1 A.eI ?_,bA h2 A.dE ?_,bA h2 A.nums ?_,bA h2 A.eI ?_⟩ <;> (intro z;cases z)
theorem bo.tup {c:Addr} {xs:List V} (A:bo C H p pl d nl sl plv nums S m) (b:bV p pl d sl H H') (h:H c=some (.tup xs)):H' c=some (.tup xs):=by
 obtain⟨dx,h1⟩:=A.ob
 obtain⟨kvs,h2,_⟩:=A.dict
 refine b c _ h (bA h h1 ?_) (bA h A.dE ?_) (bA h h2 ?_) (bA h A.eI ?_) <;> (intro z;cases z)
theorem bo.rd {x:V} {dd:PyData} (A:bo C H p pl d nl sl plv nums S m) (b:bV p pl d sl H H') (r:aS H x dd) (n:bP dd=true):aS H' x dd :=
 r.bb (fun c xs e=>A.tup b e) n
theorem bo.same (A:bo C H p pl d nl sl plv nums S m) (s:au H H'):bo C H' p pl d nl sl plv nums S m:=by
 obtain⟨⟨dx,h1⟩,h2,h3,⟨kvs,h4,h5⟩,h6,h7,h8,h9⟩:=A
 exact⟨⟨dx,s _ _ h1⟩,s _ _ h2,h3,⟨kvs,s _ _ h4,h5⟩,s _ _ h6,s _ _ h7,h8,h9⟩
theorem bo.obj {dx:Addr} {S':RS} {fs:List (Str × V)} (A:bo C H p pl d nl sl plv nums S m)
  (e:fs=eV plv (.ref pl) (.int S'.place) (.ref d) (.ref nl) (.int S'.taken) (.ref sl) (.bl (decide (S'.word = "stop"))))
  (e1:S'.aZ=S.aZ) (e2:S'.aY=S.aY) (e3:S'.w=S.w) (e4:S'.told=S.told):bo C (upd H p (.ins C dx fs)) p pl d nl sl plv nums S' m:=by
 obtain⟨n1,n2,n3,n4,_⟩:=A.vb
 obtain⟨kvs,h4,h5⟩:=A.dict
 subst e
 refine⟨⟨dx,ae⟩,by rw [ai n1.symm,e1];exact A.dE,by rw [e1,e2];exact A.last,⟨kvs,by rw [ai n2.symm];exact h4,by rw [e3];exact h5⟩,by rw [ai n3.symm];exact A.nums,by rw [ai n4.symm,e4];exact A.eI,A.ne,by rw [e1,e4];exact A.bG⟩
theorem bo.fU {kvs:List (Key × V)} {x:Str} {n:Int} (A:bo C H p pl d nl sl plv nums S m) (h:H d=some (.dK kvs)) (dw:DW kvs S.w) (hl:kvs.length<=m) :
  bo C (upd H d (.dK (putK kvs (Sum.inr x) (.int n)))) p pl d nl sl plv nums { S with w:=cT S.w x n } (m+1):=by
 obtain⟨n1,n2,n3,n4,n5,n6,n7⟩:=A.vb
 obtain⟨dx,h1⟩:=A.ob
 refine⟨⟨dx,by rw [ai n2];exact h1⟩,by rw [ai n5.symm];exact A.dE,A.last,⟨_,ae,dw.put x n,?_⟩,by rw [ai n6.symm];exact A.nums,by rw [ai n7.symm];exact A.eI,A.ne,⟨Nat.le_succ_of_le A.bG.1,Nat.le_succ_of_le A.bG.2⟩⟩
 have:=eW kvs (Sum.inr x:Key) (V.int n)
 omega
theorem bo.Dc {n:Int} (A:bo C H p pl d nl sl plv nums S m):bo C (upd H sl (.lst (S.told.map V.int ++ [.int n]))) p pl d nl sl plv nums { S with told:=S.told ++ [n] } (m+1):=by
 obtain⟨n1,n2,n3,n4,n5,n6,n7⟩:=A.vb
 obtain⟨dx,h1⟩:=A.ob
 obtain⟨kvs,h4,h5,h6⟩:=A.dict
 refine⟨⟨dx,by rw [ai n4];exact h1⟩,by rw [ai A.ne.2.1];exact A.dE,A.last,⟨kvs,by rw [ai n7];exact h4,h5,Nat.le_succ_of_le h6⟩,by rw [ai A.ne.2.2];exact A.nums,by rw [ae,List.map_append];rfl,A.ne,?_,Nat.le_succ_of_le A.bG.2⟩
 have:=A.bG.1
 show (S.told ++ [n]).length<=m+1
 rw [List.length_append]
 exact Nat.succ_le_succ this
theorem bo.DX {q:Nat} (A:bo C H p pl d nl sl plv nums S m):bo C (upd H pl (.lst ((S.aZ.map fun k=>V.int (k:Nat)) ++ [.int q]))) p pl d nl sl plv nums { S with aY:=q,aZ:=S.aZ ++ [q] } (m+1):=by
 obtain⟨n1,n2,n3,n4,n5,n6,n7⟩:=A.vb
 obtain⟨dx,h1⟩:=A.ob
 obtain⟨kvs,h4,h5,h6⟩:=A.dict
 refine⟨⟨dx,by rw [ai n1];exact h1⟩,by rw [ae,List.map_append];rfl,⟨S.aZ,rfl⟩,⟨kvs,by rw [ai n5];exact h4,h5,Nat.le_succ_of_le h6⟩,by rw [ai A.ne.1.symm];exact A.nums,by rw [ai A.ne.2.1.symm];exact A.eI,A.ne,Nat.le_succ_of_le A.bG.1,?_⟩
 have:=A.bG.2
 show (S.aZ ++ [q]).length<=m+1+1
 rw [List.length_append]
 exact Nat.succ_le_succ this
theorem bo.mono {m':Nat} (A:bo C H p pl d nl sl plv nums S m) (h:m<=m'):bo C H p pl d nl sl plv nums S m':=by
 obtain⟨h1,h2,h3,⟨kvs,h4,h5,h6⟩,h7,h8,h9,h10⟩:=A
 exact⟨h1,h2,h3,⟨kvs,h4,h5,Nat.le_trans h6 h⟩,h7,h8,h9,Nat.le_trans h10.1 h,Nat.le_trans h10.2 (Nat.succ_le_succ h)⟩
theorem bo.vc (A:bo C H p pl d nl sl plv nums S m):fD (S.aZ.map fun k=>V.int (k:Nat)) (-1)=some (.int S.aY):=by
 obtain⟨xs,e⟩:=A.last
 rw [e]
 simp only [List.map_append,List.map_cons,List.map_nil]
 unfold fD m3
 simp
 rw [if_pos (by omega)]
 have e1:(-1+((xs.length:Int)+1)).toNat=xs.length:=by omega
 rw [e1]
 simp
end
def mE (C:Addr):Sp:=fun vs H Q _=>∃ (p pl d nl sl:Addr) (plv:V) (nums:List Int) (S:RS) (m:Nat) (x:Str),vs = [.ref p,.str x]/\bo C H p pl d nl sl plv nums S m/\Q (.int (S.w x)) H
inductive Nx (H:Hp) (ds:List cg) (e:End) (i:Nat) (v:V):Prop
 | lT (dd:cg) (q:Addr) (h:ds[i]? = some dd) (hv:v=.ref q) (hq:H q=some (.tup (iH dd)))
 | end_ (q:Addr) (h:ds[i]? = none) (hv:v=.ref q) (hq:H q=some (.tup (fN e)))
def nI (C:Addr):Sp:=fun vs H Q _=>∃ (p pl d nl sl:Addr) (plv:V) (nums:List Int) (S:RS) (m:Nat) (ps:List Piece) (ds:List cg) (e:End),vs = [.ref p]/\bo C H p pl d nl sl plv nums S m/\aS H plv (df ps)/\ps[S.aY]? = some (ds,e) /\
 ∀ v,Nx H ds e S.place v->Q v H
def j9:cg->Bool
 | .read _=>true
 | _=>false
def gf (ps:List Piece) (nums:List Int) (S:RS):Bool:=match ps[S.aY]? with
 | none=>false
 | some (ds,_)=>match ds[S.place]? with
  | some dd=>j9 dd && decide (S.taken=nums.length)
  | none=>false
def p6 (C:Addr):Sp:=fun vs H Q _=>∃ (p pl d nl sl:Addr) (plv:V) (nums:List Int) (S:RS) (m:Nat) (ps:List Piece),vs = [.ref p]/\bo C H p pl d nl sl plv nums S m/\aS H plv (df ps)/\S.aY < ps.length/\Q (.bl (gf ps nums S)) H
def p7 (C:Addr):Sp:=fun vs H Q _=>∃ (p pl d nl sl:Addr) (plv:V) (nums:List Int) (S:RS) (m:Nat) (n:Int),vs = [.ref p]/\bo C H p pl d nl sl plv nums S m/\nums[S.taken]? = some n /\
 ∀ H',bo C H' p pl d nl sl plv nums { S with taken:=S.taken+1 } m->bV p pl d sl H H'->Q (.int n) H'
def nJ (C:Addr):Sp:=fun vs H Q _=>∃ (p pl d nl sl q:Addr) (plv:V) (nums:List Int) (S:RS) (m:Nat) (dd:cg),vs = [.ref p,.ref q]/\bo C H p pl d nl sl plv nums S m/\H q=some (.tup (iH dd))/\(j9 dd=true->S.taken < nums.length)/\m<=10000 /\
 ∀ H',bo C H' p pl d nl sl plv nums (gc nums S dd) (m+1)->bV p pl d sl H H'->Q .bI H'
def tm (C:Addr):Sp:=fun vs H Q _=>∃ (p pl d nl sl:Addr) (plv:V) (nums:List Int) (S:RS) (m n:Nat),vs = [.ref p,.int n]/\bo C H p pl d nl sl plv nums S m/\m<=10000 /\
 ∀ H',bo C H' p pl d nl sl plv nums { S with aY:=n,place:=0,aZ:=S.aZ ++ [n] } (m+1)->bV p pl d sl H H'->Q .bI H'
def p8 (C:Addr):Sp:=fun vs H Q _=>∃ (p pl d nl sl q:Addr) (plv:V) (nums:List Int) (S:RS) (m:Nat) (e:End),vs = [.ref p,.ref q]/\bo C H p pl d nl sl plv nums S m/\H q=some (.tup (fN e))/\m<=10000 /\
 ∀ H',bo C H' p pl d nl sl plv nums (iY S e) (m+1)->bV p pl d sl H H'->Q .bI H'
def nK (C:Addr):Sp:=fun vs H Q _=>∃ (p pl d nl sl:Addr) (plv:V) (nums:List Int) (S:RS) (m:Nat) (ps:List Piece),vs = [.ref p]/\bo C H p pl d nl sl plv nums S m/\aS H plv (df ps)/\S.aY < ps.length/\S.taken<=nums.length/\gf ps nums S=false/\m<=10000 /\
 ∀ H',bo C H' p pl d nl sl plv nums (cF ps nums S) (m+1)->bV p pl d sl H H'->Q .bI H'
def kc (ps:List Piece) (nums:List Int) (S:RS):RS:=if S.word = "on" then cF ps nums S else S
def bD (ps:List Piece) (nums:List Int):Nat->RS->RS
 | 0,S=>S
 | n+1,S=>kc ps nums (bD ps nums n S)
theorem p9 {ps:List Piece} {nums:List Int} {n:Nat} {S:RS} (h:(bD ps nums n S).word = "on"):bD ps nums (n+1) S=cF ps nums (bD ps nums n S):=by
 show kc ps nums _=_
 unfold kc
 rw [if_pos h]
theorem jy {ps:List Piece} {nums:List Int} {n:Nat} {S:RS} (h:¬ (bD ps nums n S).word = "on"):∀ k,bD ps nums (n+k) S=bD ps nums n S
 | 0=>rfl
 | k+1=>by
  show kc ps nums (bD ps nums (n+k) S)=_
  rw [jy h k]
  unfold kc
  rw [if_neg h]
theorem mF {ps:List Piece} {nums:List Int} {S:RS} (hp:dm ps) (h:S.aY < ps.length) (ht:S.taken<=nums.length):∀ n,(bD ps nums n S).aY < ps.length/\(bD ps nums n S).taken<=nums.length
 | 0=>⟨h,ht⟩
 | n+1=>by
  have ih:=mF hp h ht n
  show (kc ps nums (bD ps nums n S)).aY < _/\(kc ps nums (bD ps nums n S)).taken<=_
  unfold kc
  split
  ·exact sZ hp ih.1 ih.2
  ·exact ih
theorem zg {ps:List Piece} {nums:List Int} {S:RS} (h:gf ps nums S=true):cF ps nums S = { S with word := "dry" }:=by
 unfold gf at h
 unfold cF
 cases hx:ps[S.aY]? with
 | none=>rw [hx] at h;cases h
 | some pc =>
  obtain⟨ds,e⟩:=pc
  rw [hx] at h
  dsimp only at h ⊢
  cases hd:ds[S.place]? with
  | none=>rw [hd] at h;cases h
  | some dd =>
   rw [hd] at h
   dsimp only at h ⊢
   cases dd with
   | read x =>
    have ht:S.taken=nums.length:=of_decide_eq_true (by simpa [j9] using h)
    have hn:nums[S.taken]? = none:=by rw [ht];simp
    show gc nums S (.read x)=_
    unfold gc
    rw [hn]
   | _=>cases h
theorem zh {ps:List Piece} {nums:List Int} {S:RS} (h:gf ps nums S=false) (hw:S.word = "on") (ht:S.taken<=nums.length):(cF ps nums S).word = "on" \/ (cF ps nums S).word = "stop" := by
 unfold gf at h
 unfold cF
 cases hx:ps[S.aY]? with
 | none=>exact .inl hw
 | some pc =>
  obtain⟨ds,e⟩:=pc
  rw [hx] at h
  dsimp only at h ⊢
  cases hd:ds[S.place]? with
  | none =>
   dsimp only
   cases e with
   | stop=>exact .inr rfl
   | go q=>exact .inl hw
   | cC b x n q r=>exact .inl hw
  | some dd =>
   rw [hd] at h
   dsimp only at h ⊢
   cases dd with
   | read x =>
    have hlt:S.taken < nums.length:=by
     have:¬ S.taken=nums.length:=of_decide_eq_false (by simpa [j9] using h)
     omega
    have hn:nums[S.taken]? = some nums[S.taken]:=by simp [hlt]
    show (gc nums S (.read x)).word=_\/_
    unfold gc
    rw [hn]
    exact .inl hw
   | put x n=>exact .inl hw
   | copy x y=>exact .inl hw
   | add x n=>exact .inl hw
   | tell x=>exact .inl hw
def bF (pc:Nat) (w:Str->Int):RS:=⟨pc,0,w,0,[], "on",[pc]⟩
def eN (ps:List Piece) (nums:List Int) (S:RS):Bool:=decide (S.word = "stop") || gf ps nums S
def du (ps:List Piece) (nums:List Int):Nat->RS->RS
 | 0,S=>S
 | n+1,S=>if eN ps nums (du ps nums n S)=true then du ps nums n S else cF ps nums (du ps nums n S)
def iy (ps:List Piece) (nums:List Int):Nat->RS->Nat
 | 0,_=>0
 | n+1,S=>if eN ps nums (du ps nums n S)=true then iy ps nums n S else iy ps nums n S+1
theorem xP {ps:List Piece} {nums:List Int} {n:Nat} {S:RS} (h:eN ps nums (du ps nums n S)=false):du ps nums (n+1) S=cF ps nums (du ps nums n S)/\iy ps nums (n+1) S=iy ps nums n S+1:=by
 have h':¬ eN ps nums (du ps nums n S)=true:=by rw [h];decide
 exact⟨if_neg h',if_neg h'⟩
theorem kd {ps:List Piece} {nums:List Int} {n:Nat} {S:RS} (h:eN ps nums (du ps nums n S)=true):∀ k,du ps nums (n+k) S=du ps nums n S/\iy ps nums (n+k) S=iy ps nums n S
 | 0=>⟨rfl,rfl⟩
 | k+1=>by
  have ih:=kd h k
  have h':eN ps nums (du ps nums (n+k) S)=true:=by rw [ih.1];exact h
  exact⟨(if_pos h').trans ih.1,(if_pos h').trans ih.2⟩
theorem wa {ps:List Piece} {nums:List Int} {S:RS} (hp:dm ps) (h:S.aY < ps.length) (ht:S.taken<=nums.length):∀ n,(du ps nums n S).aY < ps.length/\(du ps nums n S).taken<=nums.length
 | 0=>⟨h,ht⟩
 | n+1=>by
  have ih:=wa hp h ht n
  unfold du
  split
  ·exact ih
  ·exact sZ hp ih.1 ih.2
theorem qc {ps:List Piece} {nums:List Int} {S:RS} (hin:dm ps) (hpc:S.aY < ps.length) (ht:S.taken<=nums.length) (hw:S.word = "on"):∀ n,
  ((bD ps nums n S).word = "on" /\ du ps nums n S=bD ps nums n S/\iy ps nums n S=n)\/((bD ps nums n S).word = "stop" /\ du ps nums n S=bD ps nums n S) \/
  (bD ps nums n S = { du ps nums n S with word := "dry" }/\(du ps nums n S).word = "on" /\ gf ps nums (du ps nums n S)=true/\iy ps nums n S < n)
 | 0=>.inl ⟨hw,rfl,rfl⟩
 | n+1=>by
  have gi:=wa (ps:=ps) (nums:=nums) (S:=S) hin hpc ht n
  rcases qc hin hpc ht hw n with ⟨h1,h2,h3⟩ | ⟨h1,h2⟩ | ⟨h1,h2,h3,h4⟩
  ·have e1:=p9 h1
   have ns:decide ((du ps nums n S).word = "stop")=false:=by rw [h2,h1];decide +kernel
   cases hl:gf ps nums (du ps nums n S) with
   | true =>
    have hh:eN ps nums (du ps nums n S)=true:=by unfold eN;rw [ns,hl];rfl
    have e2:=kd hh 1
    refine .inr (.inr ⟨?_,?_,?_,?_⟩)
    ·rw [e1,e2.1,<-h2]
     exact zg hl
    ·rw [e2.1,h2];exact h1
    ·rw [e2.1];exact hl
    ·rw [e2.2,h3];omega
   | false =>
    have hh:eN ps nums (du ps nums n S)=false:=by unfold eN;rw [ns,hl];rfl
    have e2:=xP hh
    have w2:=zh hl (by rw [h2];exact h1) gi.2
    have e3:du ps nums (n+1) S=bD ps nums (n+1) S:=by rw [e2.1,e1,h2]
    rcases w2 with w2 | w2
    ·exact .inl ⟨by rw [<-e3,e2.1];exact w2,e3,by rw [e2.2,h3]⟩
    ·exact .inr (.inl ⟨by rw [<-e3,e2.1];exact w2,e3⟩)
  ·have hh:eN ps nums (du ps nums n S)=true:=by unfold eN;rw [h2,h1];rfl
   have e2:=kd hh 1
   have e1:=jy (n:=n) (ps:=ps) (nums:=nums) (S:=S) (by rw [h1];decide +kernel) 1
   exact .inr (.inl ⟨by rw [e1];exact h1,by rw [e2.1,e1];exact h2⟩)
  ·have hh:eN ps nums (du ps nums n S)=true:=by unfold eN;rw [h3];simp
   have e2:=kd hh 1
   have e1:=jy (n:=n) (ps:=ps) (nums:=nums) (S:=S) (by rw [h1];show ¬ (("dry" : Str) = "on");decide +kernel) 1
   refine .inr (.inr ⟨?_,?_,?_,?_⟩)
   ·rw [e1,e2.1];exact h1
   ·rw [e2.1];exact h2
   ·rw [e2.1];exact h3
   ·rw [e2.2];omega
def tq (C:Addr):Sp:=fun vs H Q _=>∃ (p pl d nl sl:Addr) (plv:V) (nums:List Int) (S:RS) (m:Nat) (ps:List Piece),vs = [.ref p]/\bo C H p pl d nl sl plv nums S m/\aS H plv (df ps)/\S.aY < ps.length/\Q (.bl (eN ps nums S)) H
def oQ (C:Addr):Sp:=fun vs H Q _=>∃ (p pl d nl sl:Addr) (plv:V) (nums:List Int) (S:RS) (m n:Nat) (ps:List Piece),vs = [.ref p,.int n]/\bo C H p pl d nl sl plv nums S m/\aS H plv (df ps)/\dm ps/\S.aY < ps.length/\S.taken<=nums.length/\m+n<=10000 /\
 ∀ H',bo C H' p pl d nl sl plv nums (du ps nums n S) (m+iy ps nums n S)->bV p pl d sl H H'->Q (.int (iy ps nums n S:Nat)) H'
def mG (C:Addr):Sp:=fun vs H Q _=>∃ (p dx d0 np:Addr) (plv:V) (pc:Nat) (kvs:List (Key × V)) (w:Str->Int) (nums:List Int),vs = [.ref p,plv,.int pc,.ref d0,.ref np]/\H p=some (.ins C dx [])/\H d0=some (.dK kvs)/\DW kvs w/\H np=some (.tup (nums.map V.int)) /\
 ∀ (pl d nl sl:Addr) (H':Hp),bo C H' p pl d nl sl plv nums (bF pc w) kvs.length->(∀ c o,H c=some o->c ≠ p->H' c=some o)->H pl=none->H d=none->H nl=none->H sl=none->Q .bI H'
def fV (S:RS):PyData:=.tuple [.str S.word,.tuple (S.told.map PyData.int)]
def qd:Sp:=fun vs H Q _=>∃ (d0 np:Addr) (plv:V) (pc n:Nat) (kvs:List (Key × V)) (w:Str->Int) (nums:List Int) (ps:List Piece),vs = [plv,.int pc,.ref d0,.ref np,.int n]/\aS H plv (df ps)/\dm ps/\pc < ps.length/\H d0=some (.dK kvs)/\DW kvs w/\H np=some (.tup (nums.map V.int))/\kvs.length<=1000/\n<=2000 /\
 ∀ v H',aS H' v (fV (bD ps nums n (bF pc w)))->au H H'->Q v H'
def wb:Sp:=fun vs H Q _=>∃ (np:Addr) (plv:V) (n:Nat) (nums:List Int) (ps:List Piece),vs = [plv,.ref np,.int n]/\aS H plv (df ps)/\dm ps/\0 < ps.length/\H np=some (.tup (nums.map V.int))/\n<=2000 /\
 ∀ v H',aS H' v (fV (bD ps nums n (bF 0 fun _=>0)))->au H H'->Q v H'
def mH (S:RS):PyData:=.tuple (S.aZ.map fun k=>PyData.int (k:Nat))
def tu:Sp:=fun vs H Q _=>∃ (np:Addr) (plv:V) (n:Nat) (nums:List Int) (ps:List Piece),vs = [plv,.ref np,.int n]/\aS H plv (df ps)/\dm ps/\0 < ps.length/\H np=some (.tup (nums.map V.int))/\n<=2000 /\
 ∀ v H',aS H' v (mH (bD ps nums n (bF 0 fun _=>0)))->au H H'->Q v H'
theorem xQ {b:Bool} {u n:Int}:Cr (cR (wT b) (some u) (some u) n true) (cR (wT b) (some u) (some u) n false)=(if dD b u n=true then ("yes" : Str) else ("no" : Str)):=by
 cases b with
 | true =>
  have e1:∀ s,cR (wT true) (some u) (some u) n s=ic (some u) (some u) n s:=fun s=>by
   unfold cR
   rw [if_pos (show wT true=("less" : Str) from rfl)]
  have e2:ic (some u) (some u) n true=ff (some u) (some u) n:=by
   unfold ic
   rw [if_pos rfl]
  have e3:ic (some u) (some u) n false=fP (some u) (some u) n:=by
   unfold ic
   rw [if_neg (by decide)]
  rw [e1,e1,e2,e3]
  by_cases h:u < n
  ·have hb:gH (some u) n=n:=by
    show (if n > u then n else u)=n
    exact if_pos h
   have f1:fP (some u) (some u) n=none:=by
    show (if u < gH (some u) n then (none:Rs) else some (some (gH (some u) n),some u))=none
    rw [hb,if_pos h]
   have f2:dD true u n=true:=by
    unfold dD
    rw [if_pos rfl]
    exact decide_eq_true h
   rw [f1,if_pos f2]
   rfl
  ·have hb:gH (some u) n=u:=by
    show (if n > u then n else u)=u
    exact if_neg h
   have ht:iw (some u) n=n - 1:=by
    show (if n - 1 < u then n - 1 else u)=n - 1
    exact if_pos (by omega)
   have f1:fP (some u) (some u) n=some (some u,some u):=by
    show (if u < gH (some u) n then (none:Rs) else some (some (gH (some u) n),some u))=_
    rw [hb,if_neg (Int.lt_irrefl u)]
   have f3:ff (some u) (some u) n=none:=by
    show (if iw (some u) n < u then (none:Rs) else some (some u,some (iw (some u) n)))=none
    rw [ht,if_pos (by omega)]
   have f2:dD true u n=false:=by
    unfold dD
    rw [if_pos rfl]
    exact decide_eq_false h
   rw [f1,f3,f2]
   rfl
 | false =>
  have e1:∀ s,cR (wT false) (some u) (some u) n s=lQ (some u) (some u) n s:=fun s=>by
   unfold cR
   rw [if_neg (show ¬ wT false=("less" : Str) from v3)]
  have e2:lQ (some u) (some u) n true=kW (some u) (some u) n:=by
   unfold lQ
   rw [if_pos rfl]
  have e3:lQ (some u) (some u) n false=gI (some u) (some u) n:=by
   unfold lQ
   rw [if_neg (by decide)]
  rw [e1,e1,e2,e3]
  by_cases h:u=n
  ·subst h
   have f1:gI (some u) (some u) u=none:=by
    unfold gI
    rw [if_pos rfl,if_pos rfl]
   have f2:dD false u u=true:=by
    unfold dD
    rw [if_neg (by decide)]
    exact decide_eq_true rfl
   rw [f1,if_pos f2]
   rfl
  ·have h1:¬ ((some u:Option Int)=some n):=fun z=>h (Option.some.inj z)
   have f1:gI (some u) (some u) n=some (some u,some u):=by
    unfold gI
    rw [if_neg h1,if_neg h1]
   have f3:kW (some u) (some u) n=none:=by
    have hl:cH n (some u) (some u)=false:=by
     show (decide (u<=n) && decide (n<=u))=false
     by_cases g:u<=n
     ·rw [decide_eq_false (show ¬ n<=u by omega),Bool.and_false]
     ·rw [decide_eq_false g,Bool.false_and]
    unfold kW
    rw [hl,if_neg (by decide)]
   have f2:dD false u n=false:=by
    unfold dD
    rw [if_neg (by decide)]
    exact decide_eq_false h
   rw [f1,f3,f2]
   rfl
theorem ke {H:Hp}:∀ ns:List Int,bh H (ns.map V.int) (ns.map PyData.int)
 | []=>.nil
 | n :: ns=>.cons (.int n) (ke ns)
theorem vd {H:Hp}:∀ ns:List Nat,bh H (ns.map fun k=>V.int (k:Nat)) (ns.map fun k=>PyData.int (k:Nat))
 | []=>.nil
 | n :: ns=>.cons (.int n) (vd ns)
theorem eY {H1:Hp} {p q c:Addr} {o o1 o2:HO} (h:H1 c=some o) (n:c ≠ p) (hq:H1 q=none):(upd (upd H1 q o1) p o2) c=some o:=by
 rw [ai n,ai (aw h hq)];exact h
theorem d5 {H H1:Hp} {p q:Addr} {u:HO} (k:∀ c o,H c=some o->c ≠ p->H1 c=some o) (h1:H1 p=some u) (hn:H1 q=none):H q=none/\q ≠ p:=by
 have n:q ≠ p:=fun z=>by rw [z,h1] at hn;cases hn
 refine⟨?_,n⟩
 cases e:H q with
 | none=>rfl
 | some o=>rw [k q o e n] at hn;cases hn
end L2
namespace HT
open PySem PyProof.Rows PySem.Spec
section
variable {prog:Program} {w:World} {A:Around} {E:Value->Shared->Prop} {s:Shared}
theorem mR {t sl:Addr} {items:Array Value} {vl vu:Value} {lo hi:Option Int} {Q:Value->Shared->Prop} (ht:IsTup s.heap t items) (hs:s.heap.IsSliceOf sl vl vu .none) (pl:IsPart vl lo) (pu:IsPart vu hi)
  (hw:bT items.size 0 lo=0/\bT items.size items.size hi=items.size) (h:Q (.ref t) s):wpAny (model prog w) A (getItem (.ref t) (.ref sl)) Q E s:=by
 obtain⟨os,hos,hcs,hds⟩:=id hs
 have hTs:s.TypeIs (.ref sl) "slice" := ⟨os,hos,hcs⟩
 unfold getItem
 try with_reducible refine wpAny_holding ?_
 first | refine wpAny_bind (wpAny_pure ?_) | skip
 refine wpAny_bind (wpAny_sequenceKey ht.typeIs (by decide) ?_)
 refine wpAny_bind (wpAny_callSpecial?_slot (name:=Str.ofString "__getitem__") ht.typeIs PyProof.Rows.slot_tuple_getitem
  (wpAny_call_entry PyProof.Rows.slot_tuple_getitem ht.typeIs entry_tuple_getitem ?_ (args_tuple_getitem _ _)))
 show wpAny _ _ (Builtin.Tuple.tupleItemsOf (.ref t) >>= _) _ _ s
 refine wpAny_bind (tupleItemsOf_ ht ?_)
 refine wpAny_bind (wpAny_typeOf hTs ?_)
 rw [if_pos (by decide)]
 refine wpAny_bind (jn hs pl pu ?_)
 have hno:((((bT items.size 0 lo:Nat):Int) == 0 && (1:Int) == 1 && (bT items.size items.size hi - bT items.size 0 lo) == items.size)=true):=by
  rw [hw.1,hw.2]
  simp
 show wpAny _ _ (if (((bT items.size 0 lo:Nat):Int) == 0 && (1:Int) == 1 && (bT items.size items.size hi - bT items.size 0 lo) == items.size)=true then _ else _) _ _ s
 rw [if_pos hno]
 refine wpAny_bind ?_
 unfold Builtin.Tuple.tupleIsExact
 refine wpAny_bind (wpAny_typeOf ht.typeIs (wpAny_pure ?_))
 rw [if_pos (by decide)]
 refine wpAny_bind (wpAny_rule ?_)
 first
  | exact wpAny_pure ⟨_,rfl,wpAny_pure h⟩
  | exact wpAny_bind (wpAny_pure (wpAny_pure ⟨_,rfl,wpAny_pure h⟩))
  | exact wpAny_pure (wpAny_pure ⟨_,rfl,wpAny_pure h⟩)
end
end HT
namespace L2
open PySem PySem.Spec PyProof.Rows
section
variable {X:Cx}
def Dd (K:PySem.W.Frag):V->Option Int->Option Int->Hp->VK->Prop:=fun x lo hi H Q=>∃ a xs,x=.ref a/\ay K H a xs /\
 ((HT.bT xs.length 0 lo=0/\HT.bT xs.length xs.length hi=xs.length)->Q (.ref a) H)/\(¬ (HT.bT xs.length 0 lo=0/\HT.bT xs.length xs.length hi=xs.length)->∀ p,H p=none->Q (.ref p) (upd H p (.tup (jU xs lo hi))))
theorem ve:B0 X (Dd X.K):=by
 intro pins s σ H x v vl vu lo hi sl Q I rx hs pl pu h
 obtain⟨a,xs,rfl,hx,q1,q2⟩:=h
 by_cases hw:HT.bT xs.length 0 lo=0/\HT.bT xs.length xs.length hi=xs.length
 ·cases rx
  obtain⟨its,r,ht,hz⟩:=I.tuple hx
  have hlen:its.toArray.size=xs.length:=by rw [List.size_toArray];exact r.length.symm
  refine⟨"tuple",_,PyProof.Rows.slot_tuple_getitem.lookup,ht.typeIs,?_⟩
  exact HT.mR ht hs pl pu (by rw [hlen];exact hw) ⟨.ref a,H,I,rfl,q1 hw⟩
 ·exact B9 pins s σ H (.ref a) v vl vu lo hi sl Q I rx hs pl pu ⟨a,xs,rfl,hx,hw,q2 hw⟩
end
theorem Ec {α : Type} {x y z u v w:α} {xs:List α}:fD (x :: y :: z :: u :: v :: w :: xs) 5=some w:=bw (j:=5) rfl
theorem xR {x y z r:Int} (h0:0<=r) (h1:r < 3):∃ g:Int,fD [V.int x,V.int y,V.int z] r=some (V.int g)/\(g=x\/g=y\/g=z):=by
 obtain rfl | rfl | rfl:r=0\/r=1\/r=2:=by omega
 ·exact⟨x,bH,.inl rfl⟩
 ·exact⟨y,dB,.inr (.inl rfl)⟩
 ·exact⟨z,at2,.inr (.inr rfl)⟩
theorem fe.mono {H:Hp} {st d tl bl:Addr} {S:RS} {m m':Nat} (h:fe H st d tl bl S m) (le:m<=m'):fe H st d tl bl S m':=by
 obtain⟨h1,⟨kvs,h2,h3,h4⟩,h5,h6,h7,h8⟩:=h
 exact⟨h1,⟨kvs,h2,h3,Nat.le_trans h4 le⟩,h5,h6,h7,Nat.le_trans h8.1 le,Nat.le_trans h8.2 (Nat.succ_le_succ le)⟩
theorem lay_ints:∀ ns:List Int,(PyData.tuple (ns.map PyData.int)).canLay0=true
 | []=>rfl
 | n :: ns=>by
  show (true && (PyData.tuple (ns.map PyData.int)).canLay0)=true
  rw [lay_ints ns];rfl
theorem tw:∀ ns:List Nat,(PyData.tuple (ns.map fun k=>PyData.int (k:Nat))).canLay0=true
 | []=>rfl
 | n :: ns=>by
  show (true && (PyData.tuple (ns.map fun k=>PyData.int (k:Nat))).canLay0)=true
  rw [tw ns];rfl
theorem qT:∀ ns:List Int,PyData.depthAll (ns.map PyData.int)=0
 | []=>rfl
 | n :: ns=>by
  show max 0 (PyData.depthAll (ns.map PyData.int))=0
  rw [qT ns];rfl
theorem qU:∀ ns:List Nat,PyData.depthAll (ns.map fun k=>PyData.int (k:Nat))=0
 | []=>rfl
 | n :: ns=>by
  show max 0 (PyData.depthAll (ns.map fun k=>PyData.int (k:Nat)))=0
  rw [qU ns];rfl
theorem AW (S:RS):(fV S).depth<=60:=by
 show max 0 (max (PyData.depthAll (S.told.map PyData.int)+1) 0)+1<=60
 rw [qT];decide
theorem AX (S:RS) (h:PySem.PyData.canLay0 (.str S.word)=true):(fV S).canLay0=true:=by
 show (PySem.PyData.canLay0 (.str S.word) && ((PyData.tuple (S.told.map PyData.int)).canLay0 && true))=true
 rw [lay_ints,h];rfl
theorem wc (ps:List Piece) (nums:List Int) (S:RS):(cF ps nums S).word=S.word\/(cF ps nums S).word = "stop" \/ (cF ps nums S).word = "dry" := by
 unfold cF
 cases hx:ps[S.aY]? with
 | none=>exact .inl rfl
 | some pc =>
  obtain⟨ds,e⟩:=pc
  dsimp only
  cases hd:ds[S.place]? with
  | none =>
   dsimp only
   cases e with
   | stop=>exact .inr (.inl rfl)
   | go q=>exact .inl rfl
   | cC b x n q r=>exact .inl rfl
  | some dd =>
   dsimp only
   cases dd with
   | read x =>
    unfold gc
    cases hn:nums[S.taken]? with
    | none=>exact .inr (.inr rfl)
    | some n=>exact .inl rfl
   | put x n=>exact .inl rfl
   | copy x y=>exact .inl rfl
   | add x n=>exact .inl rfl
   | tell x=>exact .inl rfl
theorem qV {ps:List Piece} {nums:List Int} {S:RS} (h:S.word = "on"):∀ n,(bD ps nums n S).word = "on" \/ (bD ps nums n S).word = "stop" \/ (bD ps nums n S).word = "dry"
 | 0=>.inl h
 | n+1=>by
  by_cases hw:(bD ps nums n S).word = "on"
  ·rw [p9 hw]
   rcases wc ps nums (bD ps nums n S) with z | z
   ·exact .inl (z.trans hw)
   ·exact .inr z
  ·rw [jy hw 1]
   exact qV h n
theorem zi {ps:List Piece} {nums:List Int} {S:RS} (h:S.word = "on") (n:Nat):PySem.PyData.canLay0 (.str (bD ps nums n S).word)=true:=by
 rcases qV (ps:=ps) (nums:=nums) h n with z | z | z <;> (rw [z];decide +kernel)
theorem zj (S:RS):(mH S).depth<=60:=by
 show PyData.depthAll (S.aZ.map fun k=>PyData.int (k:Nat))+1<=60
 rw [qU];decide
theorem zk (S:RS):(mH S).canLay0=true:=tw _
def qe:Sp:=fun vs H Q _=>∃ (np:Addr) (plv:V) (n:Nat) (nums:List Int) (ps:List Piece),vs = [plv,.ref np,.int n]/\aS H plv (df ps)/\dm ps/\0 < ps.length/\H np=some (.tup (nums.map V.int))/\n<=2000 /\
 ∀ st d tl bl H',fe H' st d tl bl (bD ps nums n (bF 0 fun _=>0)) n->au H H'->Q (.ref st) H'
def nL:Sp:=fun vs H Q _=>∃ (b:Addr),vs = [.ref b]/\di H b/\∀ (t:Addr) (nums:List Int) (H':Hp),H' t=some (.tup (nums.map V.int))->di H' b->Fix b H H'->Q (.ref t) H'
theorem m7 {P:Program} {w:World} {x:Str} {v:Value} (h:(aP P w).is (Sum.inr x) v=true):∃ t,v=.str x t:=by
 cases v with
 | str y t =>
  have:y=x:=by simpa [aP,iF,Value.isStrOf] using h
  exact⟨t,by rw [this]⟩
 | _=>simp [aP,iF,Value.isStrOf] at h
theorem oR:∀ {vs:List Value} {ks:List Str},vs.length=ks.length->(∀ (j:Nat) (v:Value) (x:Str),vs[j]? = some v->ks[j]? = some x->∃ t,v=.str x t)->StrsAre vs ks
 | [],[],_,_=>.nil
 | v :: vs,x :: ks,hl,h=>by
  obtain⟨t,rfl⟩:=h 0 v x rfl rfl
  exact .cons x t (oR (by simpa using hl) fun j v' x' h1 h2=>h (j+1) v' x' (by simpa using h1) (by simpa using h2))
 | [],_ :: _,hl,_=>by simp at hl
 | _ :: _,[],hl,_=>by simp at hl
section
variable {prog:Program} {w:World} {A:Around} {E:Value->Shared->Prop} {s:Shared}
open PySem.Calls PySem.W in
theorem gather {T:String} {r d:Addr} {n:Nat} {P:Nat->Value->Prop} {OK:Heap->Prop} {G:List Value->Shared->Prop} (src:KdlSrc prog w T r d n P OK) (calm:A.handled=none) (ok:OK s.heap) (bG:n<=sizeLine)
  (fin:∀ (g:Heap) (tk:Nat) (got:Array Value),(∀ b o,s.heap.get? b=some o->g.get? b=some o)->ItemsOf P got n->s.heap.objs.size<=g.objs.size->G got.toList { s with heap:=g,toks:=tk }) :
  wpAny (model prog w) A (collect (.ref r)) G E s:=by
 obtain⟨lt1,lt2⟩:=src.there _ ok
 unfold collect
 refine wpAny_bind (wpAny_runValue (codeAny_builtin entry_proto_collect' ?_))
 rw [Around.under_plainId PySem.F.plain_proto_collect _]
 show wpAny _ A.in1 (newList [] >>= fun z=>again (.builtin "list.__iadd__" ⟨[z,.ref r],[]⟩)) _ _ s
 refine wpAny_bind (wpAny_newObj_type (wpAny_pure ⟨plainId_quiet PySem.F.plain_list_iadd _,codeAny_builtin entry_list_iadd' ?_⟩))
 rw [Around.under_plainId PySem.F.plain_list_iadd _]
 show wpAny _ A.in1 (Builtin.List.listExtendWith (.ref s.heap.objs.size) (.ref r) (.ref s.heap.objs.size)) _ _ _
 have made:(s.heap.push { cls:=.type "list",data:=.seq ([]:List Value).toArray }).get? s.heap.objs.size=some { cls:=.type "list",data:=.seq #[] }:=Heap.get?_push_size _ rfl
 have run:=kdl_extend (A:=A) (s:={ s with heap:=s.heap.push { cls:=.type "list",data:=.seq ([]:List Value).toArray } })
  (R:=fun (z:Result) (t:Shared)=>∃ (g:Heap) (tk:Nat) (got:Array Value) (c:Nat),z=.ok (.ret (.ref s.heap.objs.size))/\t = { s with heap:=g,toks:=tk } /\
   (∀ b o,s.heap.get? b=some o->g.get? b=some o)/\g.get? s.heap.objs.size=some { cls:=.type "list",dict:=none,data:=.seq got c,slots:=#[] }/\ItemsOf P got n)
  src calm (src.keep _ _ ok fun b _ o e=>Heap.get?_push_of_some _ e) s.heap.objs.size (Nat.ne_of_gt lt1) (Nat.ne_of_gt lt2) (.ref s.heap.objs.size) 0 made
  (fun g tk got c kept at_ its=>⟨g,tk,got,c,rfl,rfl,fun b o e=>kept b o (Nat.ne_of_lt (Heap.lt_size e)) (Heap.get?_push_of_some _ e),at_,its⟩) bG
 refine wpAny_mono run (fun z t x=>?_) fun z t ⟨_,_,_,_,bad,_⟩=>by cases bad
 cases z with
 | done f =>
  obtain⟨g,tk,got,c,e,rfl,kept,at_,its⟩:=x
  cases e
  show wpAny _ A (load s.heap.objs.size >>= _) _ _ _
  exact wpAny_bind (wpAny_load at_ (wpAny_pure (fin g tk got kept its (Nat.le_of_lt (Heap.lt_size at_)))))
 | again more =>
  refine⟨x.1,codeAny_mono x.2 fun z' t' ⟨g,tk,got,c,e1,e2,kept,at_,its⟩=>?_⟩
  subst e1 e2
  show wpAny _ A (load s.heap.objs.size >>= _) _ _ _
  exact wpAny_bind (wpAny_load at_ (wpAny_pure (fin g tk got kept its (Nat.le_of_lt (Heap.lt_size at_)))))
theorem tD {a:Addr} {kvs:List (Key × Value)} {ks:List Str} {Q:Value->Shared->Prop} (hh:A.handled=none) (lo:(a == sysModules)=false) (dd:s.heap.DictOf (aP prog w) a kvs)
  (hk:kvs.map (·.1)=ks.map Sum.inr) (h64:ks.length < 64)
  (h:∀ (h':Heap) (tk:Nat) (D:Addr) (out:Array Value) (ss':List Str) (e:Nat),(∀ b o,s.heap.get? b=some o->h'.get? b=some o)->s.heap.objs.size<=D->h'.get? D=some { cls:=.type "list",data:=.seq out e } ->
   StrsAre out.toList ss'->ss'.Perm ks->sortedS ss' = true->Q (.ref D) { s with heap:=h',toks:=tk }) :
  wpAny (model prog w) A (call (.builtin "sorted") [.ref a]) Q E s:=by
 refine Calls.call_function_entry kind_sorted plain_sorted entry_sorted (args_sorted1 _) ?_
 unfold Builtin.«sorted»
 refine wpAny_bind (m:=checkCount "sorted" 1 1 _) (wpAny_pure ?_)
 obtain⟨ep,hat⟩:=dd.dictAt
 have hlk:kvs.length=ks.length:=by have:=congrArg List.length hk;simpa using this
 have hs:sizeLine=16777216\/64<=sizeLine:=.inr (by decide)
 have hz:kvs.length<=sizeLine:=by rw [hlk];exact Nat.le_trans (Nat.le_of_lt h64) (by decide)
 refine wpAny_bind (gather (A:=A.in1) (PySem.W.kdl_dict (knd:=aP prog w) (kvs:=kvs) (ep:=ep) lo) hh hat hz fun h' tk acc hkeep hacc hsz=>?_)
 have hl:acc.toList.length=ks.length:=by rw [Array.length_toList,hacc.1,hlk]
 have hS:StrsAre acc.toList ks:=oR hl fun j v x h1 h2=>by
  obtain⟨k,y,e1,e2⟩:=hacc.2 j v (by rw [<-Array.getElem?_toList];exact h1)
  have e3:(kvs.map (·.1))[j]? = some k:=by rw [List.getElem?_map,e1];rfl
  rw [hk,List.getElem?_map,h2] at e3
  cases (Option.some.inj e3)
  exact m7 e2
 refine wpAny_bind (wpAny_newList ?_ (by rw [hl];exact Nat.le_trans (Nat.le_of_lt h64) (by decide)))
 have hoL:(h'.push (seqObj "list" acc.toList.toArray 0)).get? h'.objs.size=some (seqObj "list" acc.toList.toArray 0):=Heap.get?_push_size _ rfl
 refine wpAny_bind (wpAny_holding (wpAny_call_entry slot_list_sort ⟨_,hoL,rfl⟩ entry_list_sort (list_sort_treeK strKind_oneLt hoL hS.keysOf (fun v₁ v₂ rest e=>keyKind_strs (by rw [<-e];exact hS)) (by rw [hl];exact h64) fun st' a1 a2=>⟨_,rfl,?_⟩) (args_list_sort _)))
 obtain⟨ss',b1,b2,b3⟩:=sorted_out_str hS a1 a2
 obtain⟨e,he⟩:=sortedHeap_at (out:=(arrOf st').map (·.2)) hoL
 refine wpAny_pure ⟨_,rfl,h _ tk _ _ ss' e (fun b o ho=>?_) hsz he b1 b2 b3⟩
 have h1:=hkeep b o ho
 have hlt:=Heap.lt_size h1
 rw [sortedHeap_old (Nat.ne_of_lt hlt) (by rw [size_push'];exact Nat.lt_succ_of_lt hlt)]
 exact Heap.get?_push_of_some _ h1
end
theorem qf:∀ {us:List Value} {ys:List Str},StrsAre us ys->Vals (ys.map V.str) us
 | _,_,.nil=>.nil
 | _,_,.cons x t r=>.cons ⟨t,rfl⟩ (qf r)
section
variable {X:Cx}
theorem tE (hc:X.calm=true):eU X (.builtin "sorted") (fun vs H Q=>∃ (a:Addr) (kvs:List (Key × V)) (ks:List Str),vs = [.ref a]/\H a=some (.dK kvs)/\kvs.map (·.1)=ks.map Sum.inr/\ks.length < 64 /\
  ∀ (l:Addr) (ss:List Str),ss.Perm ks->sortedS ss=true->H l=none->Q (.ref l) (upd H l (.lst (ss.map V.str)))):=by
 intro pins s σ H xs us Q I r h
 obtain⟨a,kvs,ks,rfl,ha,hk,h64,q⟩:=h
 obtain⟨u,rfl,ru⟩:=vals1 r
 cases (show u=Value.ref a from ru)
 obtain⟨z,hd,vs,rel,dd⟩:=Ak I.aT ha
 refine tD (I.ok.hd hc) hd dd (by rw [<-rel.keys];exact hk) h64 fun h' tk D out ss' e hkeep hD he hS hp hs=>?_
 have hv:Vals (ss'.map V.str) out.toList:=qf hS
 refine⟨.ref D,_,I.laid (t':=tk) (o:=.lst (ss'.map V.str)) hkeep hD (show cf X.prog X.w _ h' _ (.lst (ss'.map V.str)) from ⟨?_,out.toList,e,hv,by simpa using he⟩),rfl,q D ss' hp hs (I.aT.fresh hD)⟩
 rw [List.length_map,hp.length_eq]
 exact Nat.le_trans (Nat.le_of_lt h64) (by decide)
end
section
variable {X:Cx}
end
theorem sub_len {α : Type} [DecidableEq α]:∀ {l m:List α},l.Nodup->(∀ x ∈ l,x ∈ m)->l.length<=m.length
 | [],_,_,_=>Nat.zero_le _
 | x :: l,m,nd,h=>by
  rw [List.nodup_cons] at nd
  have hx:=h x (List.mem_cons_self ..)
  have h1:=sub_len (l:=l) (m:=m.erase x) nd.2 fun y hy=>(List.mem_erase_of_ne (fun z=>nd.1 (by rw [<-z];exact hy))).mpr (h y (List.mem_cons_of_mem _ hy))
  rw [List.length_erase_of_mem hx] at h1
  have h2:0 < m.length:=List.length_pos_of_mem hx
  show l.length+1<=m.length
  omega
theorem jN:bootBuiltins "sorted" = some (.builtin "sorted"):=PyProof.Rows.boot_sorted
theorem xS {kvs:List (Key × V)} {k:Key} {v:V}:(putK kvs k v).map (·.1)=kvs.map (·.1)/\k ∈ kvs.map (·.1)\/(putK kvs k v).map (·.1)=kvs.map (·.1) ++ [k]/\¬ k ∈ kvs.map (·.1):=by
 unfold putK
 by_cases h:(kvs.any fun kv=>decide (kv.1=k))=true
 ·rw [if_pos h]
  refine .inl ⟨?_,?_⟩
  ·rw [List.map_map]
   refine List.map_congr_left fun p _=>?_
   show (if p.1=k then (p.1,v) else p).1=p.1
   split <;> rfl
  ·obtain⟨p,hp,he⟩:=List.any_eq_true.mp h
   exact List.mem_map.mpr ⟨p,hp,of_decide_eq_true he⟩
 ·rw [if_neg h]
  refine .inr ⟨by rw [List.map_append];rfl,fun hm=>h ?_⟩
  obtain⟨p,hp,he⟩:=List.mem_map.mp hm
  exact List.any_eq_true.mpr ⟨p,hp,decide_eq_true he⟩
def oS:cg->Str
 | .put x _=>x
 | .copy x _=>x
 | .add x _=>x
 | .read x=>x
 | .tell x=>x
theorem zl (dd:cg):fD (iH dd) 1=some (.str (oS dd)):=by cases dd <;> exact dB
theorem fS.name {xs:List Str} {dd:cg} (h:fS xs dd):oS dd ∈ xs:=by
 cases dd with
 | put x n=>exact h.1
 | copy x y=>exact h.1
 | add x n=>exact h.1
 | read x=>exact h
 | tell x=>exact h
section
variable {X:Cx}
end
section
variable {a0 a1 z:V}
end
section
variable {C D:Addr} {H H':Hp} {wp p pl d nl sl:Addr} {plv:V} {nums:List Int} {S:RS} {m:Nat}
theorem bo.keep (A:bo C H p pl d nl sl plv nums S m) (k:∀ c o,H c=some o->(c=p\/c=pl\/c=d\/c=nl\/c=sl)->H' c=some o):bo C H' p pl d nl sl plv nums S m:=by
 obtain⟨⟨dx,h1⟩,h2,h3,⟨kvs,h4,h5⟩,h6,h7,h8,h9⟩:=A
 exact⟨⟨dx,k _ _ h1 (.inl rfl)⟩,k _ _ h2 (.inr (.inl rfl)),h3,⟨kvs,k _ _ h4 (.inr (.inr (.inl rfl))),h5⟩,k _ _ h6 (.inr (.inr (.inr (.inl rfl)))),k _ _ h7 (.inr (.inr (.inr (.inr rfl)))),h8,h9⟩
end
section
variable (C D:Addr)
end
section
variable {C D:Addr} {H H':Hp} {wp p pl d nl sl st d2 tl bl np:Addr} {plv:V} {nums nums':List Int} {S S':RS} {m m':Nat}
end
section
variable (C D:Addr)
end
section
variable {C D:Addr} {H0 H H1 H2:Hp} {wp p pl d nl sl st st' d2 tl bl np b:Addr} {plv:V} {nums more:List Int} {S S':RS} {m m':Nat}
end
section
variable {X:Cx}
def De:R2:=fun x y H Q=>∃ a b xs ys,x=.ref a/\y=.ref b/\H a=some (.tup xs)/\H b=some (.tup ys)/\xs.length+ys.length<=sizeLine/\∀ t H',H' t=some (.tup (xs++ys))->au H H'->Q (.ref t) H'
theorem AY:fm X (binaryOp .Add) De:=by
 intro pins s σ H x y v u Q I rx ry h
 obtain⟨a,b,xs,ys,rfl,rfl,ha,hb,hz,q⟩:=h
 cases rx
 cases ry
 obtain⟨its,r1,p1,_⟩:=I.tuple (ay.of ha)
 obtain⟨its2,r2,p2,_⟩:=I.tuple (ay.of hb)
 by_cases hx:xs = []
 ·subst hx
  have hi:its = []:=r1.pQ.mpr rfl
  subst hi
  obtain⟨⟨cls,dd,data,sl⟩,ho,hc,n,hd⟩:=id p1
  obtain⟨⟨cls2,dd2,data2,sl2⟩,ho2,hc2,n2,hd2⟩:=id p2
  simp only at hc hd hc2 hd2
  subst hc hd hc2 hd2
  exact concat_meets ⟨_,ho,rfl⟩ ⟨_,ho2,rfl⟩ noFill_tuple_add seq_tuple_add PySem.F.slot_tuple_add PySem.F.entry_tuple_add (PySem.F.args_tuple_add_2 _ _)
   (tuple_addW0 a b [].toArray its2.toArray n n2 dd dd2 sl sl2 (by simp)) ⟨ho,ho2,⟨.ref b,H,I,rfl,q b H hb (au.refl H)⟩⟩
 ·refine HT.AI p1 p2 (fun z=>hx (r1.pQ.mp z)) (fun z=>⟨.ref a,H,I,rfl,q a H (by rw [r2.pQ.mp z,List.append_nil];exact ha) (au.refl H)⟩) (fun z=>?_) (by rw [<-r1.length,<-r2.length];exact hz)
  have fr:=I.aT.fresh (a:=s.heap.objs.size) (Nat.le_refl _)
  refine⟨.ref s.heap.objs.size,_,I.laid (t':=s.toks) (o:=.tup (xs++ys)) (fun b ob q=>Heap.get?_push_of_some _ q) (Nat.le_refl _) ?_,rfl,q _ _ ae (au.new fr)⟩
  exact⟨by rw [List.length_append];exact hz,_,r1.append r2,⟨_,Heap.get?_push_size _ rfl,rfl,_,rfl,rfl⟩⟩
end
section
variable {ps:List Piece} {nums more:List Int} {S S0:RS} {m n:Nat}
end
section
variable {ps:List Piece} {nums more:List Int} {S:RS} {m n:Nat}
end
inductive Call where
 | hand (ns:List Int)
 | go (n:Nat)
structure Cv where
 S:RS
 nums:List Int
 m:Nat
structure WA where
 wp:Addr
 p:Addr
 pl:Addr
 d:Addr
 nl:Addr
 sl:Addr
section
variable {C D:Addr} {H H' H0:Hp} {x y:WA} {pv pv':V} {s s':Cv} {c:Addr} {o:HO}
end
section
variable (C D:Addr)
end
section
variable {C D:Addr} {H0 H H1:Hp} {w0 w1 w2:WA} {wl cl nb:Addr} {plv ov:V} {x0 x1 x2 x':Cv} {n0 n1 n':List Int} {vs:List V} {cs:List Call}
end
section
variable {prog:Program} {w:World} {A:Around} {E:Value->Shared->Prop} {s:Shared}
theorem tF {j t:Addr} {n:Nat} {its:Array Value} {x:Value} {Q:Value->Shared->Prop} (hj:s.heap.IsTupleIter j t n) (ht:s.heap.IsTuple t its) (hx:its[n]? = some x)
  (hQ:∀ g,g.IsTupleIter j t (n+1)->Heap.SameBut j s.heap g->Q x { s with heap:=g }):wpAny (model prog w) A (Builtin.SmallTypes.nextOf (.ref j)) Q E s:=by
 obtain⟨ob,eo,ec,ed⟩:=id hj
 obtain⟨ot,et,_,k,ek⟩:=ht
 unfold Builtin.SmallTypes.nextOf
 refine wpAny_bind (wpAny_callSpecial?_slot (name:=Str.ofString "__next__") hj.typeIs F.slot_tuple_iterator_next (wpAny_call_entry F.slot_tuple_iterator_next hj.typeIs F.entry_tuple_iterator_next ?_ (F.args_tuple_iterator_next_1 _)))
 show wpAny _ _ (field (.ref j) 0 >>= _) _ _ s
 refine wpAny_bind (wpAny_field eo ed (x:=.ref t) rfl ?_)
 show wpAny _ _ (if (Value.ref t == Value.none)=true then _ else _) _ _ s
 refine (if_neg (c:=(Value.ref t == Value.none)=true) Bool.false_ne_true) ▸ ?_
 show wpAny _ _ (field (.ref j) 1 >>= _) _ _ s
 refine wpAny_bind (wpAny_field eo ed (x:=.int n 0) rfl (wpAny_bind (wpAny_seqItems et ek ?_)))
 simp only [hx,Int.toNat_natCast]
 refine wpAny_bind (wpAny_setField eo ed (by simp) (wpAny_pure ⟨x,rfl,wpAny_pure (hQ _ ⟨_,Heap.get?_update_self _ eo (Obj.isFreed_of_fields (Obj.data_mapFields ed _)),(Obj.cls_mapFields ..).trans ec,?_⟩ (Heap.SameBut.update ..))⟩))
 rw [Obj.data_mapFields ed];simp [rawInt]
theorem vf {j t:Addr} {n:Nat} {its:Array Value} {Q:Value->Shared->Prop} (ha:A.handled=none) (hj:s.heap.IsTupleIter j t n) (ht:s.heap.IsTuple t its) (hx:its[n]? = none)
    (hE:∀ g e,Heap.ExtBut j s.heap g->(∃ o,g.get? e=some o/\o.cls=.type "StopIteration")->E (.ref e) { s with heap:=g }):wpAny (model prog w) A (Builtin.SmallTypes.nextOf (.ref j)) Q E s:=by
  obtain⟨ob,eo,ec,ed⟩:=id hj
  obtain⟨ot,et,_,k,ek⟩:=ht
  unfold Builtin.SmallTypes.nextOf
  refine wpAny_bind (wpAny_callSpecial?_slot (name:=Str.ofString "__next__") hj.typeIs F.slot_tuple_iterator_next (wpAny_call_entry F.slot_tuple_iterator_next hj.typeIs F.entry_tuple_iterator_next ?_ (F.args_tuple_iterator_next_1 _)))
  show wpAny _ _ (field (.ref j) 0 >>= _) _ _ s
  refine wpAny_bind (wpAny_field eo ed (x:=.ref t) rfl ?_)
  show wpAny _ _ (if (Value.ref t == Value.none)=true then _ else _) _ _ s
  refine (if_neg (c:=(Value.ref t == Value.none)=true) Bool.false_ne_true) ▸ ?_
  show wpAny _ _ (field (.ref j) 1 >>= _) _ _ s
  refine wpAny_bind (wpAny_field eo ed (x:=.int n 0) rfl (wpAny_bind (wpAny_seqItems et ek ?_)))
  simp only [hx,Int.toNat_natCast]
  refine wpAny_bind (wpAny_rule (wpAny_bind (wpAny_setField eo ed (by simp) ?_)))
  show wpAny _ _ (newExc (.type "StopIteration") [] >>= fun _=>_) _ _ _
  refine wpAny_bind ?_
  simp only [newTuple,newExc]
  refine wpAny_bind (wpAny_newObj_type (wpAny_bind (m:=firstArgMember _ _) (wpAny_of_eq (a:=Value.none) (by first | rfl | (simp only [firstArgMember];rfl)) (wpAny_newObj_type ?_ (by size_fits)))) (by size_fits))
  simp only [raiseNew]
  refine wpAny_bind (wpAny_handled (by
    first | rw [show A.in1.handled=none from ha] | rw [ha]
    exact wpAny_bind (wpAny_pure (wpAny_throw (hE _ _ (((Heap.SameBut.update ..).extBut.push _).push _) ⟨_,Heap.get?_push_size _ rfl,rfl⟩)))))
structure vg (z p q j k a b:Addr):Prop where
 pz:p ≠ z
 qz:q ≠ z
 jz:j ≠ z
 kz:k ≠ z
 pq:p ≠ q
 pj:p ≠ j
 pk:p ≠ k
 qj:q ≠ j
 qk:q ≠ k
 jk:j ≠ k
 az:a ≠ z
 aq:a ≠ q
 aj:a ≠ j
 ak:a ≠ k
 bz:b ≠ z
 bq:b ≠ q
 bj:b ≠ j
 bk:b ≠ k
theorem i8 {h g:Heap} {a:Addr} {xs:Array Value} (x:h.IsTuple a xs) (k:∀ o,h.get? a=some o->g.get? a=some o):g.IsTuple a xs:=by
 obtain⟨o,e,r⟩:=x
 exact⟨o,k o e,r⟩
theorem AZ {z p q j k a b:Addr} {m n:Nat} {xs ys:Array Value} {x y u v:Value} {Q:Value->Shared->Prop} (D:vg z p q j k a b)
  (gz:IsZip s.heap z p q .none) (gp:IsPair s.heap p (.ref j) (.ref k)) (gq:IsPair s.heap q u v)
  (gj:s.heap.IsTupleIter j a m) (gk:s.heap.IsTupleIter k b n) (ga:s.heap.IsTuple a xs) (gb:s.heap.IsTuple b ys) (hx:xs[m]? = some x) (hy:ys[n]? = some y)
  (hQ:∀ g,IsZip g z p q (rawInt s.heap.objs.size)->IsPair g q x y->g.IsTupleIter j a (m+1)->g.IsTupleIter k b (n+1)->IsPair g s.heap.objs.size x y->g.objs.size=s.heap.objs.size+1 ->
   (∀ c o,c ≠ z->c ≠ q->c ≠ j->c ≠ k->s.heap.get? c=some o->g.get? c=some o)->Q (.ref s.heap.objs.size) { s with heap:=g }) :
  wpAny (model prog w) A (Builtin.«zip.__next__» ⟨[.ref z],[]⟩) (fun fin s'=>∃ v,fin=.done (.ret v)/\Q v s') E s:=by
 show wpAny _ _ (field (.ref z) 2 >>= fun _=>_) _ _ _
 refine wpAny_bind (wpAny_field gz rfl (x:=.bool false) rfl ?_)
 show wpAny _ _ (field (.ref z) 3 >>= fun _=>_) _ _ _
 refine wpAny_bind (wpAny_field gz rfl (x:=.ref p) rfl (wpAny_bind (wpAny_seqItems gp rfl ?_)))
 show wpAny _ _ (Builtin.SmallTypes.ownedTupleIsFree (.ref z) >>= fun _=>_) _ _ _
 refine wpAny_bind ?_
 unfold Builtin.SmallTypes.ownedTupleIsFree
 refine wpAny_bind (wpAny_field gz rfl (x:=.none) rfl (wpAny_pure ?_))
 simp only [if_true]
 refine wpAny_bind (wpAny_rule (wpAny_bind (wpAny_field gz rfl (x:=.ref q) rfl (wpAny_bind (wpAny_setField_rec gz (by simp) fun g1 gz1 t1=>?_)))))
 replace gz1:IsZip g1 z p q .ellipsis:=gz1
 refine wpAny_bind ?_
 simp only [List.forIn_cons,List.forIn_nil,List.zipIdx_cons,List.zipIdx_nil]
 refine wpAny_bind (wpAny_bind (wpAny_onRaise ?_))
 show wpAny _ _ (Builtin.SmallTypes.nextOf (.ref j) >>= fun _=>_) _ _ _
 refine wpAny_bind (tF (gj.extBut t1.extBut D.jz) (i8 ga fun o e=>t1.extBut _ _ D.az e) hx fun g2 gj2 t2=>wpAny_pure ?_)
 have gq2:IsPair g2 q u v:=t2.extBut _ _ D.qj (t1.extBut _ _ D.qz gq)
 refine wpAny_bind (wpAny_seqItems gq2 rfl (wpAny_bind (wpAny_updateSeq_pair gq2 fun g3 gq3 t3=>?_)))
 replace gq3:IsPair g3 q x v:=gq3
 refine wpAny_bind (wpAny_letGo (wpAny_pure (wpAny_bind (wpAny_bind (wpAny_onRaise ?_)))))
 show wpAny _ _ (Builtin.SmallTypes.nextOf (.ref k) >>= fun _=>_) _ _ _
 refine wpAny_bind (tF (((gk.extBut t1.extBut D.kz).extBut t2.extBut D.jk.symm).extBut t3.extBut D.qk.symm) (i8 gb fun o e=>t3.extBut _ _ D.bq (t2.extBut _ _ D.bj (t1.extBut _ _ D.bz e))) hy fun g4 gk4 t4=>wpAny_pure ?_)
 have gq4:IsPair g4 q x v:=t4.extBut _ _ D.qk gq3
 refine wpAny_bind (wpAny_seqItems gq4 rfl (wpAny_bind (wpAny_updateSeq_pair gq4 fun g5 gq5 t5=>?_)))
 replace gq5:IsPair g5 q x y:=gq5
 refine wpAny_bind (wpAny_letGo (wpAny_pure (wpAny_pure (wpAny_bind (wpAny_seqItems gq5 rfl (wpAny_bind (wpAny_newTuple ?_)))))))
 have ez:g5.objs.size=s.heap.objs.size:=by rw [t5.1,t4.1,t3.1,t2.1,t1.1]
 have gz5:IsZip g5 z p q .ellipsis:=t5.extBut _ _ D.qz.symm (t4.extBut _ _ D.kz.symm (t3.extBut _ _ D.qz.symm (t2.extBut _ _ D.jz.symm gz1)))
 have k5:∀ c o,c ≠ z->c ≠ q->c ≠ j->c ≠ k->s.heap.get? c=some o->g5.get? c=some o:=fun c o c1 c2 c3 c4 e=>t5.extBut _ _ c2 (t4.extBut _ _ c4 (t3.extBut _ _ c2 (t2.extBut _ _ c3 (t1.extBut _ _ c1 e))))
 have gj5:g5.IsTupleIter j a (m+1):=((gj2.extBut t3.extBut D.qj.symm).extBut t4.extBut D.jk).extBut t5.extBut D.qj.symm
 have gk5:g5.IsTupleIter k b (n+1):=gk4.extBut t5.extBut D.qk.symm
 have lz:z < g5.objs.size:=Heap.lt_size gz5
 show wpAny _ _ (Builtin.SmallTypes.ownedTupleHandOut (.ref z) (.ref g5.objs.size) >>= fun _=>_) _ _ _
 refine wpAny_bind ?_
 unfold Builtin.SmallTypes.ownedTupleHandOut
 have gz6:IsZip (g5.push { cls:=.type "tuple",data:=.seq #[x,y] }) z p q .ellipsis:=Heap.get?_push_of_some _ gz5
 refine wpAny_bind (wpAny_setField_rec gz6 (by simp) fun g7 gz7 t7=>?_)
 replace gz7:IsZip g7 z p q (rawInt g5.objs.size):=gz7
 refine wpAny_setField_rec gz7 (by simp) fun g8 gz8 t8=>?_
 replace gz8:IsZip g8 z p q (rawInt g5.objs.size):=gz8
 have up:∀ c o,c ≠ z->g5.get? c=some o->g8.get? c=some o:=fun c o c1 e=>t8.extBut _ _ c1 (t7.extBut _ _ c1 (Heap.get?_push_of_some _ e))
 have gT:IsPair g8 g5.objs.size x y:=t8.extBut _ _ (Nat.ne_of_gt lz) (t7.extBut _ _ (Nat.ne_of_gt lz) (Heap.get?_push_size _ rfl))
 have e8:g8.objs.size=g5.objs.size+1:=by rw [t8.1,t7.1,Heap.size_push]
 rw [ez] at gz8 gT e8
 refine wpAny_pure ⟨_,rfl,?_⟩
 show Q (.ref g5.objs.size) _
 rw [ez]
 refine hQ g8 gz8 (up _ _ D.qz gq5) ?_ ?_ gT e8 fun c o c1 c2 c3 c4 e=>up c o c1 (k5 c o c1 c2 c3 c4 e)
 ·obtain⟨o,e,r⟩:=gj5
  exact⟨o,up _ _ D.jz e,r⟩
 ·obtain⟨o,e,r⟩:=gk5
  exact⟨o,up _ _ D.kz e,r⟩
theorem Cw {z p q j k a b:Addr} {m n:Nat} {xs ys:Array Value} {u v:Value} {Q:Fin->Shared->Prop} (ha:A.handled=none) (D:vg z p q j k a b)
  (gz:IsZip s.heap z p q .none) (gp:IsPair s.heap p (.ref j) (.ref k)) (gq:IsPair s.heap q u v)
  (gj:s.heap.IsTupleIter j a m) (gk:s.heap.IsTupleIter k b n) (ga:s.heap.IsTuple a xs) (gb:s.heap.IsTuple b ys) (hend:xs[m]? = none\/ys[n]? = none)
  (hE:∀ g e,(∀ c o,c ≠ z->c ≠ q->c ≠ j->c ≠ k->s.heap.get? c=some o->g.get? c=some o)->(∃ o,g.get? e=some o/\o.cls=.type "StopIteration")->E (.ref e) { s with heap:=g }) :
  wpAny (model prog w) A (Builtin.«zip.__next__» ⟨[.ref z],[]⟩) Q E s:=by
 show wpAny _ _ (field (.ref z) 2 >>= fun _=>_) _ _ _
 refine wpAny_bind (wpAny_field gz rfl (x:=.bool false) rfl ?_)
 show wpAny _ _ (field (.ref z) 3 >>= fun _=>_) _ _ _
 refine wpAny_bind (wpAny_field gz rfl (x:=.ref p) rfl (wpAny_bind (wpAny_seqItems gp rfl ?_)))
 show wpAny _ _ (Builtin.SmallTypes.ownedTupleIsFree (.ref z) >>= fun _=>_) _ _ _
 refine wpAny_bind ?_
 unfold Builtin.SmallTypes.ownedTupleIsFree
 refine wpAny_bind (wpAny_field gz rfl (x:=.none) rfl (wpAny_pure ?_))
 simp only [if_true]
 refine wpAny_bind (wpAny_rule (wpAny_bind (wpAny_field gz rfl (x:=.ref q) rfl (wpAny_bind (wpAny_setField_rec gz (by simp) fun g1 gz1 t1=>?_)))))
 replace gz1:IsZip g1 z p q .ellipsis:=gz1
 refine wpAny_bind ?_
 simp only [List.forIn_cons,List.forIn_nil,List.zipIdx_cons,List.zipIdx_nil]
 refine wpAny_bind (wpAny_bind (wpAny_onRaise ?_))
 show wpAny _ _ (Builtin.SmallTypes.nextOf (.ref j) >>= fun _=>_) _ _ _
 cases hx:xs[m]? with
 | none =>
  refine wpAny_bind (vf ha (gj.extBut t1.extBut D.jz) (i8 ga fun o e=>t1.extBut _ _ D.az e) hx fun g2 e t2 he=>?_)
  obtain⟨oe,eoe,ce⟩:=he
  have gz2:IsZip g2 z p q .ellipsis:=t2 _ _ D.jz.symm gz1
  have ne:e ≠ z:=fun x=>by subst x;rw [gz2] at eoe;cases eoe;simp at ce
  exact wpAny_setField_rec gz2 (by simp) fun g3 _ t3=>hE g3 e (fun c o c1 _ c3 _ x=>t3.extBut _ _ c1 (t2 _ _ c3 (t1.extBut _ _ c1 x))) ⟨oe,t3.extBut _ _ ne eoe,ce⟩
 | some x =>
  have hy:ys[n]? = none:=hend.elim (fun h=>by rw [hx] at h;cases h) id
  refine wpAny_bind (tF (gj.extBut t1.extBut D.jz) (i8 ga fun o e=>t1.extBut _ _ D.az e) hx fun g2 gj2 t2=>wpAny_pure ?_)
  have gq2:IsPair g2 q u v:=t2.extBut _ _ D.qj (t1.extBut _ _ D.qz gq)
  refine wpAny_bind (wpAny_seqItems gq2 rfl (wpAny_bind (wpAny_updateSeq_pair gq2 fun g3 gq3 t3=>?_)))
  refine wpAny_bind (wpAny_letGo (wpAny_pure (wpAny_bind (wpAny_bind (wpAny_onRaise ?_)))))
  show wpAny _ _ (Builtin.SmallTypes.nextOf (.ref k) >>= fun _=>_) _ _ _
  refine wpAny_bind (vf ha (((gk.extBut t1.extBut D.kz).extBut t2.extBut D.jk.symm).extBut t3.extBut D.qk.symm) (i8 gb fun o e=>t3.extBut _ _ D.bq (t2.extBut _ _ D.bj (t1.extBut _ _ D.bz e))) hy fun g4 e t4 he=>?_)
  obtain⟨oe,eoe,ce⟩:=he
  have gz4:IsZip g4 z p q .ellipsis:=t4 _ _ D.kz.symm (t3.extBut _ _ D.qz.symm (t2.extBut _ _ D.jz.symm gz1))
  have ne:e ≠ z:=fun x=>by subst x;rw [gz4] at eoe;cases eoe;simp at ce
  exact wpAny_setField_rec gz4 (by simp) fun g5 _ t5=>hE g5 e (fun c o c1 c2 c3 c4 x=>t5.extBut _ _ c1 (t4 _ _ c4 (t3.extBut _ _ c2 (t2.extBut _ _ c3 (t1.extBut _ _ c1 x))))) ⟨oe,t5.extBut _ _ ne eoe,ce⟩
theorem A5 {z p q j k a b:Addr} {m n:Nat} {xs ys:Array Value} {x y u v:Value} {Q:Option Value->Shared->Prop} (D:vg z p q j k a b)
  (gz:IsZip s.heap z p q .none) (gp:IsPair s.heap p (.ref j) (.ref k)) (gq:IsPair s.heap q u v)
  (gj:s.heap.IsTupleIter j a m) (gk:s.heap.IsTupleIter k b n) (ga:s.heap.IsTuple a xs) (gb:s.heap.IsTuple b ys) (hx:xs[m]? = some x) (hy:ys[n]? = some y)
  (hQ:∀ g,IsZip g z p q (rawInt s.heap.objs.size)->IsPair g q x y->g.IsTupleIter j a (m+1)->g.IsTupleIter k b (n+1)->IsPair g s.heap.objs.size x y->g.objs.size=s.heap.objs.size+1 ->
   (∀ c o,c ≠ z->c ≠ q->c ≠ j->c ≠ k->s.heap.get? c=some o->g.get? c=some o)->Q (some (.ref s.heap.objs.size)) { s with heap:=g }) :
  wpAny (model prog w) A (pyNext (.ref z)) Q E s:=by
 have ty:s.TypeIs (.ref z) "zip" := ⟨_,gz,rfl⟩
 unfold pyNext
 exact wpAny_bind (wpAny_attempt (wpAny_callSpecial?_slot (name:=Str.ofString "__next__") ty F.slot_zip_next (wpAny_call_entry F.slot_zip_next ty F.entry_zip_next
   (AZ D gz gp gq gj gk ga gb hx hy fun g a1 a2 a3 a4 a5 a6 a7=>wpAny_pure (hQ g a1 a2 a3 a4 a5 a6 a7)) (F.args_zip_next_1 _))))
theorem Ba {z p q j k a b:Addr} {m n:Nat} {xs ys:Array Value} {u v:Value} {Q:Option Value->Shared->Prop} (ha:A.handled=none) (D:vg z p q j k a b)
  (gz:IsZip s.heap z p q .none) (gp:IsPair s.heap p (.ref j) (.ref k)) (gq:IsPair s.heap q u v)
  (gj:s.heap.IsTupleIter j a m) (gk:s.heap.IsTupleIter k b n) (ga:s.heap.IsTuple a xs) (gb:s.heap.IsTuple b ys) (hend:xs[m]? = none\/ys[n]? = none)
  (hQ:∀ g,(∀ c o,c ≠ z->c ≠ q->c ≠ j->c ≠ k->s.heap.get? c=some o->g.get? c=some o)->Q none { s with heap:=g }):wpAny (model prog w) A (pyNext (.ref z)) Q E s:=by
 have ty:s.TypeIs (.ref z) "zip" := ⟨_,gz,rfl⟩
 unfold pyNext
 refine wpAny_bind (wpAny_attempt (wpAny_callSpecial?_slot (name:=Str.ofString "__next__") ty F.slot_zip_next (wpAny_call_entry F.slot_zip_next ty F.entry_zip_next
   (Cw ha D gz gp gq gj gk ga gb hend fun g e hk he=>?_) (F.args_zip_next_1 _))))
 obtain⟨o,eo,ec⟩:=he
 exact wpAny_bind (wpAny_isInstance (T := "StopIteration") (b:=true) ⟨o,eo,ec⟩ isSubtype_stop (wpAny_pure (hQ _ hk)))
abbrev xT (h:Heap) (a:Addr):Heap:=h.push { cls:=.type "tuple_iterator",data:=.fields #[.ref a,.int 0 0] }
abbrev An (h:Heap) (a b:Addr):Heap:=(xT h a).push { cls:=.type "tuple_iterator",data:=.fields #[.ref b,.int 0 0] }
abbrev Ao (h:Heap) (a b:Addr):Heap:=(An h a b).push { cls:=.type "tuple",data:=.seq #[.ref h.objs.size,.ref (xT h a).objs.size] }
abbrev Ap (h:Heap) (a b:Addr):Heap:=(Ao h a b).push { cls:=.type "tuple",data:=.seq #[.none,.none] }
abbrev vh (h:Heap) (a b:Addr):Heap:=(Ap h a b).push { cls:=.type "zip",data:=.fields #[.none,.bool false,.bool false,.ref (An h a b).objs.size,.ref (Ao h a b).objs.size] }
theorem Cy (a b:Addr) (xs ys:Array Value):Meets (Builtin.«zip.__new__» ⟨[.type "zip",.ref a,.ref b],[]⟩) (fun _ R s=>s.heap.IsTuple a xs/\s.heap.IsTuple b ys /\
   R (.ok (.ret (.ref (Ap s.heap a b).objs.size))) { s with heap:=vh s.heap a b }) :=
 .of_wp fun P w' A' R' s' hh=>by
  obtain⟨hp,g,d,tk,os⟩:=s'
  obtain⟨ga,gb,hh⟩:=hh
  have hsub:=sub_zip
  have la:Heap.IsTuple (Shared.heap ⟨hp,g,d,tk,os⟩) a xs:=ga
  have lb:Heap.IsTuple (Shared.heap ⟨xT hp a,g,d,tk,os⟩) b ys:=i8 gb fun o e=>Heap.get?_push_of_some _ e
  wp_walk using wpAny_pyIter_tuple la,wpAny_pyIter_tuple lb
  exact⟨_,rfl,hh⟩
theorem Bb {a b:Addr} {xs ys:Array Value} {Q:Value->Shared->Prop} (ga:s.heap.IsTuple a xs) (gb:s.heap.IsTuple b ys)
  (h:∀ g,IsZip g (s.heap.objs.size+4) (s.heap.objs.size+2) (s.heap.objs.size+3) .none->IsPair g (s.heap.objs.size+2) (.ref s.heap.objs.size) (.ref (s.heap.objs.size+1)) ->
   IsPair g (s.heap.objs.size+3) .none .none->g.IsTupleIter s.heap.objs.size a 0->g.IsTupleIter (s.heap.objs.size+1) b 0 ->
   (∀ c o,s.heap.get? c=some o->g.get? c=some o)->Q (.ref (s.heap.objs.size+4)) { s with heap:=g }) :
  wpAny (model prog w) A (call (.type "zip") [.ref a,.ref b]) Q E s:=by
 refine callType_new F.called_zip (by decide) (F.typeCall_zip_2 _ _) (F.newCall_zip_2 _ _) (fun obj=>F.args_object_init_3 obj _ _) F.entry_zip_new (Cy a b xs ys) ⟨ga,gb,?_⟩
 have z1:(xT s.heap a).objs.size=s.heap.objs.size+1:=Heap.size_push ..
 have z2:(An s.heap a b).objs.size=s.heap.objs.size+2:=by rw [Heap.size_push,z1]
 have z3:(Ao s.heap a b).objs.size=s.heap.objs.size+3:=by rw [Heap.size_push,z2]
 have z4:(Ap s.heap a b).objs.size=s.heap.objs.size+4:=by rw [Heap.size_push,z3]
 have up:∀ {h:Heap} {c:Addr} {o o':Obj},h.get? c=some o->(h.push o').get? c=some o:=fun e=>Heap.get?_push_of_some _ e
 have q5:(vh s.heap a b).get? (Ap s.heap a b).objs.size=some _:=Heap.get?_push_size _ rfl
 have q4:(vh s.heap a b).get? (Ao s.heap a b).objs.size=some _:=up (Heap.get?_push_size _ rfl)
 have q3:(vh s.heap a b).get? (An s.heap a b).objs.size=some _:=up (up (Heap.get?_push_size _ rfl))
 have q2:(vh s.heap a b).get? (xT s.heap a).objs.size=some _:=up (up (up (Heap.get?_push_size _ rfl)))
 have q1:(vh s.heap a b).get? s.heap.objs.size=some _:=up (up (up (up (Heap.get?_push_size _ rfl))))
 show _/\_
 rw [z2,z3,z4] at q5
 rw [z1,z2] at q3
 rw [z3] at q4
 rw [z1] at q2
 rw [z4]
 exact⟨⟨_,q5,rfl⟩,h _ q5 q3 q4 ⟨_,q1,rfl,rfl⟩ ⟨_,q2,rfl,rfl⟩ fun c o x=>up (up (up (up (up x))))⟩
end
section
variable {X:Cx} {pins:List (Addr × Obj)} {σ : List (Option V)} {H H':Hp} {s:Shared} {h':Heap}
theorem Inv.vi {t':Nat} {fp:List Addr} (I:Inv X pins σ H s) (k:∀ b o,b ∉ fp->s.heap.get? b=some o->h'.get? b=some o) (f:∀ b ∈ fp,ji X pins H b):Inv X pins σ H { s with heap:=h',toks:=t' }:=by
 have nit:∀ b u,H b=some u->b ∉ fp:=fun b u e z=>by rw [(f b z).1] at e;cases e
 refine I.step (g':=s.gens) (d':=s.drawn) (ch:=fp) (fun b hb=>?_) (fun b o _ _ hc e _=>k b o hc e) (fun b o _ _ hc e _=>⟨o.slots,k b o hc e⟩) (fun _ _ _ _ n=>n)
  (fun b o hc e=>⟨o,k b o hc e⟩) (fun _ _ e=>e) (fun _ _ _ e=>e) (fun b ps e=>⟨#[],by rw [e];simp⟩) (fun m hm=>?_) (fun b u e=>?_) I.bare
 ·obtain⟨f0,f1,f2,f3,f4,f5⟩:=f b hb
  exact⟨f3,f1,f4,f5⟩
 ·obtain⟨o,es,ep,ho,r⟩:=hm
  exact⟨o,es,ep,k _ o (fun z=>(f _ z).2.1 rfl) ho,r⟩
 ·refine (I.aT b u e).pK (fun c v hc q=>k c v ?_ q) (fun _ q=>q) fun _ _ q=>q
  rcases hc with z | z
  ·rw [z];exact nit b u e
  ·exact nit c _ z
def Aq (K:PySem.W.Frag) (a b:Addr):It :=
 ⟨fun i H=>∃ xs ys x y,ay K H a xs/\ay K H b ys/\xs[i]? = some x/\ys[i]? = some y,
  fun i H v H'=>∃ t x y,v=.ref t/\H t=none/\H' = upd H t (.tup [x,y])/\∀ xs ys,ay K H a xs->ay K H b ys->xs[i]? = some x/\ys[i]? = some y,
  fun i H=>∃ xs ys,ay K H a xs/\ay K H b ys/\(xs.length<=i\/ys.length<=i)⟩
theorem zm {P:Program} {w:World} {K:PySem.W.Frag} {elts:List Expr} {kk:Nat} {pos:Pos} (a b z p q j k:Addr) (D:vg z p q j k a b) :
    Turn P w K (.Tuple elts kk pos) (Aq K a b) [z,p,q,j,k] z (fun i h=>IsZip h z p q .none/\IsPair h p (.ref j) (.ref k)/\(∃ u v,IsPair h q u v)/\h.IsTupleIter j a i/\h.IsTupleIter k b i) where
  mem:=by simp
  obj:=fun i h st c hc=>by
    obtain⟨gz,gp,⟨u,v,gq⟩,⟨oj,ej,cj,dj⟩,⟨ok,ek,ck,dk⟩⟩:=st
    simp only [List.mem_cons,List.not_mem_nil,or_false] at hc
    rcases hc with rfl | rfl | rfl | rfl | rfl
    · exact⟨_,gz,fun v e=>by cases e⟩
    · exact⟨_,gp,fun v e=>by cases e⟩
    · exact⟨_,gq,fun v e=>by cases e⟩
    · exact⟨oj,ej,fun v e=>by rw [dj] at e;cases e⟩
    · exact⟨ok,ek,fun v e=>by rw [dk] at e;cases e⟩
  keep:=fun i h g st kp=>by
    obtain⟨gz,gp,⟨u,v,gq⟩,⟨oj,ej,rj⟩,⟨ok,ek,rk⟩⟩:=st
    exact⟨kp z (by simp) _ gz,kp p (by simp) _ gp,⟨u,v,kp q (by simp) _ gq⟩,⟨oj,kp j (by simp) _ ej,rj⟩,⟨ok,kp k (by simp) _ ek,rk⟩⟩
  item:=by
    intro X hP hw hK hc i pins s σ H E I hf st hg
    subst hP hw hK
    obtain⟨gz,gp,⟨u,v,gq⟩,gj,gk⟩:=st
    obtain⟨xs,ys,x,y,ha,hb,hx,hy⟩:=hg
    obtain⟨is,ra,pa,_⟩:=I.tuple ha
    obtain⟨js,rb,pb,_⟩:=I.tuple hb
    obtain⟨xv,hxv,rx⟩:=ra.get hx
    obtain⟨yv,hyv,ry⟩:=rb.get hy
    have sz:∀ c ∈ [z,p,q,j,k],c ≠ s.heap.objs.size:=fun c hc e=>by
      subst e
      simp only [List.mem_cons,List.not_mem_nil,or_false] at hc
      rcases hc with e | e | e | e | e
      · exact absurd (Heap.lt_size gz) (by rw [<-e];exact Nat.lt_irrefl _)
      · exact absurd (Heap.lt_size gp) (by rw [<-e];exact Nat.lt_irrefl _)
      · exact absurd (Heap.lt_size gq) (by rw [<-e];exact Nat.lt_irrefl _)
      · obtain⟨oj,ej,_⟩:=gj
        exact absurd (Heap.lt_size ej) (by rw [<-e];exact Nat.lt_irrefl _)
      · obtain⟨ok,ek,_⟩:=gk
        exact absurd (Heap.lt_size ek) (by rw [<-e];exact Nat.lt_irrefl _)
    refine A5 D gz gp gq gj gk (show s.heap.IsTuple a is.toArray from pa) (show s.heap.IsTuple b js.toArray from pb) (x:=xv) (y:=yv) (by simpa using hxv) (by simpa using hyv) fun g a1 a2 a3 a4 a5 a6 hk=>?_
    refine⟨.ref s.heap.objs.size,rfl,wpAny_letOwnedTupleGo_zip a1 fun g' gz' sb=>?_⟩
    have fr:=I.aT.fresh (a:=s.heap.objs.size) (Nat.le_refl _)
    have I1:Inv X pins σ (upd H s.heap.objs.size (.tup [x,y])) { s with heap:=s.heap.push { cls:=.type "tuple",data:=.seq #[xv,yv] },toks:=s.toks } :=
      I.laid (fun _ _ e=>Heap.get?_push_of_some _ e) (Nat.le_refl _) ⟨by show 2<=sizeLine;decide,[xv,yv],.cons rx (.cons ry .nil),by first | exact IsTup.new _ _ | exact⟨_,Heap.get?_push_size _ rfl,rfl,_,rfl,rfl⟩⟩
    have f1:∀ c ∈ [z,p,q,j,k],ji X pins (upd H s.heap.objs.size (.tup [x,y])) c:=fun c hc=>by
      obtain⟨f0,fr'⟩:=hf c hc
      exact⟨by rw [ai (sz c hc)];exact f0,fr'⟩
    have I2:Inv X pins σ (upd H s.heap.objs.size (.tup [x,y])) { s with heap:=g',toks:=s.toks }:=Inv.vi (s:={ s with heap:=s.heap.push { cls:=.type "tuple",data:=.seq #[xv,yv] },toks:=s.toks }) (fp:=[z,p,q,j,k]) (h':=g') (t':=s.toks) I1 (fun c o hc e=>by
      simp only [List.mem_cons,List.not_mem_nil,or_false,not_or] at hc
      refine sb.extBut _ _ hc.1 ?_
      rcases Heap.get?_push_cases e with ⟨rfl,rfl⟩ | e
      · exact a5
      · exact hk c o hc.1 hc.2.2.1 hc.2.2.2.1 hc.2.2.2.2 e) f1
    refine⟨.ref s.heap.objs.size,_,I2,rfl,⟨_,x,y,rfl,fr,rfl,fun xs' ys' h1 h2=>?_⟩,⟨gz',sb.extBut _ _ D.pz (hk _ _ D.pz D.pq D.pj D.pk gp),⟨xv,yv,sb.extBut _ _ D.qz a2⟩,a3.extBut sb.extBut D.jz,a4.extBut sb.extBut D.kz⟩,fun c hc=>(f1 c hc).1⟩
    rw [I.lC h1 ha,I.lC h2 hb]
    exact⟨hx,hy⟩
  done:=by
    intro X hP hw hK hc i pins s σ H E I hf st hg
    subst hP hw hK
    obtain⟨gz,gp,⟨u,v,gq⟩,gj,gk⟩:=st
    obtain⟨xs,ys,ha,hb,hl⟩:=hg
    obtain⟨is,ra,pa,_⟩:=I.tuple ha
    obtain⟨js,rb,pb,_⟩:=I.tuple hb
    have la:=ra.length
    have lb:=rb.length
    have he:is.toArray[i]? = none\/js.toArray[i]? = none:=by
      rcases hl with h | h
      · exact .inl (by simp;omega)
      · exact .inr (by simp;omega)
    exact Ba (I.ok.hd hc) D gz gp gq gj gk (show s.heap.IsTuple a is.toArray from pa) (show s.heap.IsTuple b js.toArray from pb) he fun g hk=>⟨rfl,I.vi (fp:=[z,p,q,j,k]) (t':=s.toks) (fun c o hc e=>by
      simp only [List.mem_cons,List.not_mem_nil,or_false,not_or] at hc
      exact hk c o hc.1 hc.2.2.1 hc.2.2.2.1 hc.2.2.2.2 e) hf⟩
  self:=fun _ _ _ _ _ st h=>wpAny_pyIter_zip st.1 h
theorem Ed {N a b:Nat} (ha:a < N) (hb:b < N):vg (N+4:Nat) (N+2:Nat) (N+3:Nat) N (N+1:Nat) a b :=
 have ne:∀ {u v:Nat},u < v->¬ (u=v):=fun h e=>by omega
 have ne':∀ {u v:Nat},v < u->¬ (u=v):=fun h e=>by omega
 ⟨ne (by omega),ne (by omega),ne (by omega),ne (by omega),ne (by omega),ne' (by omega),ne' (by omega),ne' (by omega),ne' (by omega),ne (by omega),ne (by omega),ne (by omega),ne (by omega),ne (by omega),ne (by omega),ne (by omega),ne (by omega),ne (by omega)⟩
theorem Cz:bootBuiltins "zip" = some (.type "zip"):=by decide +kernel
def DY (K:PySem.W.Frag) (ta:TA):TI:=fun σ H R=>ta σ H fun vs H1=>∃ a b,vs = [.ref a,.ref b]/\(∃ xs,ay K H1 a xs)/\(∃ ys,ay K H1 b ys)/\R (Aq K a b) H1
theorem xU {a b:Expr} {ta:TA} {p pos tp:Pos} {elts:List Expr} {kk:Nat} (hg:Gl X "zip") (hm:X.mg "zip" = none) (ha:PA X [a,b] ta) (hs:starEach [a,b] X.env = [(false,eval a X.env),(false,eval b X.env)]:=by rfl) (hs2:starEach [b] X.env = [(false,eval b X.env)]:=by rfl) :
  PI X (.Tuple elts kk tp) (.Call (.Name "zip" p) [a,b] [] pos) (DY X.K ta):=by
 intro pins s σ H R I h
 refine Call_ (lr I hg hm Cz (PyProof.Rows.callWith_type1 (ba (ha pos pins s σ H _ I h) fun us s1 ⟨vs,H1,I1,r1,q1⟩=>?_) (by rw [hs,hs2]) (by rw [hs2];rfl)))
 obtain⟨x,y,e,⟨xs,hx⟩,⟨ys,hy⟩,q⟩:=q1
 subst e
 cases r1 with
 | cons r rr =>
  cases rr with
  | cons r' rr =>
   cases rr
   cases r
   cases r'
   obtain⟨is,rx,px,_⟩:=I1.tuple hx
   obtain⟨js,ry,py,_⟩:=I1.tuple hy
   have lx:x < s1.heap.objs.size:=px.lt
   have ly:y < s1.heap.objs.size:=py.lt
   refine Bb (show s1.heap.IsTuple x is.toArray from px) (show s1.heap.IsTuple y js.toArray from py) fun g gz gp gq gj gk up=>?_
   refine wpAny_pyIter_zip gz ?_
   have I2:Inv X pins σ H1 { s1 with heap:=g }:=I1.kept (t':=s1.toks) up
   refine⟨_,[s1.heap.objs.size+4,s1.heap.objs.size+2,s1.heap.objs.size+3,s1.heap.objs.size,s1.heap.objs.size+1],_,Aq X.K x y,H1,rfl,I2,zm x y _ _ _ _ _ ?_,⟨gz,gp,⟨_,_,gq⟩,gj,gk⟩,fun c hc=>?_,q⟩
   ·exact Ed lx ly
   ·have le:s1.heap.objs.size<=c:=by
     simp only [List.mem_cons,List.not_mem_nil,or_false] at hc
     rcases hc with rfl | rfl | rfl | rfl | rfl
     ·exact Nat.le_add_right _ _
     ·exact Nat.le_add_right _ _
     ·exact Nat.le_add_right _ _
     ·exact Nat.le_refl _
     ·exact Nat.le_add_right _ _
    exact I1.pN le (I1.aT.fresh le)
theorem xV {K:PySem.W.Frag} {a b acc:Addr} {xs ys:List V} {n:Nat} {js:List Nat} {g:TG} {ct:TT} {te:TE} {σ : St} {H1:Hp} {Q:VK} (Pv:Nat->List V->St->Hp->Prop) (h0:Pv 0 [] (m4 n js σ) (upd H1 acc (.lst [])))
  (hl:∀ i zs τ H,i<=min xs.length ys.length->Pv i zs τ H->ay K H a xs/\ay K H b ys/\H acc=some (.lst zs)/\zs.length < sizeLine)
  (hs:∀ i x y zs τ H t,xs[i]? = some x->ys[i]? = some y->H t=none->Pv i zs τ H->g (.ref t) τ (upd H t (.tup [x,y])) fun τ1 H4=>ct τ1 H4 fun b H5=>if b=true then te τ1 H5 fun v H6=>H6 acc=some (.lst zs)/\Pv (i+1) (zs ++ [v]) τ1 (upd H6 acc (.lst (zs ++ [v]))) else Pv (i+1) zs τ1 H5)
  (hd:∀ zs τ H,Pv (min xs.length ys.length) zs τ H->Q (.ref acc) H) :
  uW (Aq K a b) n js g ct te acc σ H1 Q:=by
 refine⟨fun i m zs τ H=>m=min xs.length ys.length - i/\i<=min xs.length ys.length/\Pv i zs τ H,⟨min xs.length ys.length,by simp,Nat.zero_le _,h0⟩,?_⟩
 rintro i m zs τ H ⟨rfl,hi,p⟩
 obtain⟨qa,qb,q2,q3⟩:=hl i zs τ H hi p
 refine⟨q2,q3,?_⟩
 by_cases hlt:i < min xs.length ys.length
 ·have l1:i < xs.length:=by omega
  have l2:i < ys.length:=by omega
  refine .inr ⟨⟨xs,ys,xs[i],ys[i],qa,qb,by simp [l1],by simp [l2]⟩,Pv (i+1),fun zs' τ' H' p'=>⟨min xs.length ys.length - (i+1),by omega,rfl,hlt,p'⟩,fun v H' y=>?_⟩
  obtain⟨t,x,y,rfl,ht,rfl,h⟩:=y
  obtain⟨h1,h2⟩:=h xs ys qa qb
  exact hs i x y zs τ H t h1 h2 ht p
 ·have e:i=min xs.length ys.length:=by omega
  subst e
  refine .inl ⟨⟨xs,ys,qa,qb,?_⟩,hd zs τ H p⟩
  rcases Nat.le_total xs.length ys.length with h | h
  ·exact .inl (by omega)
  ·exact .inr (by omega)
end
structure zo (K:PySem.W.Frag) (mg:Str->Option Value) (nm:Str) (a:Addr) (D:List (Str × Addr)):Prop where
 qW:mg nm=some (.ref a)
 lk:∃ es ep,K.lookup a=some ⟨.type "dict",none,.dict es ep,#[]⟩/\KTD.Rows (fun d v=>v=Value.ref d) es.toList D
section
variable {prog:Program} {w:World} {A:Around} {E:Value->Shared->Prop} {s:Shared}
theorem zp {a d:Addr} {o:Obj} {es:Array DictEntry} {ep:Nat} {k:Str} {t:Tok} {D:List (Str × Addr)} {Q:Option Value->Shared->Prop} (ho:s.heap.get? a=some o) (hd:o.data=.dict es ep)
  (hr:KTD.Rows (fun d v=>v=Value.ref d) es.toList D) (ha:KTD.datumAt k D=some d) (q:Q (some (.ref d)) { s with toks:=s.toks+1 }):wpAny (model prog w) A (dictGet a (.str k t)) Q E s:=by
 unfold dictGet
 try with_reducible refine wpAny_holding ?_
 refine wpAny_bind (wpAny_pyHash_str (wpAny_bind (KTD.kt_dictFind_strs (s:={ s with toks:=s.toks+1 }) ho hd (by have:=hr.exact;obtain⟨l⟩:=es;simpa using this) ?_)))
 have hq:Q (findBy (fun k v=>v.isStr k) es k) { s with toks:=s.toks+1 }:=by
  obtain⟨v,hv,rfl⟩:=hr.find_some ha
  have e:findBy (fun k v=>v.isStr k) es k=some (.ref d):=by
   rw [<-hv]
   obtain⟨l⟩:=es
   simp [findBy]
  rw [e]
  exact q
 rw [findBy_of_findIdx?] at hq
 cases hi:es.findIdx? fun e=>e.key.isStr k with
 | some i=>rw [hi] at hq;exact wpAny_bind (wpAny_dictEntries (s:={ s with toks:=s.toks+1 }) ho hd (wpAny_pure hq))
 | none=>rw [hi] at hq;exact wpAny_pure hq
theorem zq {a d:Addr} {o:Obj} {es:Array DictEntry} {ep:Nat} {k:Str} {t:Tok} {D:List (Str × Addr)} {Q:Value->Shared->Prop} (ty:s.TypeIs (.ref a) "dict") (ho:s.heap.get? a=some o) (hd:o.data=.dict es ep)
  (hr:KTD.Rows (fun d v=>v=Value.ref d) es.toList D) (ha:KTD.datumAt k D=some d) (q:Q (.ref d) { s with toks:=s.toks+1 }):wpAny (model prog w) A (getItem (.ref a) (.str k t)) Q E s:=by
 unfold getItem
 try with_reducible refine wpAny_holding ?_
 refine wpAny_bind (wpAny_sequenceKey ty (by decide) (wpAny_bind (wpAny_callSpecial?_slot (name:=Str.ofString "__getitem__") ty slot_dict_getitem (wpAny_call_entry slot_dict_getitem ty entry_dict_getitem ?_ (args_dict_getitem _ _)))))
 show wpAny _ _ (dictGet a (.str k t) >>= fun _=>_) _ _ s
 exact wpAny_bind (zp ho hd hr ha (wpAny_pure ⟨_,rfl,wpAny_pure q⟩))
end
section
variable {X:Cx}
theorem qg {nm:Str} {a:Addr} {D:List (Str × Addr)} {i:Expr} {p pos:Pos} {ty:TE} (G:zo X.K X.mg nm a D) (hg:Gl X nm) (hi:PE X i ty) (hs:vY i) (hdb:(nm == ("__debug__" : Str))=false:=by decide) :
  PE X (.Subscript (.Name nm p) i pos) (fun σ H Q=>ty σ H fun y H1=>∃ x d,y=.str x/\KTD.datumAt x D=some d/\Q (.ref d) H1):=by
 intro pins s σ H Q I h
 obtain⟨es,ep,hk,hr⟩:=G.lk
 refine pX PySem.F.slot_dict_getitem.lookup hs (ba (gU (v:=.ref a) hg G.qW rfl hdb pins s σ H (fun x H1=>x=.ref a/\ty σ H1 fun y H1=>∃ x d,y=.str x/\KTD.datumAt x D=some d/\Q (.ref d) H1) I ⟨rfl,h⟩) fun u s1 ⟨x,H1,I1,rx,ex,q1⟩=>?_)
 subst ex
 obtain rfl:u=Value.ref a:=rx
 refine ba (hi pins s1 σ H1 _ I1 q1) fun iv s2 ⟨y,H2,I2,ry,k,d,ey,hd,q2⟩=>?_
 subst ey
 obtain⟨t,rfl⟩:=(show ∃ t,iv=Value.str k t from ry)
 have ho:=I2.iJ a _ hk
 exact⟨⟨_,ho,rfl⟩,zq ⟨_,ho,rfl⟩ ho rfl hr hd ⟨.ref d,H2,I2.tok _,rfl,q2⟩⟩
end
def pick (w:Str) (xs:List V) (ks:List Str):List V:=((xs.zip ks).filter fun p=>decide (p.2=w)).map (·.1)
def jO (w:Str) (xs:List V) (ks:List Str) (i:Nat):List V:=(((xs.zip ks).take i).filter fun p=>decide (p.2=w)).map (·.1)
theorem we {w:Str} {xs:List V} {ks:List Str} {i:Nat} {x:V} {k:Str} (hx:xs[i]? = some x) (hk:ks[i]? = some k):jO w xs ks (i+1)=jO w xs ks i++(if k=w then [x] else []):=by
 have hz:(xs.zip ks)[i]? = some (x,k):=by rw [List.getElem?_zip_eq_some];exact⟨hx,hk⟩
 unfold jO
 rw [List.take_add_one,hz,List.filter_append,List.map_append]
 congr 1
 by_cases h:k=w
 ·rw [if_pos h];simp [h]
 ·rw [if_neg h];simp [h]
theorem xW {w:Str} {xs:List V} {ks:List Str}:jO w xs ks (min xs.length (ks.map V.str).length)=pick w xs ks:=by
 unfold jO pick
 rw [List.length_map,List.take_of_length_le (by rw [List.length_zip];exact Nat.le_refl _)]
theorem xX {w:Str} {xs:List V} {ks:List Str} {i:Nat}:(jO w xs ks i).length<=i:=by
 unfold jO
 rw [List.length_map]
 exact Nat.le_trans (List.length_filter_le ..) (by rw [List.length_take];exact Nat.min_le_left ..)
theorem ay.same {K:PySem.W.Frag} {H H':Hp} {a:Addr} {xs:List V} (h:ay K H a xs) (s:au H H'):ay K H' a xs:=by
 rcases h with h | h
 ·rcases h with h | h
  ·exact .inl (.inl (s _ _ h))
  ·obtain⟨b,hb⟩:=h
   exact .inl (.inr ⟨b,s _ _ hb⟩)
 ·exact .inr h
def mI (K:PySem.W.Frag):Sp:=fun vs H Q _=>∃ (t s:Addr) (v0:V) (xs:List V) (ks:List Str) (w:Str),vs = [.ref t,.ref s,.str w]/\H t=some (.tup (v0 :: xs))/\ay K H s (ks.map V.str)/\xs.length<=1000 /\
 ∀ l H',H' l=some (.lst (pick w xs ks))->au H H'->Q (.ref l) H'
def KTup (K:PySem.W.Frag) (a:Addr) (ks:List Str):Prop:=∃ (o:Obj) (its:Array Value) (n:Nat),K.lookup a=some o/\o.cls=.type "tuple" /\ o.data=.seq its n/\its.size<=sizeLine/\Vals (ks.map V.str) its.toList
structure tG (K:PySem.W.Frag) (mg:Str->Option Value) (aE s0 s1 s2 s3:Addr):Prop where
 tab:zo K mg "END_PARTS" aE [("stop",s0),("go",s1),("less",s2),("is",s3)]
 q0:KTup K s0 []
 q1:KTup K s1 ["piece"]
 q2:KTup K s2 ["name", "number", "piece", "piece"]
 q3:KTup K s3 ["name", "number", "piece", "piece"]
def bu:End->List Nat
 | .stop=>[]
 | .go p=>[p]
 | .cC _ _ _ p q=>[p,q]
def kE:End->List Str
 | .stop=>[]
 | .go _=>["piece"]
 | .cC ..=>["name", "number", "piece", "piece"]
def wE:End->Str
 | .stop => "stop"
 | .go _ => "go"
 | .cC b ..=>wT b
theorem xY (e:End):∃ xs,fN e=.str (wE e) :: xs/\xs.length<=1000/\pick "piece" xs (kE e)=(bu e).map fun k=>V.int (k:Nat):=by
 cases e with
 | stop=>exact⟨[],rfl,by decide,rfl⟩
 | go p=>exact⟨_,rfl,by show 1<=1000;decide,by simp [pick,kE,bu]⟩
 | cC b x n p q =>
  refine⟨_,rfl,by show 4<=1000;decide,?_⟩
  have h1:¬ ("name" : Str) = "piece" := by decide +kernel
  have h2:¬ ("number" : Str) = "piece" := by decide +kernel
  simp [pick,kE,bu,h1,h2]
theorem tG.at_ {K:PySem.W.Frag} {mg:Str->Option Value} {aE s0 s1 s2 s3:Addr} (G:tG K mg aE s0 s1 s2 s3) (e:End):∃ s,KTD.datumAt (wE e) [(("stop" : Str),s0),("go",s1),("less",s2),("is",s3)] = some s/\KTup K s (kE e):=by
 have hit:∀ {k:Str} {d:Addr} {D:List (Str × Addr)},KTD.datumAt k ((k,d) :: D)=some d:=fun {k d D}=>by
  show (if decide (k=k)=true then some d else KTD.datumAt k D)=some d
  rw [if_pos (decide_eq_true rfl)]
 have miss:∀ {k x:Str} {d:Addr} {D:List (Str × Addr)} {o:Option Addr},¬ k=x->KTD.datumAt k D=o->KTD.datumAt k ((x,d) :: D)=o:=fun {k x d D o} h e=>by
  show (if decide (k=x)=true then some d else KTD.datumAt k D)=o
  rw [if_neg (by rw [decide_eq_false h];decide)]
  exact e
 cases e with
 | stop=>exact⟨s0,hit,G.q0⟩
 | go p=>exact⟨s1,miss (show ¬ (("go" : Str) = "stop") by decide +kernel) hit,G.q1⟩
 | cC b x n p q =>
  cases b with
  | true=>exact⟨s2,miss (show ¬ (("less" : Str) = "stop") by decide +kernel) (miss (show ¬ (("less" : Str) = "go") by decide +kernel) hit),G.q2⟩
  | false=>exact⟨s3,miss (show ¬ (("is" : Str) = "stop") by decide +kernel) (miss (show ¬ (("is" : Str) = "go") by decide +kernel) (miss (show ¬ (("is" : Str) = "less") by decide +kernel) hit)),G.q3⟩
def jA:Sp:=fun vs H Q _=>∃ (ea:Addr) (e:End),vs = [.ref ea]/\H ea=some (.tup (fN e))/\∀ t H',H' t=some (.tup ((bu e).map fun k=>V.int (k:Nat)))->au H H'->Q (.ref t) H'
end L2
namespace LS
open PySem
def Up (xs:Array Nat):Prop:=∀ (i j:Nat) (a b:Nat),i < j->xs[i]? = some a->xs[j]? = some b->a < b
theorem zr {xs:Array Nat} {j:Nat} (up:Up xs):∀ (fuel lo hi:Nat),hi - lo<=fuel->lo<=hi->hi<=xs.size ->
  (∀ i a,i < lo->xs[i]? = some a->a < j)->(∀ i a,hi<=i->xs[i]? = some a->j<=a) ->
  (∀ i a,i < SetTable.below.go xs j fuel lo hi->xs[i]? = some a->a < j)/\(∀ i a,SetTable.below.go xs j fuel lo hi<=i->xs[i]? = some a->j<=a)/\SetTable.below.go xs j fuel lo hi<=xs.size:=by
 intro fuel
 induction fuel with
 | zero =>
  intro lo hi h1 h2 h3 h4 h5
  have e:lo=hi:=by omega
  subst e
  unfold SetTable.below.go
  exact⟨h4,h5,h3⟩
 | succ f ih =>
  intro lo hi h1 h2 h3 h4 h5
  unfold SetTable.below.go
  by_cases hl:lo < hi
  ·rw [if_pos hl]
   dsimp only
   have hm:(lo+hi) / 2 < hi:=by omega
   have hm2:lo<=(lo+hi) / 2:=by omega
   generalize (lo+hi) / 2=mid at hm hm2
   have hs:mid < xs.size:=by omega
   have hg:xs[mid]? = some xs[mid]:=by simp [hs]
   have hd:xs.getD mid j=xs[mid]:=by simp [Array.getD,hs]
   rw [hd]
   by_cases hc:xs[mid] < j
   ·rw [if_pos hc]
    refine ih (mid+1) hi (by omega) (by omega) h3 (fun i a hi' he=>?_) h5
    by_cases e:i=mid
    ·subst e;rw [hg] at he;cases he;exact hc
    ·have:=up i mid a _ (by omega) he hg;omega
   ·rw [if_neg hc]
    refine ih lo mid (by omega) hm2 (by omega) h4 (fun i a hi' he=>?_)
    by_cases e:i=mid
    ·subst e;rw [hg] at he;cases he;omega
    ·have:=up mid i _ a (by omega) hg he;omega
  ·rw [if_neg hl]
   have e:lo=hi:=by omega
   subst e
   exact⟨h4,h5,h3⟩
theorem nM {xs:Array Nat} {j:Nat} (up:Up xs) :
    (∀ i a,i < SetTable.below xs j->xs[i]? = some a->a < j)/\(∀ i a,SetTable.below xs j<=i->xs[i]? = some a->j<=a)/\SetTable.below xs j<=xs.size :=
  zr up xs.size 0 xs.size (by omega) (Nat.zero_le _) (Nat.le_refl _) (fun _ _ h=>absurd h (Nat.not_lt_zero _)) (fun i a h e=>by
    have:xs[i]? = none:=by simp;omega
    rw [this] at e;cases e)
theorem tH {α : Type} {xs:Array α} {p:Nat} {x:α} (hp:p<=xs.size) (i:Nat) :
  (SetTable.insertAt xs p x)[i]? = if i < p then xs[i]? else if i=p then some x else xs[i - 1]?:=by
 unfold SetTable.insertAt
 have h1:(xs.extract 0 p).size=p:=by simp;omega
 rw [Array.getElem?_append]
 have h2:((xs.extract 0 p).push x).size=p+1:=by simp;omega
 rw [h2]
 by_cases a:i < p
 ·rw [if_pos (by omega),if_pos a,Array.getElem?_push,h1,if_neg (by omega)]
  rw [Array.getElem?_extract]
  simp;omega
 ·rw [if_neg a]
  by_cases b:i=p
  ·subst b
   rw [if_pos (by omega),if_pos rfl,Array.getElem?_push,h1,if_pos rfl]
  ·rw [if_neg (by omega),if_neg b]
   rw [Array.getElem?_extract]
   have:p+(i - (p+1))=i - 1:=by omega
   rw [this]
   by_cases c:i - 1 < xs.size
   ·simp;omega
   ·have:xs[i - 1]? = none:=by simp;omega
    rw [this];simp
theorem Up.insert {xs:Array Nat} {j:Nat} (up:Up xs) (hn:xs[SetTable.below xs j]? ≠ some j):Up (SetTable.insertAt xs (SetTable.below xs j) j):=by
 obtain⟨h1,h2,h3⟩:=nM (j:=j) up
 generalize SetTable.below xs j=p at h1 h2 h3 hn
 have h2':∀ i a,p<=i->xs[i]? = some a->j < a:=fun i a hi e=>by
  have q:=h2 i a hi e
  by_cases z:i=p
  ·subst z
   rcases Nat.lt_or_ge j a with c | c
   ·exact c
   ·have:a=j:=by omega
    subst this;exact absurd e hn
  ·have hps:p < xs.size:=by
    have:i < xs.size:=by
     rcases Nat.lt_or_ge i xs.size with c | c
     ·exact c
     ·have:xs[i]? = none:=by simp;omega
      rw [this] at e;cases e
    omega
   have e1:xs[p]? = some xs[p]:=by simp [hps]
   have q1:=h2 p _ (Nat.le_refl _) e1
   have q2:=up p i _ _ (by omega) e1 e
   omega
 intro a b x y hab ha hb
 rw [tH h3] at ha hb
 by_cases c1:a < p
 ·rw [if_pos c1] at ha
  by_cases d1:b < p
  ·rw [if_pos d1] at hb;exact up a b _ _ hab ha hb
  ·rw [if_neg d1] at hb
   by_cases d2:b=p
   ·rw [if_pos d2] at hb;cases hb;exact h1 a _ c1 ha
   ·rw [if_neg d2] at hb
    exact Nat.lt_trans (h1 a _ c1 ha) (h2' (b - 1) _ (by omega) hb)
 ·rw [if_neg c1] at ha
  by_cases c2:a=p
  ·rw [if_pos c2] at ha;cases ha
   rw [if_neg (by omega),if_neg (by omega)] at hb
   exact h2' (b - 1) _ (by omega) hb
  ·rw [if_neg c2] at ha
   rw [if_neg (by omega),if_neg (by omega)] at hb
   exact up (a - 1) (b - 1) _ _ (by omega) ha hb
def Rp (t:SetTable):Prop:=t.plain=true->Up t.place
theorem zt {t:SetTable} {f:Nat->Int} {h:Int}:∀ (fuel:Nat) (p:SetTable.Probe) (j:Nat) (d:Option Nat),(∀ x,p.dummy=some x->t.place[SetTable.below t.place x]? ≠ some x) ->
  SetTable.probe.go t f h fuel p=some (.empty j d)->t.place[SetTable.below t.place (d.getD j)]? ≠ some (d.getD j):=by
 intro fuel
 induction fuel with
 | zero=>intro p j d _ e;unfold SetTable.probe.go at e;cases e
 | succ n ih =>
  intro p j d hd e
  unfold SetTable.probe.go at e
  have adv:∀ q:SetTable.Probe,(t.advance q).dummy=q.dummy:=fun q=>by unfold SetTable.advance;split <;> rfl
  cases hs:t.slot p.j with
  | empty =>
   rw [hs] at e
   dsimp only at e
   injection e with e
   injection e with e1 e2
   subst e1;subst e2
   unfold SetTable.slot at hs
   dsimp only at hs
   split at hs
   ·cases hs
   ·rename_i hne
    cases hdm:p.dummy with
    | none=>intro z;exact hne (by rw [show (none:Option Nat).getD p.j=p.j from rfl] at z;simpa using z)
    | some x=>exact hd x hdm
  | dummy =>
   rw [hs] at e
   dsimp only at e
   refine ih _ j d (fun x hx=>?_) e
   rw [adv] at hx
   injection hx with hx
   subst hx
   unfold SetTable.slot at hs
   dsimp only at hs
   split at hs
   ·cases hs
   ·rename_i hne
    intro z;exact hne (by simpa using z)
  | live i =>
   rw [hs] at e
   dsimp only at e
   split at e
   ·cases e
   ·exact ih _ j d (fun x hx=>hd x (by rw [adv] at hx;exact hx)) e
theorem tI {t:SetTable} {h:Int} {j:Nat} {b:Bool} (e:t.freeSlot h=some (j,b)):t.place[SetTable.below t.place j]? ≠ some j:=by
 unfold SetTable.freeSlot at e
 split at e
 ·rename_i j' d hp
  injection e with e
  injection e with e1 e2
  subst e1
  unfold SetTable.probe at hp
  exact zt _ _ _ _ (fun x hx=>by cases hx) hp
 ·cases e
theorem Rp.standIn (t:SetTable) (n:Nat):Rp (t.standIn n):=fun h=>by cases h
theorem Rp.layNew {t:SetTable} (r:Rp t) (es:Array (Int × Value)) (h:Int) (x:Value):Rp (layNew t es h x).2.1/\(layNew t es h x).2.1.led=t.led:=by
 unfold PySem.layNew
 split
 ·rename_i j b e
  dsimp only
  unfold SetTable.orStandIn
  split
  ·refine⟨fun hp=>?_,rfl⟩
   exact (r hp).insert (tI e)
  ·exact⟨Rp.standIn _ _,rfl⟩
 ·exact⟨Rp.standIn _ _,rfl⟩
theorem zu (n:Nat) (f:Nat->Option Nat):Up (((List.range n).filterMap fun j=>(f j).map fun k=>(j,k)).map (·.1)).toArray:=by
 have hs:List.Pairwise (· < ·) (((List.range n).filterMap fun j=>(f j).map fun k=>(j,k)).map (·.1)):=by
  have hl:List.Sublist (((List.range n).filterMap fun j=>(f j).map fun k=>(j,k)).map (·.1)) (List.range n):=by
   generalize List.range n=l
   induction l with
   | nil=>exact List.Sublist.refl _
   | cons a l ih =>
    rw [List.filterMap_cons]
    cases e:f a with
    | none=>exact ih.cons a
    | some k=>exact ih.cons₂ a
  exact List.Pairwise.sublist hl List.pairwise_lt_range
 intro i j a b hij ha hb
 rw [List.getElem?_toArray] at ha hb
 have hi:i < _:=(List.getElem?_eq_some_iff.mp ha).1
 have hj:j < _:=(List.getElem?_eq_some_iff.mp hb).1
 have:=List.pairwise_iff_getElem.mp hs i j hi hj hij
 rw [(List.getElem?_eq_some_iff.mp ha).2,(List.getElem?_eq_some_iff.mp hb).2] at this
 exact this
theorem Rp.relayAll (t:SetTable) (es:Array (Int × Value)) (n:Nat):Rp (relayAll t es n).2.1/\(relayAll t es n).2.1.led=t.led:=by
 unfold PySem.relayAll
 split
 ·rename_i t' order e
  dsimp only
  split
  ·unfold SetTable.relaid SetTable.laid at e
   simp only [bind,Option.bind] at e
   split at e
   ·cases e
   ·rename_i owner _
    injection e with e
    injection e with e1 _
    subst e1
    exact⟨fun _=>zu _ _,rfl⟩
  ·exact⟨Rp.standIn _ _,rfl⟩
 ·exact⟨Rp.standIn _ _,rfl⟩
theorem wg {xs:Array Nat} (up:Up xs) {i a:Nat} (e:xs[i]? = some a):SetTable.below xs (a+1)=i+1:=by
 obtain⟨h1,h2,h3⟩:=nM (j:=a+1) up
 have hi:i < xs.size:=(Array.getElem?_eq_some_iff.mp e).1
 rcases Nat.lt_trichotomy (SetTable.below xs (a+1)) (i+1) with c | c | c
 ·have:=h2 i a (by omega) e;omega
 ·exact c
 ·have hs:i+1 < xs.size:=by omega
  have e':xs[i+1]? = some xs[i+1]:=by simp [hs]
  have q1:=h1 (i+1) _ c e'
  have q2:=up i (i+1) _ _ (by omega) e e'
  omega
theorem wj {xs:Array Nat} (up:Up xs):SetTable.below xs 0=0:=by
 obtain⟨h1,h2,h3⟩:=nM (j:=0) up
 rcases Nat.eq_zero_or_pos (SetTable.below xs 0) with c | c
 ·exact c
 ·have e':xs[0]? = some xs[0]:=by simp
  have:=h1 0 _ c e';omega
theorem Up.bG {xs:Array Nat} (h:xs.size<=1):Up xs:=fun i j a b hij ha hb=>by
 have:=(Array.getElem?_eq_some_iff.mp hb).1;omega
open PySem.Spec PyProof.Rows
section
variable {prog:Program} {w:World} {K:Type} [DecidableEq K] {knd:KeyKind prog w K}
variable {A:Around} {E:Value->Shared->Prop} {s:Shared}
def Ent (knd:KeyKind prog w K) (e:Int × Value) (k:K):Prop:=knd.is k e.2=true/\e.1=knd.hash k/\e.2.scannable=true
structure bo (knd:KeyKind prog w K) (h:Heap) (a:Addr) (ks:List K) (o:Obj) (es:Array (Int × Value)) (ep:Nat) (t:SetTable):Prop where
 at_:h.get? a=some o
 ex:o.ExactSet
 data:o.data=.set es ep t
 ents:∃ ls:List K,ls.Perm ks/\Paired (Ent knd) es.toList ls
 nd:ks.Nodup
 bG:es.size < scanBound
 fits:t.fits es.size=true
 led:t.led = !(w.params.followText "set-order")
 up:Rp t
def eQ (knd:KeyKind prog w K) (h:Heap) (a:Addr) (ks:List K):Prop:=∃ o es ep t,bo knd h a ks o es ep t
theorem jX {α β : Type} {F:α->β->Prop}:∀ {l l':List α},l.Perm l'->∀ {m':List β},Paired F l' m'->∃ m,m.Perm m'/\Paired F l m:=by
 intro l l' p
 induction p with
 | nil=>intro m' h;exact⟨m',.refl _,h⟩
 | cons x p ih =>
  intro m' h
  cases h with
  | cons r t=>obtain⟨m,q,e⟩:=ih t;exact⟨_,q.cons _,.cons r e⟩
 | swap x y l =>
  intro m' h
  cases h with
  | cons r t=>cases t with
   | cons r' t'=>exact⟨_,.swap _ _ _,.cons r' (.cons r t')⟩
 | trans p q ih1 ih2 =>
  intro m' h
  obtain⟨m1,a1,b1⟩:=ih2 h
  obtain⟨m2,a2,b2⟩:=ih1 b1
  exact⟨m2,a2.trans a1,b2⟩
theorem i0 {α β : Type} {F:α->β->Prop}:∀ {l:List α} {m:List β},Paired F l m->(∀ x ∈ l,∃ y ∈ m,F x y)/\(∀ y ∈ m,∃ x ∈ l,F x y)
 | _,_,.nil=>⟨(fun _ h=>nomatch h),(fun _ h=>nomatch h)⟩
 | _,_,.cons r t=>by
  obtain⟨h1,h2⟩:=i0 t
  refine⟨fun x hx=>?_,fun y hy=>?_⟩
  ·rcases List.mem_cons.mp hx with rfl | hx
   ·exact⟨_,List.mem_cons_self ..,r⟩
   ·obtain⟨y,hy,f⟩:=h1 x hx;exact⟨y,List.mem_cons_of_mem _ hy,f⟩
  ·rcases List.mem_cons.mp hy with rfl | hy
   ·exact⟨_,List.mem_cons_self ..,r⟩
   ·obtain⟨x,hx,f⟩:=h2 y hy;exact⟨x,List.mem_cons_of_mem _ hx,f⟩
theorem m8 {α β : Type} {F:α->β->Prop} {x:α} {y:β} (f:F x y):∀ {l:List α} {m:List β},Paired F l m->Paired F (l ++ [x]) (m ++ [y])
 | _,_,.nil=>.cons f .nil
 | _,_,.cons r t=>.cons r (m8 f t)
variable {a:Addr} {ks:List K} {o:Obj} {es:Array (Int × Value)} {ep:Nat} {t:SetTable} {h h':Heap}
theorem bo.elems (S:bo knd h a ks o es ep t):ElemsOf knd es.toList:=fun e he=>by
 obtain⟨ls,_,p⟩:=S.ents
 obtain⟨k,_,f⟩:=(i0 p).1 e he
 exact⟨⟨k,f.1,f.2.1⟩,f.2.2⟩
theorem bo.len (S:bo knd h a ks o es ep t):es.size=ks.length:=by
 obtain⟨ls,q,p⟩:=S.ents
 rw [<-Array.length_toList,p.length,q.length_eq]
theorem bo.mem (S:bo knd h a ks o es ep t) (k:K):k ∈ ks ↔ ∃ e ∈ es.toList,knd.is k e.2=true:=by
 obtain⟨ls,q,p⟩:=S.ents
 rw [<-q.mem_iff]
 constructor
 ·intro hk
  obtain⟨e,he,f⟩:=(i0 p).2 k hk
  exact⟨e,he,f.1⟩
 ·rintro⟨e,he,f⟩
  obtain⟨k',hk',f'⟩:=(i0 p).1 e he
  rw [knd.inj e.2 k k' f f'.1];exact hk'
theorem bo.setOf (S:bo knd h a ks o es ep t):h.SetOf knd a (fun k=>decide (k ∈ ks)) ks.length :=
 ⟨o,es,ep,t,S.at_,S.ex,S.data,S.elems,fun k=>by rw [decide_eq_true_eq];exact S.mem k,S.bG,S.fits,S.len⟩
theorem bo.keep (S:bo knd h a ks o es ep t) (k:∀ o,h.get? a=some o->h'.get? a=some o):bo knd h' a ks o es ep t:={ S with at_:=k _ S.at_ }
theorem eQ.keep (S:eQ knd h a ks) (k:∀ o,h.get? a=some o->h'.get? a=some o):eQ knd h' a ks:=let ⟨o,es,ep,t,S⟩:=S;⟨o,es,ep,t,S.keep k⟩
theorem eQ.setOf (S:eQ knd h a ks):h.SetOf knd a (fun k=>decide (k ∈ ks)) ks.length:=let ⟨_,_,_,_,S⟩:=S;S.setOf
theorem tJ {o:Obj} {es es':Array (Int × Value)} {ep:Nat} {t t':SetTable} (hd:o.data=.set es ep t):Obj.putSet es' t' o = { o with data:=.set es' (ep+1) t' }:=putSet_of es' t' hd
theorem bo.store {es':Array (Int × Value)} {t':SetTable} {ks':List K} (S:bo knd h a ks o es ep t) (he:∃ ls:List K,ls.Perm ks'/\Paired (Ent knd) es'.toList ls) (nd:ks'.Nodup) (bG:es'.size < scanBound)
  (fits:t'.fits es'.size=true) (led:t'.led=t.led) (up:Rp t'):bo knd (h.update a (Obj.putSet es' t')) a ks' { o with data:=.set es' (ep+1) t' } es' (ep+1) t' where
 at_:=by
  have q:=Heap.get?_update_self (Obj.putSet es' t') S.at_ (by rw [tJ S.data];rfl)
  rw [tJ S.data] at q
  exact q
 ex:=S.ex
 data:=rfl
 ents:=he
 nd:=nd
 bG:=bG
 fits:=fits
 led:=led.trans S.led
 up:=up
theorem nN {g:Bool->Sem Unit} (hg:∀ (b:Bool) (s₁ : Shared) (Q':Unit->Shared->Prop),Q' () s₁->wpAny (model prog w) A (g b) Q' E s₁) {es1:Array (Int × Value)} {t2:SetTable} {ks':List K}
  (S:bo knd s.heap a ks o es ep t) (he:∃ ls:List K,ls.Perm ks'/\Paired (Ent knd) es1.toList ls) (nd:ks'.Nodup) (bG:es1.size < scanBound) (fits:t2.fits es1.size=true) (led:t2.led=t.led) (up:Rp t2) {wd:Bool}
  {R:Option Bool->Shared->Prop} (q:∀ h',Heap.SameBut a s.heap h'->eQ knd h' a ks'->R (some true) { s with heap:=h' }) :
  wpAny (model prog w) A (storeSet a es1 t2 >>= fun _=>if (!wd && t2.tooFull)=true then g (relayAll t2 es1 (SetTable.grown es1.size)).2.2 >>= fun _ =>
   storeSet a (relayAll t2 es1 (SetTable.grown es1.size)).1 (relayAll t2 es1 (SetTable.grown es1.size)).2.1 >>= fun _=>pure (some true) else pure (some true)) R E s:=by
 refine wpAny_bind (wpAny_storeSet_of S.at_ S.data ?_ (fits_of_scanBound bG))
 have S1:=S.store he nd bG fits led up
 have b1:=Heap.SameBut.update s.heap a (Obj.putSet es1 t2)
 by_cases hc:(!wd && t2.tooFull)=true
 ·rw [if_pos hc]
  have p1:=relayAll_perm t2 es1 (SetTable.grown es1.size)
  have p2:=relayAll_fits t2 es1 (SetTable.grown es1.size)
  have p3:=Rp.relayAll t2 es1 (SetTable.grown es1.size)
  generalize relayAll t2 es1 (SetTable.grown es1.size)=R3 at p1 p2 p3
  obtain⟨es3,t3,gv⟩:=R3
  obtain⟨ls,l1,l2⟩:=he
  obtain⟨ls3,l3,l4⟩:=jX p1 l2
  have z:es3.size=es1.size:=by rw [<-Array.length_toList,p1.length_eq,Array.length_toList]
  have few3:es3.size < scanBound:=by rw [z];exact bG
  refine wpAny_bind (hg _ _ _ ?_)
  refine wpAny_bind (wpAny_storeSet_of S1.at_ S1.data ?_ (fits_of_scanBound few3))
  exact wpAny_pure (q _ (b1.trans (Heap.SameBut.update _ a _)) ⟨_,_,_,_,S1.store ⟨ls3,l3.trans l1,l4⟩ nd few3 p2 p3.2 p3.1⟩)
 ·rw [if_neg hc]
  exact wpAny_pure (q _ b1 ⟨_,_,_,_,S1⟩)
theorem wm {k:K} {x:Value} {Q:Bool->Shared->Prop} (hk:knd.is k x=true) (hsc:x.scannable=true) (S:eQ knd s.heap a ks) (room:ks.length+1 < scanBound)
  (q:∀ h',Heap.SameBut a s.heap h'->eQ knd h' a (if k ∈ ks then ks else ks ++ [k])->Q (!decide (k ∈ ks)) { s with heap:=h' }) :
  wpAny (model prog w) A (setAddHashed a x (knd.hash k)) Q E s:=by
 obtain⟨o,es,ep,t,S⟩:=S
 have few1:es.size+1 < scanBound:=by rw [S.len];exact room
 unfold setAddHashed setAddHashedIn
 refine wpAny_holding (wpAny_bind (wpAny_setState_of S.at_ S.data S.fits ?_))
 dsimp only
 rw [byScan_of hsc S.bG S.elems]
 simp only [↓reduceIte]
 unfold setAddByScan
 refine wpAny_bind (wpAny_bind (wpAny_rule ?_))
 refine wpAny_bind (wpAny_setScan_of hk S.at_ S.data S.fits S.elems ?_)
 cases hr:List.findIdx? (fun e=>knd.is k e.2) es.toList with
 | some j =>
  obtain⟨hj,hpj,_⟩:=List.findIdx?_eq_some_iff_getElem.mp hr
  have hin:k ∈ ks:=(S.mem k).mpr ⟨es.toList[j],List.getElem_mem hj,hpj⟩
  refine wpAny_pure (wpAny_pure ?_)
  have:=q s.heap (Heap.SameBut.refl a s.heap) (by rw [if_pos hin];exact⟨o,es,ep,t,S⟩)
  rw [decide_eq_true hin] at this
  exact this
 | none =>
  have hin:¬ k ∈ ks:=fun z=>by
   obtain⟨e,he,hp⟩:=(S.mem k).mp z
   have:=List.findIdx?_eq_none_iff.mp hr e he
   rw [hp] at this;exact Bool.noConfusion this
  rw [if_neg hin,decide_eq_false hin] at q
  have p1:=layNew_perm t es (knd.hash k) x
  have p2:=layNew_fits t es (knd.hash k) x
  have p3:=S.up.layNew es (knd.hash k) x
  dsimp only
  generalize layNew t es (knd.hash k) x=L at p1 p2 p3 ⊢
  obtain⟨es1,t1,wd,gv⟩:=L
  dsimp only at p1 p2 p3 ⊢
  rw [Array.toList_push] at p1
  have hE:∃ ls:List K,ls.Perm (ks ++ [k])/\Paired (Ent knd) es1.toList ls:=by
   obtain⟨ls,l1,l2⟩:=S.ents
   obtain⟨m,m1,m2⟩:=jX p1 (m8 (F:=Ent knd) (x:=(knd.hash k,x)) (y:=k) ⟨hk,rfl,hsc⟩ l2)
   exact⟨m,m1.trans (l1.append_right _),m2⟩
  have nd1:(ks ++ [k]).Nodup:=by
   rw [List.nodup_append]
   exact⟨S.nd,by simp,fun y hy z hz e=>hin (by rw [List.mem_singleton] at hz;rw [<-hz,<-e];exact hy)⟩
  have few2:es1.size < scanBound:=by rw [<-Array.length_toList,p1.length_eq,List.length_append,Array.length_toList];simpa using few1
  have gw:∀ (b:Bool) (s₁ : Shared) (Q':Unit->Shared->Prop),Q' () s₁->wpAny (model prog w) A (match b with | true=>rule "set.scan.the-table-gave-way" | false=>pure ()) Q' E s₁:=fun b s₁ Q' hq=>by
   cases b
   ·exact wpAny_pure hq
   ·exact wpAny_rule hq
  refine wpAny_bind (gw _ _ _ ?_)
  by_cases hp:t1.plain=true
  ·rw [if_pos hp]
   refine wpAny_bind ?_
   rw [hashByValue_scannable 8 hsc]
   refine wpAny_pure ?_
   by_cases hv:plainKind x=true
   ·rw [if_pos hv]
    exact nN gw S hE nd1 few2 p2 p3.2 p3.1 fun h' b Sk=>wpAny_pure (q h' b Sk)
   ·rw [if_neg hv]
    exact nN gw S hE nd1 few2 (SetTable.fits_plain_off p2) p3.2 (fun z=>by cases z) fun h' b Sk=>wpAny_pure (q h' b Sk)
  ·rw [if_neg hp]
   refine wpAny_bind (wpAny_pure ?_)
   rw [if_pos rfl]
   exact nN gw S hE nd1 few2 p2 p3.2 p3.1 fun h' b Sk=>wpAny_pure (q h' b Sk)
theorem lU {led:Bool} (hl:led = !(w.params.followText "set-order")) (at_:h.get? a=some { cls:=.type "set",dict:=none,data:=.set #[] 0 (.fresh 0 0 led) }):eQ knd h a [] :=
 ⟨_,#[],0,_,at_,⟨rfl,rfl,rfl⟩,rfl,⟨[],.refl _,.nil⟩,List.nodup_nil,by decide,by rfl,hl,fun _=>Up.bG (Nat.zero_le _)⟩
end
theorem kC {α : Type}:∀ (l:List α) (i:Nat) (h:i < l.length),(l[i] :: l.eraseIdx i).Perm l
 | x :: l,0,_=>.refl _
 | x :: l,i+1,h=>by
  have hi:i < l.length:=by simpa using h
  have ih:=kC l i hi
  show (l[i] :: x :: l.eraseIdx i).Perm (x :: l)
  exact (List.Perm.swap x _ _).trans (ih.cons x)
theorem xZ {α : Type} (f:Nat->Nat):∀ (n k:Nat) (l:List α) (out:Array α),l.length=n->(pickOrder.go f n k l out).toList.Perm (out.toList++l):=by
 intro n
 induction n with
 | zero =>
  intro k l out hl
  have:l = []:=List.length_eq_zero_iff.mp hl
  subst this
  unfold pickOrder.go
  simp
 | succ n ih =>
  intro k l out hl
  unfold pickOrder.go
  have hlt:f k % l.length < l.length:=Nat.mod_lt _ (by omega)
  rw [List.getElem?_eq_getElem hlt]
  dsimp only
  refine (ih _ _ _ (by rw [List.length_eraseIdx_of_lt hlt];omega)).trans ?_
  rw [Array.toList_push,List.append_assoc]
  refine List.Perm.append_left _ ?_
  exact kC _ _ hlt
theorem iz {α : Type} (f:Nat->Nat) (xs:Array α):(pickOrder f xs).toList.Perm xs.toList:=by
 unfold pickOrder
 have:=xZ f xs.size 0 xs.toList #[] (by simp)
 simpa using this
section
variable {prog:Program} {w:World} {A:Around} {E:Value->Shared->Prop} {s:Shared}
theorem mJ {Q:Bool->Shared->Prop} (q:Q (w.params.followText "set-order") s):wpAny (model prog w) A setsByText Q E s:=by
 unfold setsByText
 exact wpAny_bind (wpAny_askSetting (wpAny_pure q))
theorem Bc {src:Source} {n:Nat} {Q:Nat->Shared->Prop} (hn:n ≠ 0) (q:∀ (i:Nat) (d:_),i < n->Q i { s with drawn:=d }):wpAny (model prog w) A (choose src n) Q E s:=by
 intro Γ p hΓ
 show Sem.wp _ _ (.choose src n .pure) _ _ _ _
 rw [Sem.wp_choose]
 exact⟨hn,q _ _ (Nat.mod_lt _ (Nat.pos_of_ne_zero hn))⟩
theorem Df:∀ (n:Nat) (xs:List Nat) (s:Shared) {Q:List Nat->Shared->Prop},xs.length=n->(∀ (ys:List Nat) (d:_),ys.Perm xs->Q ys { s with drawn:=d })->wpAny (model prog w) A (drawOrder n xs) Q E s:=by
 intro n
 induction n with
 | zero =>
  intro xs s Q hl q
  have:xs = []:=List.length_eq_zero_iff.mp hl
  subst this
  unfold drawOrder
  exact wpAny_pure (q [] s.drawn (.refl _))
 | succ n ih =>
  intro xs s Q hl q
  cases xs with
  | nil=>cases hl
  | cons x0 xs =>
   unfold drawOrder
   refine wpAny_bind (Bc (by simp) fun i d hi=>?_)
   rw [List.getElem?_eq_getElem hi]
   dsimp only
   refine wpAny_bind (ih _ _ (by rw [List.length_eraseIdx_of_lt hi];omega) fun ys d' hp=>?_)
   refine wpAny_pure (q _ d' ?_)
   exact (hp.cons _).trans (kC _ _ hi)
end
section
variable {prog:Program} {w:World} {K:Type} [DecidableEq K] {knd:KeyKind prog w K}
variable {A:Around} {E:Value->Shared->Prop} {s:Shared} {a:Addr} {ks:List K} {o:Obj} {es:Array (Int × Value)} {ep:Nat} {t:SetTable}
theorem x8 {slot i:Nat} {Q:Option (Value × Nat)->Shared->Prop} (S:bo knd s.heap a ks o es ep t) (hb:w.params.followText "set-order" = true)
  (q:Q (((pickOrder (w.params.setOrder a ep) es)[i]?).map fun e=>(e.2,slot)) s):wpAny (model prog w) A (setNext a slot i ep) Q E s:=by
 unfold setNext
 refine wpAny_bind (wpAny_setState_of S.at_ S.data S.fits ?_)
 dsimp only
 refine wpAny_bind (mJ ?_)
 rw [hb,if_pos rfl]
 rw [if_neg (by simp)]
 unfold setWalk
 refine wpAny_bind (wpAny_bind (wpAny_setState_of S.at_ S.data S.fits ?_))
 dsimp only
 refine wpAny_bind (mJ ?_)
 rw [hb,if_pos rfl]
 exact wpAny_bind (wpAny_askSetting (wpAny_pure (wpAny_pure q)))
theorem x9 {slot i:Nat} {Q:Option (Value × Nat)->Shared->Prop} (S:bo knd s.heap a ks o es ep t) (hb:w.params.followText "set-order" = false) (hd:t.plain=true\/es.size<=1) (hs:SetTable.below t.place slot=i)
  (q:Q (match es[i]?,t.place[i]? with | some (_,x),some j=>some (x,j+1) | _,_=>none) s):wpAny (model prog w) A (setNext a slot i ep) Q E s:=by
 unfold setNext
 refine wpAny_bind (wpAny_setState_of S.at_ S.data S.fits ?_)
 dsimp only
 refine wpAny_bind (mJ ?_)
 rw [hb,if_neg Bool.false_ne_true]
 refine wpAny_ite_split (fun h=>absurd (show (!t.plain && decide (es.size > 1))=true from h) ?_) (fun _=>?_)
 ·rcases hd with h | h
  ·rw [h];simp
  ·rw [show decide (es.size > 1)=false by simp;omega];simp
 have hl:t.led=true:=by rw [S.led,hb];rfl
 refine wpAny_bind ?_
 show wpAny _ _ (if (!t.led && !es.isEmpty)=true then unsupported "set:maker-not-led" else pure ()) _ _ s
 rw [hl,if_neg (by simp)]
 refine wpAny_pure ?_
 rw [hs]
 exact wpAny_pure q
theorem CA {i:Nat} {e:Int × Value} {Q:Value->Shared->Prop} (S:bo knd s.heap a ks o es ep t) (he:es[i]? = some e) (q:Q e.2 s):wpAny (model prog w) A (setNextDrawn a i ep) Q E s:=by
 unfold setNextDrawn
 refine wpAny_bind (wpAny_setState_of S.at_ S.data S.fits ?_)
 dsimp only
 rw [if_neg (by simp)]
 rw [he]
 exact wpAny_pure q
theorem slot_next:Slot "set_iterator" "__next__" "set_iterator.__next__" :=
  Slot.of (owner := "set_iterator") (n := "__next__")
    (by rw [typeLookup_type,builtinLookup_eq_fast]
        kernel_rfl)
    (by decide +kernel)
    (by decide +kernel)
    (by decide +kernel)
    (by first
      | exact .inl (by decide +kernel)
      | exact .inr (by decide +kernel))
    (by rw [isSubtype_type]
        kernel_rfl)
theorem entry_next:entryFor table "set_iterator.__next__" = some Builtin.«set_iterator.__next__» :=
 entryFor_of_tree (by kernel_rfl)
theorem qX:Manifest.owners.lookup (String.ofList ['r','o','t','a','r','e','t','i','_','t','e','s'].reverse)=some Manifest.sig_set_iterator:=by
 kernel_rfl
theorem args_next (v:Value):argsOk "set_iterator.__next__" ⟨[v],[]⟩:=by
 unfold argsOk
 rw [signature?_of (id := "set_iterator.__next__") (n:=['_','_','t','x','e','n','_','_']) (o:=['r','o','t','a','r','e','t','i','_','t','e','s'])
  (by kernel_rfl) qX]
 kernel_rfl
end
def ft (h:Heap) (I:Addr) (first:Value) (i:Nat) (a:Addr) (n ep:Nat):Prop :=
 ∃ oI,h.get? I=some oI/\oI.cls=.type "set_iterator" /\ oI.data=.fields #[first,.int i 0,.ref a,.int n 0,.int ep 0]
theorem ft.type {s:Shared} {I:Addr} {first:Value} {i:Nat} {a:Addr} {n ep:Nat} (h:ft s.heap I first i a n ep):s.TypeIs (.ref I) "set_iterator" := let ⟨o,e,c,_⟩:=h;⟨o,e,c⟩
theorem ft.keep {h h':Heap} {I:Addr} {first:Value} {i:Nat} {a:Addr} {n ep:Nat} (x:ft h I first i a n ep) (k:∀ o,h.get? I=some o->h'.get? I=some o):ft h' I first i a n ep :=
 let ⟨o,e,c⟩:=x;⟨o,k _ e,c⟩
section
variable {prog:Program} {w:World} {K:Type} [DecidableEq K] {knd:KeyKind prog w K}
variable {A:Around} {E:Value->Shared->Prop} {s:Shared} {a I:Addr} {ks:List K} {o:Obj} {es:Array (Int × Value)} {ep:Nat} {t:SetTable}
theorem tK {slot nx i:Nat} {x:Value} {Q:Option Value->Shared->Prop} (hit:ft s.heap I (.int slot 0) i a es.size ep) (S:bo knd s.heap a ks o es ep t)
  (hn:∀ (A:Around) (E:Value->Shared->Prop) (Q:Option (Value × Nat)->Shared->Prop),Q (some (x,nx)) s->wpAny (model prog w) A (setNext a slot i ep) Q E s)
  (q:∀ h',ft h' I (.int nx 0) (i+1) a es.size ep->Heap.SameBut I s.heap h'->Q (some x) { s with heap:=h' }):wpAny (model prog w) A (pyNext (.ref I)) Q E s:=by
 obtain⟨oI,ho,hc,hd⟩:=id hit
 unfold pyNext
 refine wpAny_bind (wpAny_attempt (wpAny_callSpecial?_slot (name:=Str.ofString "__next__") hit.type slot_next (wpAny_call_entry slot_next hit.type entry_next ?_ (args_next _))))
 unfold Builtin.«set_iterator.__next__»
 refine wpAny_bind (wpAny_pure ?_)
 refine wpAny_bind (wpAny_fieldsOf ho hd ?_)
 dsimp only
 refine wpAny_bind (wpAny_setEntries_of S.at_ S.data S.fits ?_)
 rw [if_neg (by simp)]
 simp only [Int.toNat_natCast]
 refine wpAny_bind (hn _ _ _ ?_)
 dsimp only
 refine wpAny_bind (wpAny_setField ho hd (by simp) ?_)
 have d1:(Obj.mapFields (·.setIfInBounds 0 (rawInt (nx:Int))) oI).data=.fields #[.int nx 0,.int i 0,.ref a,.int es.size 0,.int ep 0]:=by rw [Obj.data_mapFields hd];simp [rawInt]
 have g1:=Heap.get?_update_self (Obj.mapFields (·.setIfInBounds 0 (rawInt (nx:Int)))) ho (Obj.isFreed_of_fields (Obj.data_mapFields hd _))
 refine wpAny_bind (wpAny_setField g1 d1 (by simp) ?_)
 refine wpAny_pure ⟨_,rfl,wpAny_pure (q _ ⟨_,Heap.get?_update_self _ g1 (Obj.isFreed_of_fields (Obj.data_mapFields d1 _)),?_,?_⟩ ((Heap.SameBut.update ..).trans (Heap.SameBut.update ..)))⟩
 ·exact (Obj.cls_mapFields ..).trans ((Obj.cls_mapFields ..).trans hc)
 ·rw [Obj.data_mapFields d1];simp [rawInt]
theorem m9 {Q:Option Value->Shared->Prop} {s0:Shared} (hh:A.handled=none) (hk:∀ b o,b ≠ I->s0.heap.get? b=some o->s.heap.get? b=some o)
  (q:∀ h',(∀ b o,b ≠ I->s0.heap.get? b=some o->h'.get? b=some o)->Q none { s with heap:=h' }) :
  wpAny (model prog w) A.in1 (newExc (.type "StopIteration") [] >>= fun e=>(raiseNew e:Sem Fin)) (fun _ _=>False)
   (fun e s'=>wpAny (model prog w) A (isInstance e (.type "StopIteration") >>= fun b=>if b=true then pure none else throw e) Q E s') s:=by
 refine wpAny_bind ?_
 simp only [newExc,newTuple]
 refine wpAny_bind (wpAny_newObj_type ?_ (by size_fits))
 refine wpAny_bind (m:=firstArgMember _ _) (wpAny_of_eq (a:=Value.none) (by first | rfl | (simp only [firstArgMember];rfl)) ?_)
 refine wpAny_newObj_type ?_ (by size_fits)
 simp only [raiseNew]
 refine wpAny_bind (wpAny_handled ?_)
 rw [show A.in1.handled=none from hh]
 refine wpAny_bind (wpAny_pure (wpAny_throw ?_))
 refine wpAny_bind (wpAny_isInstance (T := "StopIteration") (b:=true) ⟨_,Heap.get?_push_size _ rfl,rfl⟩ isSubtype_stop ?_)
 exact wpAny_pure (q _ fun b o hb e=>Heap.get?_push_of_some _ (Heap.get?_push_of_some _ (hk b o hb e)))
theorem vj {slot i:Nat} {Q:Option Value->Shared->Prop} (hh:A.handled=none) (hit:ft s.heap I (.int slot 0) i a es.size ep) (S:bo knd s.heap a ks o es ep t)
  (hn:∀ (A:Around) (E:Value->Shared->Prop) (Q:Option (Value × Nat)->Shared->Prop),Q none s->wpAny (model prog w) A (setNext a slot i ep) Q E s)
  (q:∀ h',(∀ b o,b ≠ I->s.heap.get? b=some o->h'.get? b=some o)->Q none { s with heap:=h' }):wpAny (model prog w) A (pyNext (.ref I)) Q E s:=by
 obtain⟨oI,ho,hc,hd⟩:=id hit
 unfold pyNext
 refine wpAny_bind (wpAny_attempt (wpAny_callSpecial?_slot (name:=Str.ofString "__next__") hit.type slot_next (wpAny_call_entry slot_next hit.type entry_next ?_ (args_next _))))
 unfold Builtin.«set_iterator.__next__»
 refine wpAny_bind (wpAny_pure ?_)
 refine wpAny_bind (wpAny_fieldsOf ho hd ?_)
 dsimp only
 refine wpAny_bind (wpAny_setEntries_of S.at_ S.data S.fits ?_)
 rw [if_neg (by simp)]
 simp only [Int.toNat_natCast]
 refine wpAny_bind (hn _ _ _ ?_)
 dsimp only
 refine wpAny_bind (wpAny_setField ho hd (by simp) ?_)
 refine wpAny_mono (m9 (I:=I) (s0:=s) (E:=E) (Q:=Q) hh (fun b o hb e=>(Heap.get?_update_other _ _ (Ne.symm hb)).trans e) fun h' k=>q h' k) (fun _ _ z=>z.elim) fun e s' z=>z
theorem zw {T:Addr} {i k:Nat} {oT:Obj} {its:Array Value} {c:Nat} {x:Int × Value} {Q:Option Value->Shared->Prop} (hit:ft s.heap I (.ref T) i a es.size ep) (S:bo knd s.heap a ks o es ep t)
  (hT:s.heap.get? T=some oT) (dT:oT.data=.seq its c) (hk:its[i]? = some (.int k 0)) (hx:es[k]? = some x)
  (q:∀ h',ft h' I (.ref T) (i+1) a es.size ep->Heap.SameBut I s.heap h'->Q (some x.2) { s with heap:=h' }):wpAny (model prog w) A (pyNext (.ref I)) Q E s:=by
 obtain⟨oI,ho,hc,hd⟩:=id hit
 unfold pyNext
 refine wpAny_bind (wpAny_attempt (wpAny_callSpecial?_slot (name:=Str.ofString "__next__") hit.type slot_next (wpAny_call_entry slot_next hit.type entry_next ?_ (args_next _))))
 unfold Builtin.«set_iterator.__next__»
 refine wpAny_bind (wpAny_pure ?_)
 refine wpAny_bind (wpAny_fieldsOf ho hd ?_)
 dsimp only
 refine wpAny_bind (wpAny_setEntries_of S.at_ S.data S.fits ?_)
 rw [if_neg (by simp)]
 refine wpAny_bind (wpAny_seqItems hT dT ?_)
 dsimp only
 simp only [Int.toNat_natCast]
 rw [hk]
 dsimp only
 simp only [Int.toNat_natCast]
 refine wpAny_bind (CA S hx ?_)
 refine wpAny_bind (wpAny_setField ho hd (by simp) ?_)
 refine wpAny_pure ⟨_,rfl,wpAny_pure (q _ ⟨_,Heap.get?_update_self _ ho (Obj.isFreed_of_fields (Obj.data_mapFields hd _)),?_,?_⟩ (Heap.SameBut.update ..))⟩
 ·exact (Obj.cls_mapFields ..).trans hc
 ·rw [Obj.data_mapFields hd];simp [rawInt]
theorem Bd {T:Addr} {i:Nat} {oT:Obj} {its:Array Value} {c:Nat} {Q:Option Value->Shared->Prop} (hh:A.handled=none) (hit:ft s.heap I (.ref T) i a es.size ep) (S:bo knd s.heap a ks o es ep t)
  (hT:s.heap.get? T=some oT) (dT:oT.data=.seq its c) (hk:its[i]? = none)
  (q:∀ h',(∀ b o,b ≠ I->s.heap.get? b=some o->h'.get? b=some o)->Q none { s with heap:=h' }):wpAny (model prog w) A (pyNext (.ref I)) Q E s:=by
 obtain⟨oI,ho,hc,hd⟩:=id hit
 unfold pyNext
 refine wpAny_bind (wpAny_attempt (wpAny_callSpecial?_slot (name:=Str.ofString "__next__") hit.type slot_next (wpAny_call_entry slot_next hit.type entry_next ?_ (args_next _))))
 unfold Builtin.«set_iterator.__next__»
 refine wpAny_bind (wpAny_pure ?_)
 refine wpAny_bind (wpAny_fieldsOf ho hd ?_)
 dsimp only
 refine wpAny_bind (wpAny_setEntries_of S.at_ S.data S.fits ?_)
 rw [if_neg (by simp)]
 refine wpAny_bind (wpAny_seqItems hT dT ?_)
 dsimp only
 simp only [Int.toNat_natCast]
 rw [hk]
 dsimp only
 refine wpAny_bind (wpAny_setField ho hd (by simp) ?_)
 have d1:(Obj.mapFields (·.setIfInBounds 0 (rawInt 0)) oI).data=.fields #[.int 0 0,.int i 0,.ref a,.int es.size 0,.int ep 0]:=by rw [Obj.data_mapFields hd];simp [rawInt]
 have g1:=Heap.get?_update_self (Obj.mapFields (·.setIfInBounds 0 (rawInt 0))) ho (Obj.isFreed_of_fields (Obj.data_mapFields hd _))
 refine wpAny_bind (wpAny_setField g1 d1 (by simp) ?_)
 refine wpAny_mono (m9 (I:=I) (s0:=s) (E:=E) (Q:=Q) hh (fun b o hb e=>(Heap.get?_update_other _ _ (Ne.symm hb)).trans ((Heap.get?_update_other _ _ (Ne.symm hb)).trans e)) fun h' k=>q h' k) (fun _ _ z=>z.elim) fun e s' z=>z
theorem oU:Slot "set_iterator" "__iter__" "set_iterator.__iter__" :=
  Slot.of (owner := "set_iterator") (n := "__iter__")
    (by rw [typeLookup_type,builtinLookup_eq_fast]
        kernel_rfl)
    (by decide +kernel)
    (by decide +kernel)
    (by decide +kernel)
    (by first
      | exact .inl (by decide +kernel)
      | exact .inr (by decide +kernel))
    (by rw [isSubtype_type]
        kernel_rfl)
theorem uq:entryFor table "set_iterator.__iter__" = some Builtin.«dict_keyiterator.__iter__» :=
 entryFor_alias (id' := "dict_keyiterator.__iter__")
  (by kernel_rfl) rfl
  (by decide +kernel)
  (by kernel_rfl)
theorem wo (v:Value):argsOk "set_iterator.__iter__" ⟨[v],[]⟩:=by
 unfold argsOk
 rw [signature?_of (id := "set_iterator.__iter__") (n:=['_','_','r','e','t','i','_','_']) (o:=['r','o','t','a','r','e','t','i','_','t','e','s'])
  (by kernel_rfl) qX]
 kernel_rfl
theorem lV {first:Value} {i:Nat} {Q:Value->Shared->Prop} {n:Nat} (hit:ft s.heap I first i a n ep) (q:Q (.ref I) s):wpAny (model prog w) A (pyIter (.ref I)) Q E s:=by
 refine wpAny_pyIter_slot hit.type oU (wpAny_call_entry oU hit.type uq ?_ (wo _))
 show wpAny _ _ (ret (.ref I)) _ _ s
 exact wpAny_pure ⟨_,rfl, "set_iterator",_,hit.type,slot_next.lookup,q⟩
theorem CB (hh:A.handled=none) (hI:a ≠ I) (hb:w.params.followText "set-order" = true) (nd:True) :
  Walks prog w A I [I,a] [I] es.size (fun i v=>∃ e,(pickOrder (w.params.setOrder a ep) es)[i]? = some e/\e.2=v) (fun i h=>ft h I (.int 0 0) i a es.size ep/\bo knd h a ks o es ep t) where
 sub:=fun b hb=>by simp at hb;simp [hb]
 frame:=fun _ _ _ st k=>⟨st.1.keep fun o e=>k I (by simp) o e,st.2.keep fun o e=>k a (by simp) o e⟩
 item:=fun i s Q E hi st q=>by
  have z:(pickOrder (w.params.setOrder a ep) es).size=es.size:=by have:=(iz (w.params.setOrder a ep) es).length_eq;simpa using this
  have g:(pickOrder (w.params.setOrder a ep) es)[i]? = some ((pickOrder (w.params.setOrder a ep) es)[i]'(by omega)):=by simp
  refine tK (slot:=0) (nx:=0) st.1 st.2 (fun A E Q h=>x8 st.2 hb (by rw [g];exact h)) fun h' hit' sb=>?_
  exact q _ h' s.toks ⟨_,g,rfl⟩ ⟨hit',st.2.keep fun o e=>sb.extBut a o hI e⟩ fun b o hb e=>sb.extBut b o (fun z=>hb (by simp [z])) e
 done:=fun s Q E st q=>by
  have z:(pickOrder (w.params.setOrder a ep) es).size=es.size:=by have:=(iz (w.params.setOrder a ep) es).length_eq;simpa using this
  refine vj (slot:=0) hh st.1 st.2 (fun A E Q h=>x8 st.2 hb (by rw [Array.getElem?_eq_none (by omega)];exact h)) fun h' k=>?_
  exact q h' s.toks fun b o hb e=>k b o (fun z=>hb (by simp [z])) e
 self:=fun _ _ _ _ st q=>lV st.1 q
theorem nO {α : Type} {es:Array α}:∀ {ys:List Nat},(∀ k ∈ ys,k < es.size)->∀ i:Nat,(ys.filterMap fun k=>es[k]?)[i]? = (ys[i]?).bind fun k=>es[k]?
 | [],_,i=>by simp
 | y :: ys,h,i=>by
  have hy:es[y]? = some (es[y]'(h y (List.mem_cons_self ..))):=by simp
  rw [List.filterMap_cons,hy]
  cases i with
  | zero=>simp
  | succ i =>
   have:=nO (ys:=ys) (fun k hk=>h k (List.mem_cons_of_mem _ hk)) i
   simpa using this
def oV (t:SetTable):Nat->Nat
 | 0=>0
 | i+1=>t.place.getD i 0+1
theorem oW {t:SetTable} (up:Up t.place) {i:Nat} (h:i<=t.place.size):SetTable.below t.place (oV t i)=i:=by
 cases i with
 | zero=>exact wj up
 | succ i =>
  have hi:i < t.place.size:=by omega
  have e:t.place[i]? = some (t.place.getD i 0):=by simp [Array.getD,hi]
  exact wg up e
theorem CC (hh:A.handled=none) (hI:a ≠ I) (hb:w.params.followText "set-order" = false) (hd:t.plain=true\/es.size<=1) (hf:t.fits es.size=true) (hr:Rp t) :
  Walks prog w A I [I,a] [I] es.size (fun i v=>∃ e,es[i]? = some e/\e.2=v) (fun i h=>ft h I (.int (oV t i) 0) i a es.size ep/\bo knd h a ks o es ep t) where
 sub:=fun b hb=>by simp at hb;simp [hb]
 frame:=fun _ _ _ st k=>⟨st.1.keep fun o e=>k I (by simp) o e,st.2.keep fun o e=>k a (by simp) o e⟩
 item:=fun i s Q E hi st q=>by
  have z:t.place.size=es.size:=by simp only [SetTable.fits,Bool.and_eq_true,beq_iff_eq] at hf;exact hf.1
  have up:Up t.place:=by
   rcases hd with c | c
   ·exact hr c
   ·exact Up.bG (by omega)
  have g:es[i]? = some es[i]:=by simp [hi]
  have gp:t.place[i]? = some (t.place.getD i 0):=by simp [Array.getD,z,hi]
  refine tK (slot:=oV t i) (nx:=oV t (i+1)) (x:=es[i].2) st.1 st.2 (fun A E Q h=>x9 st.2 hb hd (oW up (by omega)) (by rw [g,gp];exact h)) fun h' hit' sb=>?_
  exact q _ h' s.toks ⟨_,g,rfl⟩ ⟨hit',st.2.keep fun o e=>sb.extBut a o hI e⟩ fun b o hb e=>sb.extBut b o (fun z=>hb (by simp [z])) e
 done:=fun s Q E st q=>by
  have z:t.place.size=es.size:=by simp only [SetTable.fits,Bool.and_eq_true,beq_iff_eq] at hf;exact hf.1
  have up:Up t.place:=by
   rcases hd with c | c
   ·exact hr c
   ·exact Up.bG (by omega)
  refine vj (slot:=oV t es.size) hh st.1 st.2 (fun A E Q h=>x9 st.2 hb hd (oW up (by omega)) (by rw [Array.getElem?_eq_none (Nat.le_refl _)];exact h)) fun h' k=>?_
  exact q h' s.toks fun b o hb e=>k b o (fun z=>hb (by simp [z])) e
 self:=fun _ _ _ _ st q=>lV st.1 q
theorem CF {T:Addr} {oT:Obj} {ys:List Nat} (hh:A.handled=none) (hI:a ≠ I) (hT:T ≠ I) (dT:oT.data=.seq (ys.map fun (i:Nat)=>rawInt i).toArray 0) (hp:ys.Perm (List.range es.size)) :
  Walks prog w A I [I,a,T] [I] es.size (fun i v=>∃ e,((ys.filterMap fun k=>es[k]?))[i]? = some e/\e.2=v) (fun i h=>ft h I (.ref T) i a es.size ep/\bo knd h a ks o es ep t/\h.get? T=some oT) where
 sub:=fun b hb=>by simp at hb;simp [hb]
 frame:=fun _ _ _ st k=>⟨st.1.keep fun o e=>k I (by simp) o e,st.2.1.keep fun o e=>k a (by simp) o e,k T (by simp) _ st.2.2⟩
 item:=fun i s Q E hi st q=>by
  have hl:ys.length=es.size:=by rw [hp.length_eq,List.length_range]
  have hin:∀ k ∈ ys,k < es.size:=fun k hk=>List.mem_range.mp (hp.mem_iff.mp hk)
  have h1:ys[i]? = some (ys[i]'(by omega)):=by simp
  have hk:ys[i]'(by omega) < es.size:=hin _ (List.getElem_mem _)
  generalize ys[i]'(by omega)=k at h1 hk
  have hx:es[k]? = some es[k]:=by simp [hk]
  have hv:(ys.filterMap fun k=>es[k]?)[i]? = some es[k]:=by
   rw [nO hin,h1]
   exact hx
  refine zw (k:=k) (x:=es[k]) st.1 st.2.1 st.2.2 dT (by simp [h1,rawInt]) hx fun h' hit' sb=>?_
  exact q _ h' s.toks ⟨_,hv,rfl⟩ ⟨hit',st.2.1.keep fun o e=>sb.extBut a o hI e,sb.extBut T _ hT st.2.2⟩ fun b o hb e=>sb.extBut b o (fun z=>hb (by simp [z])) e
 done:=fun s Q E st q=>by
  have hl:ys.length=es.size:=by rw [hp.length_eq,List.length_range]
  refine Bd hh st.1 st.2.1 st.2.2 dT (by simp [hl]) fun h' k=>?_
  exact q h' s.toks fun b o hb e=>k b o (fun z=>hb (by simp [z])) e
 self:=fun _ _ _ _ st q=>lV st.1 q
theorem lW {b x y:Addr} (h:b ∈ [x,y]):b=x\/b=y:=by simpa using h
theorem zx {b x y z:Addr} (h:b ∈ [x,y,z]):b=x\/b=y\/b=z:=by simpa using h
theorem wq:entryFor table "set.__iter__" = some Builtin.«frozenset.__iter__» :=
 entryFor_alias (id' := "frozenset.__iter__")
  (by kernel_rfl) rfl
  (by decide +kernel)
  (by kernel_rfl)
theorem bo.typeIs (S:bo knd s.heap a ks o es ep t):s.TypeIs (.ref a) "set" := ⟨o,S.at_,S.ex.1⟩
theorem ur {Q:Bool->Shared->Prop} (S:bo knd s.heap a ks o es ep t) (q:Q (!(w.params.followText "set-order") && (!t.plain && decide (es.size > 1))) s):wpAny (model prog w) A (setDrawn a) Q E s:=by
 unfold setDrawn
 refine wpAny_bind (wpAny_setState_of S.at_ S.data S.fits ?_)
 dsimp only
 exact wpAny_bind (mJ (wpAny_pure q))
def Comes (es:Array (Int × Value)) (P:Nat->Value->Prop):Prop:=∃ l:List (Int × Value),l.Perm es.toList/\P=fun i v=>∃ e,l[i]? = some e/\e.2=v
theorem zy {Q:Value->Shared->Prop} (hh:A.handled=none) (S:bo knd s.heap a ks o es ep t)
  (q:∀ (I:Addr) (h':Heap) (d:_) (fp:List Addr) (P:Nat->Value->Prop) (St:Nat->Heap->Prop),(∀ b o,s.heap.get? b=some o->h'.get? b=some o)->s.heap.objs.size<=I->(∀ b ∈ fp,b < h'.objs.size)->(∀ b,h'.objs.size<=b->b ∉ fp) ->
   (∀ b ∈ fp,b=a\/s.heap.objs.size<=b)->Comes es P->(∀ A:Around,A.handled=none->Walks prog w A I fp [I] es.size P St)->St 0 h'->Q (.ref I) { s with heap:=h',drawn:=d }) :
  wpAny (model prog w) A (pyIter (.ref a)) Q E s:=by
 have la:a < s.heap.objs.size:=Heap.lt_size S.at_
 refine wpAny_pyIter_slot S.typeIs PySem.F.slot_set_iter (wpAny_call_entry PySem.F.slot_set_iter S.typeIs wq ?_ (PySem.F.args_set_iter_1 _))
 unfold Builtin.«frozenset.__iter__»
 refine wpAny_bind ?_
 unfold Builtin.Frozenset.slot0
 refine wpAny_bind (wpAny_pure ?_)
 refine wpAny_pure ?_
 refine wpAny_bind ?_
 unfold Builtin.Frozenset.sizeOf
 refine wpAny_bind (wpAny_setEntries_of S.at_ S.data S.fits (wpAny_pure ?_))
 refine wpAny_bind (ur S ?_)
 cases hb:w.params.followText "set-order" with
 | true =>
  rw [Bool.not_true,Bool.false_and,if_neg Bool.false_ne_true]
  refine wpAny_bind (wpAny_pure ?_)
  refine wpAny_bind (wpAny_setEpoch_of S.at_ S.data S.fits ?_)
  refine wpAny_bind ?_
  simp only [newFields]
  refine wpAny_newObj_type (wpAny_pure ⟨_,rfl, "set_iterator",_,⟨_,Heap.get?_push_size _ rfl,rfl⟩,slot_next.lookup,?_⟩) (by size_fits)
  refine q _ _ s.drawn [s.heap.objs.size,a] _ _ (fun b o e=>Heap.get?_push_of_some _ e) (Nat.le_refl _) (fun b hb=>?_) (fun b hb hm=>?_) (fun b hb=>?_) ⟨_,iz (w.params.setOrder a ep) es,?_⟩ (fun A hh=>CB (knd:=knd) (ks:=ks) (o:=o) (t:=t) hh (Nat.ne_of_lt la) hb trivial) ⟨⟨_,Heap.get?_push_size _ rfl,rfl,rfl⟩,S.keep fun o e=>Heap.get?_push_of_some _ e⟩
  ·rw [Heap.size_push]
   rcases lW hb with e | e
   ·rw [e];exact Nat.lt_succ_self _
   ·rw [e];exact Nat.lt_succ_of_lt la
  ·rw [Heap.size_push] at hb
   rcases lW hm with e | e
   ·rw [e] at hb;exact Nat.not_succ_le_self _ hb
   ·rw [e] at hb;exact Nat.lt_irrefl _ (Nat.lt_of_lt_of_le la (Nat.le_of_succ_le hb))
  ·rcases lW hb with e | e
   ·exact .inr (by rw [e];exact Nat.le_refl _)
   ·exact .inl e
  ·funext i v;simp
 | false =>
  rw [Bool.not_false,Bool.true_and]
  by_cases hd:(!t.plain && decide (es.size > 1))=true
  ·rw [hd,if_pos rfl]
   refine wpAny_bind (Df es.size (List.range es.size) s (by simp) fun ys d hp=>?_)
   have hz:(ys.map fun (i:Nat)=>rawInt i).length<=sizeLine:=by rw [List.length_map,hp.length_eq,List.length_range];exact fits_of_scanBound S.bG
   refine wpAny_bind (wpAny_newTuple ?_ hz)
   have S1:bo knd (s.heap.push { cls:=.type "tuple",data:=.seq (ys.map fun (i:Nat)=>rawInt i).toArray }) a ks o es ep t:=S.keep fun o e=>Heap.get?_push_of_some _ e
   refine wpAny_bind (wpAny_setEpoch_of S1.at_ S1.data S1.fits ?_)
   refine wpAny_bind ?_
   simp only [newFields]
   refine wpAny_newObj_type (wpAny_pure ⟨_,rfl, "set_iterator",_,⟨_,Heap.get?_push_size _ rfl,rfl⟩,slot_next.lookup,?_⟩) (by size_fits)
   refine q _ _ d [(s.heap.push { cls:=.type "tuple",data:=.seq (ys.map fun (i:Nat)=>rawInt i).toArray }).objs.size,a,s.heap.objs.size] _ _ (fun b o e=>Heap.get?_push_of_some _ (Heap.get?_push_of_some _ e)) (by rw [Heap.size_push];exact Nat.le_succ _) (fun b hb=>?_) (fun b hb hm=>?_) (fun b hb=>?_) ⟨ys.filterMap fun k=>es[k]?,?_,rfl⟩
    (fun A hh=>CF (knd:=knd) (ks:=ks) (o:=o) (t:=t) (oT:={ cls:=.type "tuple",data:=.seq (ys.map fun (i:Nat)=>rawInt i).toArray }) hh (by rw [Heap.size_push];exact Nat.ne_of_lt (Nat.lt_succ_of_lt la)) (by rw [Heap.size_push];exact Nat.ne_of_lt (Nat.lt_succ_self _)) rfl hp) ⟨⟨_,Heap.get?_push_size _ rfl,rfl,rfl⟩,S1.keep fun o e=>Heap.get?_push_of_some _ e,Heap.get?_push_of_some _ (Heap.get?_push_size _ rfl)⟩
   ·rw [Heap.size_push,Heap.size_push]
    rcases zx hb with e | e | e
    ·rw [e,Heap.size_push];exact Nat.lt_succ_self _
    ·rw [e];exact Nat.lt_succ_of_lt (Nat.lt_succ_of_lt la)
    ·rw [e];exact Nat.lt_succ_of_lt (Nat.lt_succ_self _)
   ·rw [Heap.size_push,Heap.size_push] at hb
    rcases zx hm with e | e | e
    ·rw [e,Heap.size_push] at hb;exact Nat.not_succ_le_self _ hb
    ·rw [e] at hb;exact Nat.lt_irrefl _ (Nat.lt_of_lt_of_le la (Nat.le_of_succ_le (Nat.le_of_succ_le hb)))
    ·rw [e] at hb;exact Nat.not_succ_le_self _ (Nat.le_of_succ_le hb)
   ·rcases zx hb with e | e | e
    ·exact .inr (by rw [e,Heap.size_push];exact Nat.le_succ _)
    ·exact .inl e
    ·exact .inr (by rw [e];exact Nat.le_refl _)
   ·refine (hp.filterMap _).trans ?_
    have:((List.range es.size).filterMap fun k=>es[k]?)=es.toList:=by
     refine List.ext_getElem? fun i=>?_
     rw [nO (fun k hk=>List.mem_range.mp hk)]
     by_cases hi:i < es.size
     ·rw [List.getElem?_range hi];simp
     ·rw [List.getElem?_eq_none (by simp;omega),List.getElem?_eq_none (by simp;omega)];rfl
    rw [this]
  ·rw [if_neg hd]
   refine wpAny_bind (wpAny_pure ?_)
   refine wpAny_bind (wpAny_setEpoch_of S.at_ S.data S.fits ?_)
   refine wpAny_bind ?_
   simp only [newFields]
   refine wpAny_newObj_type (wpAny_pure ⟨_,rfl, "set_iterator",_,⟨_,Heap.get?_push_size _ rfl,rfl⟩,slot_next.lookup,?_⟩) (by size_fits)
   have hd':t.plain=true\/es.size<=1:=by
    cases hp:t.plain with
    | true=>exact .inl rfl
    | false=>right;rw [hp] at hd;simp at hd;exact hd
   refine q _ _ s.drawn [s.heap.objs.size,a] _ _ (fun b o e=>Heap.get?_push_of_some _ e) (Nat.le_refl _) (fun b hb=>?_) (fun b hb hm=>?_) (fun b hb=>?_) ⟨es.toList,.refl _,?_⟩ (fun A hh=>CC (knd:=knd) (ks:=ks) (o:=o) (t:=t) hh (Nat.ne_of_lt la) hb hd' S.fits S.up) ⟨⟨_,Heap.get?_push_size _ rfl,rfl,rfl⟩,S.keep fun o e=>Heap.get?_push_of_some _ e⟩
   ·rw [Heap.size_push]
    rcases lW hb with e | e
    ·rw [e];exact Nat.lt_succ_self _
    ·rw [e];exact Nat.lt_succ_of_lt la
   ·rw [Heap.size_push] at hb
    rcases lW hm with e | e
    ·rw [e] at hb;exact Nat.not_succ_le_self _ hb
    ·rw [e] at hb;exact Nat.lt_irrefl _ (Nat.lt_of_lt_of_le la (Nat.le_of_succ_le hb))
   ·rcases lW hb with e | e
    ·exact .inr (by rw [e];exact Nat.le_refl _)
    ·exact .inl e
   ·funext i v;simp
theorem zA {Q:Bool->Shared->Prop} (hT:s.TypeIs (.ref a) "set") (q:Q false s):wpAny (model prog w) A (Builtin.List.listLengthHint (.ref a)) Q E s:=by
 unfold Builtin.List.listLengthHint
 refine wpAny_bind (wpAny_specialOf hT PySem.F.slot_set_len.lookup ?_)
 generalize hid:("set.__len__" : String)=id0
 wp_delta
 rw [show splitId id0=some ("set", "__len__") from by subst hid;decide +kernel]
 subst hid
 refine wpAny_bind (wpAny_isInstance (T := "set") (b:=true) hT sub_set_self ?_)
 refine wpAny_ite_split (fun hab=>absurd hab (by decide)) (fun _=>?_)
 refine wpAny_ite_split (fun _=>?_) (fun hab=>absurd (by decide +kernel) hab)
 refine wpAny_bind (wpAny_typeOf hT ?_)
 exact wpAny_pure q
end
open PySem.Calls PySem.W
section
variable {prog:Program} {w:World} {K:Type} [DecidableEq K] {knd:KeyKind prog w K}
variable {A:Around} {E:Value->Shared->Prop} {s:Shared} {a:Addr} {ks:List K} {o:Obj} {es:Array (Int × Value)} {ep:Nat} {t:SetTable}
theorem uu {P:Nat->Value->Prop} {got:Array Value} (hc:Comes es P) (hi:ItemsOf P got es.size):∃ l:List (Int × Value),l.Perm es.toList/\got.toList=l.map (·.2):=by
 obtain⟨l,hp,rfl⟩:=hc
 refine⟨l,hp,?_⟩
 have hl:l.length=es.size:=by rw [hp.length_eq,Array.length_toList]
 refine List.ext_getElem? fun i=>?_
 rw [List.getElem?_map]
 by_cases h:i < es.size
 ·have e1:got.toList[i]? = some (got[i]'(by rw [hi.1];exact h)):=by simp [hi.1,h]
  obtain⟨e,he,hv⟩:=hi.2 i _ (by rw [<-Array.getElem?_toList];exact e1)
  rw [e1,he,<-hv];rfl
 ·rw [List.getElem?_eq_none (by rw [Array.length_toList,hi.1];omega),List.getElem?_eq_none (by omega)];rfl
theorem wu {R:Result->Shared->Prop} (hh:A.handled=none) (S:bo knd s.heap a ks o es ep t) (L:Addr) (hLa:L ≠ a) (hL:s.heap.get? L=some { cls:=.type "list",data:=.seq #[] 0 }) (res:Value)
  (fin:∀ (g:Heap) (tk:Nat) (d:_) (got:Array Value) (c:Nat),(∀ b o,b ≠ L->s.heap.get? b=some o->g.get? b=some o)->g.get? L=some { cls:=.type "list",dict:=none,data:=.seq got c,slots:=#[] } ->
   (∃ l:List (Int × Value),l.Perm es.toList/\got.toList=l.map (·.2))->R (.ok (.ret res)) { s with heap:=g,toks:=tk,drawn:=d }) :
  wpAny (model prog w) A.in1 (Builtin.List.listExtendWith (.ref L) (.ref a) res)
   (fun fin s'=>match fin with | .done f=>R (.ok f) s' | .again c'=>c'.quiet=true/\codeAny (model prog w) A c' R s') (fun e s'=>R (.error e) s') s:=by
 have hz:es.size<=sizeLine:=fits_of_scanBound S.bG
 unfold Builtin.List.listExtendWith
 refine wpAny_bind (wpAny_typeOf S.typeIs ?_)
 have h1:Builtin.List.listSameRef (.ref L) (.ref a)=false:=by simp [Builtin.List.listSameRef,hLa]
 rw [h1]
 have h2:(Value.type "set" == Value.type "list")=false:=by decide
 have h3:(Value.type "set" == Value.type "tuple")=false:=by decide
 rw [h2,h3]
 rw [if_neg (by decide)]
 refine wpAny_bind (zy (A:=A.in1) hh S fun I h1 d fp P St keep hI hfp hnew hof hc W st=>?_)
 have hLlt:L < s.heap.objs.size:=Heap.lt_size hL
 have hLf:L ∉ fp:=fun hm=>by
  rcases hof L hm with e | e
  ·exact hLa e
  ·exact Nat.lt_irrefl _ (Nat.lt_of_lt_of_le hLlt e)
 have hLI:L ≠ I:=fun e=>Nat.lt_irrefl _ (Nat.lt_of_lt_of_le hLlt (e ▸ hI))
 have Wk:=W A.in1 hh
 have loop:∀ (g:Heap) (c tk:Nat),St 0 g->(∀ b o,b ≠ L->s.heap.get? b=some o->g.get? b=some o)->g.get? L=some { cls:=.type "list",data:=.seq #[] c } ->
   codeAny (model prog w) A (.builtin "list.extend.loop" ⟨[.ref L,.ref I,res],[]⟩) R { s with heap:=g,toks:=tk,drawn:=d }:=by
  intro g c tk st' kp gL
  refine codeAny_extend_loopS Wk.toS hz L hLf res es.size 0 _ #[] c rfl (Nat.zero_le _) st' gL (ItemsOf.nil _) fun s' got c' mv gL' its=>?_
  have e:=Moved.eq_with mv
  rw [e]
  refine fin s'.heap s'.toks d got c' (fun b o hb e=>mv.heap b o (fun hm=>?_) (kp b o hb e)) gL' (uu hc its)
  rcases List.mem_cons.mp hm with e' | hm
  ·exact hb e'
  ·rw [List.mem_singleton] at hm
   subst hm
   exact Nat.lt_irrefl _ (Nat.lt_of_lt_of_le (Heap.lt_size e) hI)
 have gL1:=keep _ _ hL
 refine wpAny_bind (wpAny_holding (zA ⟨o,keep _ _ S.at_,S.ex.1⟩ ?_))
 refine wpAny_ite_split (fun _=>?_) (fun _=>wpAny_pure ⟨plainId_quiet PySem.F.plain_extend_loop _,loop _ 0 _ st (fun b o _ e=>keep b o e) gL1⟩)
 refine wpAny_bind (wpAny_rule ?_)
 refine wpAny_bind ?_
 show wpAny _ _ (updateSeq L (·.push .none) >>= fun _=>updateSeq L (·.pop)) _ _ _
 refine wpAny_bind (wpAny_updateSeq gL1 rfl ?_)
 have gL2:=Heap.get?_update_self (Obj.mapSeq (·.push Value.none)) gL1 rfl
 refine wpAny_updateSeq (hz:=by seq_fits) gL2 rfl ?_
 have gL3:=Heap.get?_update_self (Obj.mapSeq (·.pop)) gL2 rfl
 refine wpAny_pure ⟨plainId_quiet PySem.F.plain_extend_loop _,loop _ _ _ ?_ (fun b o hb e=>?_) gL3⟩
 ·refine Wk.frame 0 _ _ st fun b hb o e=>?_
  have hbL:b ≠ L:=fun h=>hLf (h ▸ hb)
  exact (Heap.get?_update_other _ _ (Ne.symm hbL)).trans ((Heap.get?_update_other _ _ (Ne.symm hbL)).trans e)
 ·exact (Heap.get?_update_other _ _ (Ne.symm hb)).trans ((Heap.get?_update_other _ _ (Ne.symm hb)).trans (keep b o e))
theorem oX {G:List Value->Shared->Prop} (calm:A.handled=none) (S:bo knd s.heap a ks o es ep t)
  (fin:∀ (g:Heap) (tk:Nat) (d:_) (got:Array Value),(∀ b o,s.heap.get? b=some o->g.get? b=some o)->(∃ l:List (Int × Value),l.Perm es.toList/\got.toList=l.map (·.2))->s.heap.objs.size<=g.objs.size->G got.toList { s with heap:=g,toks:=tk,drawn:=d }) :
  wpAny (model prog w) A (collect (.ref a)) G E s:=by
 have la:a < s.heap.objs.size:=Heap.lt_size S.at_
 unfold collect
 refine wpAny_bind (wpAny_runValue (codeAny_builtin entry_proto_collect' ?_))
 rw [Around.under_plainId PySem.F.plain_proto_collect _]
 show wpAny _ A.in1 (newList [] >>= fun z=>again (.builtin "list.__iadd__" ⟨[z,.ref a],[]⟩)) _ _ s
 refine wpAny_bind (wpAny_newObj_type (wpAny_pure ⟨plainId_quiet PySem.F.plain_list_iadd _,codeAny_builtin entry_list_iadd' ?_⟩))
 rw [Around.under_plainId PySem.F.plain_list_iadd _]
 show wpAny _ A.in1 (Builtin.List.listExtendWith (.ref s.heap.objs.size) (.ref a) (.ref s.heap.objs.size)) _ _ _
 have made:(s.heap.push { cls:=.type "list",data:=.seq ([]:List Value).toArray }).get? s.heap.objs.size=some { cls:=.type "list",data:=.seq #[] 0 }:=Heap.get?_push_size _ rfl
 have run:=wu (A:=A) (s:={ s with heap:=s.heap.push { cls:=.type "list",data:=.seq ([]:List Value).toArray } })
  (R:=fun (z:Result) (t:Shared)=>∃ (g:Heap) (tk:Nat) (d:_) (got:Array Value) (c:Nat),z=.ok (.ret (.ref s.heap.objs.size))/\t = { s with heap:=g,toks:=tk,drawn:=d } /\
   (∀ b o,s.heap.get? b=some o->g.get? b=some o)/\g.get? s.heap.objs.size=some { cls:=.type "list",dict:=none,data:=.seq got c,slots:=#[] }/\∃ l:List (Int × Value),l.Perm es.toList/\got.toList=l.map (·.2))
  calm (S.keep fun o e=>Heap.get?_push_of_some _ e) s.heap.objs.size (Nat.ne_of_gt la) made (.ref s.heap.objs.size)
  (fun g tk d got c kept at_ its=>⟨g,tk,d,got,c,rfl,rfl,fun b o e=>kept b o (Nat.ne_of_lt (Heap.lt_size e)) (Heap.get?_push_of_some _ e),at_,its⟩)
 refine wpAny_mono run (fun z t x=>?_) fun z t ⟨_,_,_,_,_,bad,_⟩=>by cases bad
 cases z with
 | done f =>
  obtain⟨g,tk,d,got,c,e,rfl,kept,at_,its⟩:=x
  cases e
  show wpAny _ A (load s.heap.objs.size >>= _) _ _ _
  exact wpAny_bind (wpAny_load at_ (wpAny_pure (fin g tk d got kept its (Nat.le_of_lt (Heap.lt_size at_)))))
 | again more =>
  refine⟨x.1,codeAny_mono x.2 fun z' t' ⟨g,tk,d,got,c,e1,e2,kept,at_,its⟩=>?_⟩
  subst e1 e2
  show wpAny _ A (load s.heap.objs.size >>= _) _ _ _
  exact wpAny_bind (wpAny_load at_ (wpAny_pure (fin g tk d got kept its (Nat.le_of_lt (Heap.lt_size at_)))))
end
end LS
namespace L2
open PySem PySem.Spec PyProof.Rows LS
theorem uv {P:Program} {w:World} {i:Int} {v:Value} (h:(aP P w).is (Sum.inl i) v=true):∃ t,v=.int i t:=by
 rcases cJ (show iF (Sum.inl i) v=true from h) with ⟨j,t,e,rfl⟩ | ⟨x,t,e,rfl⟩
 ·cases e;exact⟨t,rfl⟩
 ·cases e
def oY (m:List Key):List Str:=m.filterMap fun k=>match k with | .inr x=>some x | .inl _=>none
def oZ (m:List Key):List Int:=m.filterMap fun k=>match k with | .inl x=>some x | .inr _=>none
theorem ya (ss:List Str):oY (ss.map Sum.inr)=ss:=by
 induction ss with
 | nil=>rfl
 | cons x ss ih=>show x :: oY (ss.map Sum.inr)=x :: ss;rw [ih]
theorem yb (ss:List Int):oZ (ss.map Sum.inl)=ss:=by
 induction ss with
 | nil=>rfl
 | cons x ss ih=>show x :: oZ (ss.map Sum.inl)=x :: ss;rw [ih]
theorem zB {m:List Key} {ss:List Str} (p:m.Perm (ss.map Sum.inr)):m=(oY m).map Sum.inr/\(oY m).Perm ss:=by
 refine⟨?_,by have:=p.filterMap (fun k:Key=>match k with | .inr x=>some x | .inl _=>none);rw [show List.filterMap _ (ss.map Sum.inr)=ss from ya ss] at this;exact this⟩
 have hall:∀ k ∈ m,∃ x,k=Sum.inr x:=fun k hk=>by
  obtain⟨x,_,rfl⟩:=List.mem_map.mp (p.mem_iff.mp hk)
  exact⟨x,rfl⟩
 clear p
 induction m with
 | nil=>rfl
 | cons k m ih =>
  obtain⟨x,rfl⟩:=hall k (List.mem_cons_self ..)
  have:=ih fun k hk=>hall k (List.mem_cons_of_mem _ hk)
  show Sum.inr x :: m=Sum.inr x :: (oY m).map Sum.inr
  rw [<-this]
theorem zC {m:List Key} {ss:List Int} (p:m.Perm (ss.map Sum.inl)):m=(oZ m).map Sum.inl/\(oZ m).Perm ss:=by
 refine⟨?_,by have:=p.filterMap (fun k:Key=>match k with | .inl x=>some x | .inr _=>none);rw [show List.filterMap _ (ss.map Sum.inl)=ss from yb ss] at this;exact this⟩
 have hall:∀ k ∈ m,∃ x,k=Sum.inl x:=fun k hk=>by
  obtain⟨x,_,rfl⟩:=List.mem_map.mp (p.mem_iff.mp hk)
  exact⟨x,rfl⟩
 clear p
 induction m with
 | nil=>rfl
 | cons k m ih =>
  obtain⟨x,rfl⟩:=hall k (List.mem_cons_self ..)
  have:=ih fun k hk=>hall k (List.mem_cons_of_mem _ hk)
  show Sum.inl x :: m=Sum.inl x :: (oZ m).map Sum.inl
  rw [<-this]
section
variable {prog:Program} {w:World} {A:Around} {E:Value->Shared->Prop} {s:Shared} {a:Addr} {ks:List Key} {o:Obj} {es:Array (Int × Value)} {ep:Nat} {t:SetTable}
theorem tL {got:List Value} (S:LS.bo (aP prog w) s.heap a ks o es ep t) (h:∃ l:List (Int × Value),l.Perm es.toList/\got=l.map (·.2)):∃ m:List Key,m.Perm ks/\Paired (fun v k=>(aP prog w).is k v=true) got m:=by
 obtain⟨l,hp,rfl⟩:=h
 obtain⟨ls,q1,q2⟩:=S.ents
 obtain⟨m,m1,m2⟩:=jX hp q2
 refine⟨m,m1.trans q1,?_⟩
 clear hp q2 m1
 induction m2 with
 | nil=>exact .nil
 | cons r _ ih=>exact .cons r.1 ih
theorem lX:∀ {got:List Value} {ss:List Str},Paired (fun v k=>(aP prog w).is k v=true) got (ss.map Sum.inr)->StrsAre got ss
 | _,[],.nil=>.nil
 | _,x :: ss,.cons r t=>by
  obtain⟨t',rfl⟩:=m7 r
  exact .cons x t' (lX t)
theorem lY:∀ {got:List Value} {ss:List Int},Paired (fun v k=>(aP prog w).is k v=true) got (ss.map Sum.inl)->IntsAre got ss
 | _,[],.nil=>.nil
 | _,x :: ss,.cons r t=>by
  obtain⟨t',rfl⟩:=uv r
  exact .cons x t' (lY t)
theorem uw {ss:List Str} {Q:Value->Shared->Prop} (hh:A.handled=none) (S:LS.bo (aP prog w) s.heap a (ss.map Sum.inr) o es ep t) (h64:ss.length < 64)
  (q:∀ (h':Heap) (tk:Nat) (d:_) (D:Addr) (out:Array Value) (ss':List Str) (e:Nat),(∀ b o,s.heap.get? b=some o->h'.get? b=some o)->s.heap.objs.size<=D->h'.get? D=some { cls:=.type "list",data:=.seq out e } ->
   StrsAre out.toList ss'->ss'.Perm ss->sortedS ss' = true->Q (.ref D) { s with heap:=h',toks:=tk,drawn:=d }) :
  wpAny (model prog w) A (call (.builtin "sorted") [.ref a]) Q E s:=by
 refine Calls.call_function_entry kind_sorted plain_sorted entry_sorted (args_sorted1 _) ?_
 unfold Builtin.«sorted»
 refine wpAny_bind (m:=checkCount "sorted" 1 1 _) (wpAny_pure ?_)
 refine wpAny_bind (oX (A:=A.in1) hh S fun h' tk d acc hkeep hacc hsz=>?_)
 obtain⟨m,m1,m2⟩:=tL S hacc
 obtain⟨e1,p1⟩:=zB m1
 rw [e1] at m2
 have hS:=lX m2
 have hl:acc.toList.length < 64:=by rw [m2.length,List.length_map,p1.length_eq];exact h64
 refine wpAny_bind (wpAny_newList ?_ (Nat.le_trans (Nat.le_of_lt hl) (by decide)))
 have hoL:(h'.push (seqObj "list" acc.toList.toArray 0)).get? h'.objs.size=some (seqObj "list" acc.toList.toArray 0):=Heap.get?_push_size _ rfl
 refine wpAny_bind (wpAny_holding (wpAny_call_entry slot_list_sort ⟨_,hoL,rfl⟩ entry_list_sort (list_sort_treeK strKind_oneLt hoL hS.keysOf (fun v₁ v₂ rest e=>keyKind_strs (by rw [<-e];exact hS)) hl fun st' a1 a2=>⟨_,rfl,?_⟩) (args_list_sort _)))
 obtain⟨ss',b1,b2,b3⟩:=sorted_out_str hS a1 a2
 obtain⟨e,he⟩:=sortedHeap_at (out:=(arrOf st').map (·.2)) hoL
 refine wpAny_pure ⟨_,rfl,q _ tk d _ _ ss' e (fun b o ho=>?_) hsz he b1 (b2.trans p1) b3⟩
 have h1:=hkeep b o ho
 have hlt:=Heap.lt_size h1
 rw [sortedHeap_old (Nat.ne_of_lt hlt) (by rw [size_push'];exact Nat.lt_succ_of_lt hlt)]
 exact Heap.get?_push_of_some _ h1
theorem ux {ss:List Int} {Q:Value->Shared->Prop} (hh:A.handled=none) (S:LS.bo (aP prog w) s.heap a (ss.map Sum.inl) o es ep t) (h64:ss.length < 64)
  (q:∀ (h':Heap) (tk:Nat) (d:_) (D:Addr) (out:Array Value) (ss':List Int) (e:Nat),(∀ b o,s.heap.get? b=some o->h'.get? b=some o)->s.heap.objs.size<=D->h'.get? D=some { cls:=.type "list",data:=.seq out e } ->
   IntsAre out.toList ss'->ss'.Perm ss->ss'.Pairwise (· <= ·)->Q (.ref D) { s with heap:=h',toks:=tk,drawn:=d }) :
  wpAny (model prog w) A (call (.builtin "sorted") [.ref a]) Q E s:=by
 refine Calls.call_function_entry kind_sorted plain_sorted entry_sorted (args_sorted1 _) ?_
 unfold Builtin.«sorted»
 refine wpAny_bind (m:=checkCount "sorted" 1 1 _) (wpAny_pure ?_)
 refine wpAny_bind (oX (A:=A.in1) hh S fun h' tk d acc hkeep hacc hsz=>?_)
 obtain⟨m,m1,m2⟩:=tL S hacc
 obtain⟨e1,p1⟩:=zC m1
 rw [e1] at m2
 have hS:=lY m2
 have hl:acc.toList.length < 64:=by rw [m2.length,List.length_map,p1.length_eq];exact h64
 refine wpAny_bind (wpAny_newList ?_ (Nat.le_trans (Nat.le_of_lt hl) (by decide)))
 have hoL:(h'.push (seqObj "list" acc.toList.toArray 0)).get? h'.objs.size=some (seqObj "list" acc.toList.toArray 0):=Heap.get?_push_size _ rfl
 refine wpAny_bind (wpAny_holding (wpAny_call_entry slot_list_sort ⟨_,hoL,rfl⟩ entry_list_sort (list_sort_tree hoL hS hl fun out ss' b1 b2 b3=>⟨_,rfl,?_⟩) (args_list_sort _)))
 obtain⟨e,he⟩:=sortedHeap_at (out:=out) hoL
 refine wpAny_pure ⟨_,rfl,q _ tk d _ _ ss' e (fun b o ho=>?_) hsz he b1 (b2.trans p1) b3⟩
 have h1:=hkeep b o ho
 have hlt:=Heap.lt_size h1
 rw [sortedHeap_old (Nat.ne_of_lt hlt) (by rw [size_push'];exact Nat.lt_succ_of_lt hlt)]
 exact Heap.get?_push_of_some _ h1
end
def cD (P:Program) (w:World) (a:Addr) (ks:List Key):HO:=.ext fun h=>eQ (aP P w) h a ks
theorem kf {P:Program} {w:World} {H:Hp} {h:Heap} {a:Addr} {ks:List Key} (S:eQ (aP P w) h a ks):cf P w H h a (cD P w a ks) :=
 ⟨S,let ⟨o,_,_,_,S⟩:=S;⟨o,S.at_⟩,fun h1 h2 S k=>S.keep k⟩
section
variable {X:Cx} {pins:List (Addr × Obj)} {σ : List (Option V)} {H:Hp} {s:Shared}
theorem Inv.qh {a:Addr} {ks:List Key} (I:Inv X pins σ H s) (h:H a=some (cD X.prog X.w a ks)):eQ (aP X.prog X.w) s.heap a ks:=(I.aT a _ h).1
theorem Inv.vk {d:_} (I:Inv X pins σ H s):Inv X pins σ H { s with drawn:=d }:=⟨I.ok,I.os,I.bare,I.base,I.loc,I.cell,I.free,I.gP,I.pin,I.aT,I.len⟩
theorem rL (hc:X.calm=true):eU X (.builtin "sorted") (fun vs H Q=>∃ (a:Addr) (ss:List Str),vs = [.ref a]/\H a=some (cD X.prog X.w a (ss.map Sum.inr))/\ss.length < 64 /\
  ∀ (l:Addr) (ss':List Str),ss'.Perm ss->sortedS ss' = true->H l=none->Q (.ref l) (upd H l (.lst (ss'.map V.str)))):=by
 intro pins s σ H xs us Q I r h
 obtain⟨a,ss,rfl,ha,h64,q⟩:=h
 obtain⟨u,rfl,ru⟩:=vals1 r
 cases (show u=Value.ref a from ru)
 obtain⟨o,es,ep,t,S⟩:=I.qh ha
 refine uw (I.ok.hd hc) S h64 fun h' tk d D out ss' e hkeep hD he hS hp hs=>?_
 have hv:Vals (ss'.map V.str) out.toList:=qf hS
 refine⟨.ref D,_,(I.vk (d:=d)).laid (t':=tk) (o:=.lst (ss'.map V.str)) hkeep hD (show cf X.prog X.w _ h' _ (.lst (ss'.map V.str)) from ⟨?_,out.toList,e,hv,by simpa using he⟩),rfl,q D ss' hp hs (I.aT.fresh hD)⟩
 rw [List.length_map,hp.length_eq]
 exact Nat.le_trans (Nat.le_of_lt h64) (by decide)
theorem kX (hc:X.calm=true):eU X (.builtin "sorted") (fun vs H Q=>∃ (a:Addr) (ss:List Int),vs = [.ref a]/\H a=some (cD X.prog X.w a (ss.map Sum.inl))/\ss.length < 64 /\
  ∀ (l:Addr) (ss':List Int),ss'.Perm ss->ss'.Pairwise (· <= ·)->H l=none->Q (.ref l) (upd H l (.lst (ss'.map V.int)))):=by
 intro pins s σ H xs us Q I r h
 obtain⟨a,ss,rfl,ha,h64,q⟩:=h
 obtain⟨u,rfl,ru⟩:=vals1 r
 cases (show u=Value.ref a from ru)
 obtain⟨o,es,ep,t,S⟩:=I.qh ha
 refine ux (I.ok.hd hc) S h64 fun h' tk d D out ss' e hkeep hD he hS hp hs=>?_
 have hv:Vals (ss'.map V.int) out.toList:=lK hS
 refine⟨.ref D,_,(I.vk (d:=d)).laid (t':=tk) (o:=.lst (ss'.map V.int)) hkeep hD (show cf X.prog X.w _ h' _ (.lst (ss'.map V.int)) from ⟨?_,out.toList,e,hv,by simpa using he⟩),rfl,q D ss' hp hs (I.aT.fresh hD)⟩
 rw [List.length_map,hp.length_eq]
 exact Nat.le_trans (Nat.le_of_lt h64) (by decide)
end
end L2
namespace LS
open PySem PySem.Spec PyProof.Rows L2
section
variable {K:Type} [DecidableEq K]
def putIn (acc:List K) (k:K):List K:=if k ∈ acc then acc else acc ++ [k]
def dI (ms:List K):List K:=ms.foldl putIn []
theorem iN {acc:List K} {k x:K}:x ∈ putIn acc k ↔ x ∈ acc\/x=k:=by
 unfold putIn
 split
 ·rename_i h
  exact⟨.inl,fun z=>z.elim id (fun e=>e ▸ h)⟩
 ·simp
theorem yc (acc:List K) (k:K):(putIn acc k).length<=acc.length+1:=by unfold putIn;split <;> simp
theorem tM:∀ (ms acc:List K) (x:K),x ∈ ms.foldl putIn acc ↔ x ∈ acc\/x ∈ ms
 | [],acc,x=>by simp
 | k :: ms,acc,x=>by
  rw [List.foldl_cons,tM ms,iN]
  simp [or_assoc]
theorem qY {ms:List K} {x:K}:x ∈ dI ms ↔ x ∈ ms:=by unfold dI;rw [tM];simp
theorem tN:∀ (ms acc:List K),(ms.foldl putIn acc).length<=acc.length+ms.length
 | [],acc=>by simp
 | k :: ms,acc=>by
  rw [List.foldl_cons]
  have:=tN ms (putIn acc k)
  have:=yc acc k
  simp only [List.length_cons];omega
theorem vm:∀ (ms acc:List K),acc.Nodup->(ms.foldl putIn acc).Nodup
 | [],acc,h=>h
 | k :: ms,acc,h=>by
  rw [List.foldl_cons]
  refine vm ms _ ?_
  unfold putIn
  split
  ·exact h
  ·rename_i hn
   rw [List.nodup_append]
   exact⟨h,by simp,fun a ha b hb e=>hn (by rw [List.mem_singleton] at hb;rw [<-hb,<-e];exact ha)⟩
theorem tO (ms:List K):(dI ms).Nodup:=vm ms [] List.nodup_nil
end
section
variable {prog:Program} {w:World} {A:Around} {E:Value->Shared->Prop} {s:Shared}
theorem tP {k:Key} {v:Value} (h:(aP prog w).is k v=true):v.scannable=true:=by
 rcases cJ (show iF k v=true from h) with ⟨j,t,_,rfl⟩ | ⟨x,t,_,rfl⟩ <;> rfl
theorem qi {a:Addr} {ks:List Key} {k:Key} {v:Value} {Q:Bool->Shared->Prop} (hk:(aP prog w).is k v=true) (S:eQ (aP prog w) s.heap a ks) (room:ks.length+1 < scanBound)
  (q:∀ h',Heap.SameBut a s.heap h'->eQ (aP prog w) h' a (putIn ks k)->∀ c:Bool,Q c { s with heap:=h',toks:=s.toks+1 }):wpAny (model prog w) A (setAdd a v) Q E s:=by
 unfold setAdd
 refine wpAny_holding ?_
 refine wpAny_bind ((aP prog w).pyHash hk ?_)
 exact wm (s:={ s with toks:=s.toks+1 }) hk (tP hk) S room fun h' b S'=>q h' b S' _
theorem zD {a:Addr} {ks:List Key} {k:Key} {v:Value} {Q:Value->Shared->Prop} (hk:(aP prog w).is k v=true) (S:eQ (aP prog w) s.heap a ks) (room:ks.length+1 < scanBound)
  (q:∀ h',Heap.SameBut a s.heap h'->eQ (aP prog w) h' a (putIn ks k)->Q .none { s with heap:=h',toks:=s.toks+1 }):wpAny (model prog w) A (call (.builtin "set.add") [.ref a,v]) Q E s:=by
 refine wpAny_call_entry PySem.F.slot_set_add S.setOf.typeIs PySem.F.entry_set_add ?_ (PySem.F.args_set_add_2 _ _)
 unfold Builtin.«set.add» Builtin.Frozenset.oneOther
 simp only [List.isEmpty_nil,bind_assoc]
 unfold Builtin.Frozenset.addrOf
 refine wpAny_bind (wpAny_pure ?_)
 refine wpAny_bind (wpAny_pure ?_)
 refine wpAny_bind (qi hk S room fun h' b S' _=>?_)
 exact wpAny_pure ⟨_,rfl,q h' b S'⟩
theorem yd {I L:Addr} {fp wr:List Addr} {G:Array GenState->Array GenState->Prop} {n:Nat} {P:Nat->Value->Prop} {St:Nat->Shared->Prop} {R:Result->Shared->Prop} (W:WalksS prog w A.in1 I fp wr G n P St) (hLf:L ∉ fp)
  (ms:List Key) (hl:ms.length=n) (hm:∀ i v,P i v->∃ k,ms[i]? = some k/\(aP prog w).is k v=true) (hb:n+1 < scanBound) :
  ∀ (k i:Nat) (s:Shared),n - i=k->i<=n->St i s->eQ (aP prog w) s.heap L (dI (ms.take i)) ->
   (∀ s',Moved (L :: wr) G s s'->eQ (aP prog w) s'.heap L (dI ms)->R (.ok (.ret .none)) s') ->
   codeAny (model prog w) A (.builtin "set.update.loop" ⟨[.ref L,.ref I],[]⟩) R s:=by
 have hLw:L ∉ wr:=fun h=>hLf (W.sub _ h)
 intro k
 induction k with
 | zero =>
  intro i s hk hi st S q
  have e:i=n:=by omega
  subst e
  refine codeAny_builtin PyProof.Rows.F.entry_set_update_loop ?_
  rw [Around.under_plainId PyProof.Rows.F.plain_set_update_loop _]
  show wpAny _ A.in1 (pyNext (.ref I) >>= _) _ _ s
  refine wpAny_bind (W.done s _ _ st fun s' mv=>?_)
  refine wpAny_pure (q s' (mv.mono fun b hb=>List.mem_cons_of_mem _ hb) ?_)
  rw [List.take_of_length_le (by omega)] at S
  exact S.keep fun o e=>mv.heap L _ hLw e
 | succ k ih =>
  intro i s hk hi st S q
  have hlt:i < n:=by omega
  refine codeAny_builtin PyProof.Rows.F.entry_set_update_loop ?_
  rw [Around.under_plainId PyProof.Rows.F.plain_set_update_loop _]
  show wpAny _ A.in1 (pyNext (.ref I) >>= _) _ _ s
  refine wpAny_bind (W.item i s _ _ hlt st fun v s' hP st' mv=>?_)
  obtain⟨key,hkey,his⟩:=hm i v hP
  have S':eQ (aP prog w) s'.heap L (dI (ms.take i)):=S.keep fun o e=>mv.heap L _ hLw e
  refine wpAny_bind (wpAny_holding (qi his S' ?_ fun h' sb S2 _=>?_))
  ·have h1:=tN (ms.take i) []
   have h2:(ms.take i).length<=i:=by rw [List.length_take];omega
   have h3:(dI (ms.take i)).length<=0+(ms.take i).length:=h1
   omega
  ·have e1:putIn (dI (ms.take i)) key=dI (ms.take (i+1)):=by
    unfold dI
    rw [List.take_add_one,hkey,List.foldl_append];rfl
   rw [e1] at S2
   refine wpAny_pure ⟨plainId_quiet PyProof.Rows.F.plain_set_update_loop _,ih (i+1) _ (by omega) hlt (W.frame _ s' _ _ st' (Nat.le_succ _) fun b hb o e=>?_) S2 fun s'' mv2 S3=>?_⟩
   ·rw [sb.2 b (fun h:b=L=>hLf (by rw [<-h];exact hb))];exact e
   ·refine q s'' (Moved.trans W.gtrans ((mv.mono fun b hb=>List.mem_cons_of_mem _ hb).then_heap (Nat.le_succ _) fun b o hb e=>?_) mv2) S3
    rw [sb.2 b (fun h:b=L=>hb (by rw [h];exact List.mem_cons_self))];exact e
end
theorem kF {α β : Type} {F:α->β->Prop}:∀ {l:List α} {m:List β},Paired F l m->∀ {i:Nat} {x:α},l[i]? = some x->∃ y,m[i]? = some y/\F x y
 | _,_,.nil,i,x,e=>by simp at e
 | _,_,.cons r _,0,x,e=>by simp at e;subst e;exact⟨_,rfl,r⟩
 | _,_,.cons _ t,i+1,x,e=>by simpa using kF t (i:=i) (x:=x) (by simpa using e)
def cQ (w:World):Obj:={ cls:=.type "set",dict:=none,data:=.set #[] 0 (.fresh 0 0 (!(w.params.followText "set-order"))) }
section
variable {prog:Program} {w:World} {A:Around} {E:Value->Shared->Prop} {s:Shared}
theorem ye (rest:List Value) (hc:checkBuiltinCall "set.__new__" ⟨.type "set" :: rest,[]⟩=pure ()) {Q:Value->Shared->Prop} (q:Q (.ref s.heap.objs.size) { s with heap:=s.heap.push (cQ w) }) :
  codeAny (model prog w) A (.call (.builtin "set.__new__") ⟨.type "set" :: rest,[]⟩) (wants Q E) s:=by
 refine codeAny_of_tree ?_
 show wpAny _ A.in1 (checkBuiltinCall "set.__new__" ⟨.type "set" :: rest,[]⟩ >>= fun _=>again (.builtin "set.__new__" ⟨.type "set" :: rest,[]⟩)) _ _ s
 refine wpAny_bind (wpAny_of_eq hc (wpAny_pure ⟨plainId_quiet PySem.F.plain_set_new _,codeAny_builtin PySem.F.entry_set_new ?_⟩))
 rw [Around.under_plainId PySem.F.plain_set_new _]
 unfold Builtin.«set.__new__» Builtin.Frozenset.newClass
 have hsub:=sub_set_self
 obtain⟨hp,g,d,tk,os⟩:=s
 dsimp only
 wp_walk
 refine wpAny_askSetting (wpAny_pure ?_)
 dsimp only
 simp only [newObj]
 refine wpAny_bind (wpAny_alloc (wpAny_pure ?_))
 exact wpAny_pure q
theorem tQ {rest:List Value} {Q:Value->Shared->Prop} (hct:checkTypeCall "set" ⟨rest,[]⟩=pure ()) (hcn:checkBuiltinCall "set.__new__" ⟨.type "set" :: rest,[]⟩=pure ())
  (hci:∀ (M:Model) (A:Around) (E:Value->Shared->Prop) (s':Shared) (Q':Unit->Shared->Prop),s'.TypeIs (.ref s.heap.objs.size) "set" -> Q' () s'->wpAny M A (checkBuiltinCall "set.__init__" ⟨.ref s.heap.objs.size :: rest,[]⟩) Q' E s')
  (init:∀ (R:Result->Shared->Prop),(∀ h' tk,(∀ b o,s.heap.get? b=some o->h'.get? b=some o)->Q (.ref s.heap.objs.size) { s with heap:=h',toks:=tk }->R (.ok (.ret .none)) { s with heap:=h',toks:=tk }) ->
   wpAny (model prog w) A.in1.in1 (Builtin.«set.__init__» ⟨.ref s.heap.objs.size :: rest,[]⟩) (fun fin s'=>match fin with | .done f=>R (.ok f) s' | .again c'=>c'.quiet=true/\codeAny (model prog w) A.in1 c' R s') (fun e s'=>R (.error e) s')
    { s with heap:=s.heap.push (cQ w) }) :
  wpAny (model prog w) A (call (.type "set") rest) Q E s:=by
 obtain⟨c,tl,hmro⟩:=PySem.F.called_set.mro
 have hmade:=PySem.F.called_set.made
 have hsub:=PySem.F.called_set.sub
 refine wpAny_call (codeAny_of_tree ?_)
 show wpAny _ _ (callAny (.type "set") _) _ _ _
 refine wpAny_pure ⟨Code.quiet_builtin _ (by decide +kernel),codeAny_builtin PySem.F.entry_type_call ?_⟩
 rw [Around.under_plain (weight_type_call_type "set" rest []) rfl]
 have h1:=PySem.F.called_set.notType
 have h2:=PySem.F.called_set.canCreate
 repeat (any_goals (first | assumption | wp_step))
 refine codeAny_mono (ye (w:=w) rest hcn (E:=E) (Q:=fun obj s₁=>obj=.ref s.heap.objs.size/\s₁ = { s with heap:=s.heap.push (cQ w) }) ⟨rfl,rfl⟩) fun r s₁ hr=>?_
 cases r with
 | error e=>exact hr
 | ok fl =>
  cases fl with
  | ret obj =>
   obtain⟨rfl,rfl⟩:=hr
   have hS:(s.heap.push (cQ w)).get? s.heap.objs.size=some (cQ w):=Heap.get?_push_size _ rfl
   have hT:Shared.TypeIs { s with heap:=s.heap.push (cQ w) } (.ref s.heap.objs.size) "set" := ⟨_,hS,rfl⟩
   have hli:=PySem.F.called_set.init.lookup
   have hbi:=PySem.F.called_set.init.bind (.ref s.heap.objs.size)
   repeat (any_goals (first | assumption | wp_step))
   refine codeAny_mono (codeAny_call_builtin (R:=wants (fun r s₂=>r=.none/\Q (.ref s.heap.objs.size) s₂) E) PySem.F.called_set.init.plain PySem.F.entry_set_init (hci _ _ _ _ _ hT (init _ fun h' tk _ q=>⟨rfl,q⟩))) fun r₂ s₂ hr₂=>?_
   cases r₂ with
   | error e=>exact hr₂
   | ok fl₂ =>
    cases fl₂ with
    | ret r =>
     obtain⟨rfl,hq⟩:=hr₂
     repeat (any_goals (first | assumption | wp_step))
    | _=>exact hr₂.elim
  | _=>exact hr.elim
theorem yf {Q:Value->Shared->Prop} (q:∀ h',eQ (aP prog w) h' s.heap.objs.size []->(∀ b o,s.heap.get? b=some o->h'.get? b=some o)->Q (.ref s.heap.objs.size) { s with heap:=h' }):wpAny (model prog w) A (call (.type "set") []) Q E s:=by
 refine tQ PySem.F.typeCall_set_0 PySem.F.newCall_set_0 (fun M A E s' Q' hT q'=>check_set_init hT q') fun R fin=>?_
 have hS:(s.heap.push (cQ w)).get? s.heap.objs.size=some (cQ w):=Heap.get?_push_size _ rfl
 have hT:Shared.TypeIs { s with heap:=s.heap.push (cQ w) } (.ref s.heap.objs.size) "set" := ⟨_,hS,rfl⟩
 unfold cQ at hS hT ⊢
 unfold Builtin.«set.__init__» noKeywords
 wp_walk
 exact fin _ s.toks (fun b o e=>Heap.get?_push_of_some _ e) (q _ (lU rfl hS) fun b o e=>Heap.get?_push_of_some _ e)
theorem set_list {l:Addr} {items:Array Value} {ms:List Key} {Q:Value->Shared->Prop} (hh:A.handled=none) (hl:s.heap.IsList l items) (hm:Paired (fun v k=>(aP prog w).is k v=true) items.toList ms) (hb:items.size+1 < scanBound)
  (q:∀ h' tk,eQ (aP prog w) h' s.heap.objs.size (dI ms)->(∀ b o,s.heap.get? b=some o->h'.get? b=some o)->Q (.ref s.heap.objs.size) { s with heap:=h',toks:=tk }):wpAny (model prog w) A (call (.type "set") [.ref l]) Q E s:=by
 refine tQ (PySem.F.typeCall_set_1 _) (PySem.F.newCall_set_1 _) (fun M A E s' Q' hT q'=>check_set_init_1 hT q') fun R fin=>?_
 have hS:(s.heap.push (cQ w)).get? s.heap.objs.size=some (cQ w):=Heap.get?_push_size _ rfl
 have hT:Shared.TypeIs { s with heap:=s.heap.push (cQ w) } (.ref s.heap.objs.size) "set" := ⟨_,hS,rfl⟩
 have hz:(s.heap.push (cQ w)).objs.size=s.heap.objs.size+1:=Heap.size_push _ _
 obtain⟨ol,hol,hcl,nl,hdl⟩:=id hl
 obtain⟨ocls,odict,odata,oslots⟩:=ol
 simp only at hcl hdl
 subst hcl
 subst hdl
 have hol':(s.heap.push (cQ w)).get? l=some { cls:=.type "list",dict:=odict,data:=.seq items nl,slots:=oslots }:=Heap.get?_push_of_some _ hol
 have hsls:=PySem.F.sub_list_set
 have hslf:=PySem.F.sub_list_frozenset
 have hne:(Value.type "list" == Value.type "dict")=false:=by decide
 have hl1:(s.heap.push (cQ w)).IsList l items:=⟨_,hol',rfl,nl,rfl⟩
 have hlS:l < s.heap.objs.size:=Heap.lt_size hol
 unfold cQ at hS hT hz hol' hl1 ⊢
 unfold Builtin.«set.__init__» noKeywords Builtin.Frozenset.updateFrom
 generalize hPI:pyIter=PI
 wp_walk
 subst hPI
 refine wpAny_pyIter_list hl1 ?_
 refine wpAny_bind (wpAny_runValue ?_)
 have hh3:A.in1.in1.in1.handled=none:=by simp [hh]
 refine yd (L:=s.heap.objs.size) ((Walks.list hh3 _ l ?_ items).toS) ?_ ms ?_ (fun i v hv=>?_) hb (items.size - 0) 0 _ (by omega) (Nat.zero_le _) ⟨⟨_,Heap.get?_push_size _ rfl,rfl,rfl⟩,(hl1.push _)⟩ ?_ fun s' mv S'=>?_
 ·rw [hz];exact Nat.ne_of_lt (Nat.lt_succ_of_lt hlS)
 ·rw [hz]
  intro hmem
  rcases lW hmem with e | e
  ·exact absurd e (Nat.ne_of_lt (Nat.lt_succ_self _))
  ·exact absurd e (Nat.ne_of_gt hlS)
 ·rw [<-hm.length,Array.length_toList]
 ·have hv':items.toList[i]? = some v:=by rw [Array.getElem?_toList];exact hv
  exact kF hm hv'
 ·exact lU rfl (Heap.get?_push_of_some _ hS)
 ·obtain⟨h',g',d',tk',os'⟩:=s'
  have eg:g' = s.gens:=mv.gens
  have ed:d' = s.drawn:=mv.drawn
  have eo:os' = s.os:=mv.os
  subst eg;subst ed;subst eo
  have kp:∀ b o,s.heap.get? b=some o->h'.get? b=some o:=fun b o e=>mv.heap b o (fun hm=>by
   rcases lW hm with e' | e'
   ·exact absurd e' (Nat.ne_of_lt (Heap.lt_size e))
   ·rw [hz] at e';exact absurd e' (Nat.ne_of_lt (Nat.lt_succ_of_lt (Heap.lt_size e)))) (Heap.get?_push_of_some _ (Heap.get?_push_of_some _ e))
  show wpAny _ _ _ _ _ _
  refine wpAny_pure ?_
  exact wpAny_pure (fin h' tk' kp (q h' tk' S' kp))
end
end LS
namespace L2
open PySem PySem.Spec PyProof.Rows LS
theorem yg:bootBuiltins "set" = some (.type "set"):=by decide +kernel
theorem Be {K:Type} [DecidableEq K] {k:K} {ks:List K}:decide (k ∈ ks)=true ↔ k ∈ ks:=decide_eq_true_iff
theorem mK {P:Program} {w:World} {k:Key} {v:Value} (r:RelV (kV k) v):(aP P w).is k v=true:=by
 cases k with
 | inl i=>obtain⟨t,rfl⟩:=r;exact mV P w i t
 | inr x=>obtain⟨t,rfl⟩:=r;exact mW P w x t
theorem nc {P:Program} {w:World}:∀ {ks:List Key} {us:List Value},Vals (ks.map kV) us->Paired (fun v k=>(aP P w).is k v=true) us ks
 | [],_,.nil=>.nil
 | k :: ks,_,.cons r t=>.cons (mK r) (nc t)
section
variable {X:Cx}
theorem Inv.Ee {pins:List (Addr × Obj)} {σ : List (Option V)} {H:Hp} {s:Shared} {n:Nat} (I:Inv X pins σ H s):Inv X pins σ H { s with toks:=n }:=⟨I.ok,I.os,I.bare,I.base,I.loc,I.cell,I.free,I.gP,I.pin,I.aT,I.len⟩
theorem yh:eU X (.type "set") (fun vs H Q=>vs = []/\∀ l,H l=none->Q (.ref l) (upd H l (cD X.prog X.w l []))):=by
 intro pins s σ H xs us Q I r h
 obtain⟨rfl,q⟩:=h
 cases r
 refine yf fun h' S kp=>?_
 exact⟨.ref s.heap.objs.size,_,I.laid (t':=s.toks) kp (Nat.le_refl _) (kf S),rfl,q _ I.fresh⟩
theorem yi (hc:X.calm=true):eU X (.type "set") (fun vs H Q=>∃ (p:Addr) (ks:List Key),vs = [.ref p]/\aU X.K H p (ks.map kV)/\ks.length+1 < scanBound/\∀ l,H l=none->Q (.ref l) (upd H l (cD X.prog X.w l (dI ks)))):=by
 intro pins s σ H xs us Q I r h
 obtain⟨p,ks,rfl,hp,hz,q⟩:=h
 obtain⟨u,rfl,ru⟩:=vals1 r
 cases (show u=Value.ref p from ru)
 obtain⟨its,hv,pl,_⟩:=I.list hp
 have hm:=nc (P:=X.prog) (w:=X.w) hv
 refine LS.set_list (I.ok.hd hc) pl.isList (by simpa using hm) (by have:=hm.length;simp at this ⊢;omega) fun h' tk S kp=>?_
 exact⟨.ref s.heap.objs.size,_,I.laid (t':=tk) kp (Nat.le_refl _) (kf S),rfl,q _ I.fresh⟩
def DZ (P:Program) (w:World) (neg:Bool):R2:=fun x y H Q=>∃ a ks k,y=.ref a/\H a=some (cD P w a ks)/\x=kV k/\∀ b:Bool,(b=true ↔ k ∈ ks)->Q (.bl (if neg then !b else b)) H
theorem yj:fm X (compareOp .NotIn) (DZ X.prog X.w true):=by
 intro pins s σ H x y v u Q I rx ry h
 obtain⟨a,ks,k,rfl,ha,rfl,q⟩:=h
 cases ry
 have hk:(aP X.prog X.w).is k v=true:=mK rx
 have S:=(I.qh ha).setOf
 exact wpAny_notInSet_of hk (tP hk) S ⟨.bl _,H,I.Ee,rfl,q _ Be⟩
def D1 (P:Program) (w:World) (r:V->List V->Hp->VK->Prop) (to:TE) (t:TA):TE:=fun σ H Q=>to σ H fun x H1=>(∃ a ks,x=.ref a/\H1 a=some (cD P w a ks))/\t σ H1 fun xs H2=>r x xs H2 Q
variable {o e:Expr} {es:List Expr} {to:TE} {t:TA} {name:Str} {apos cpos:Pos} {id:String} {r:V->List V->Hp->VK->Prop}
theorem yk (slot:Slot "set" name id) (hty:typeOf (.builtin id)=pure (.type "method_descriptor")) (hm:xu X id r) (ho:PE X o to) (ha:PA X (e :: es) t)
  (hbase:attributeBase o name X.env (eval o X.env)=eval o X.env:=by rfl)
  (hfew:((backTo cpos (starEach (e :: es) X.env)).all (fun x=>!x.1) && (backToKw cpos (keywordEach [] X.env)).all (fun x=>x.1.isSome)
   && decide ((e :: es).length+([]:List Keyword).length+(if ([]:List Keyword).isEmpty then 0 else 1) < 30))=true:=by rfl)
  (hline:(apos.endLine == cpos.line)=true:=by rfl) (hs:starEach (e :: es) X.env=(false,eval e X.env) :: starEach es X.env:=by rfl) (hplain:(backTo cpos (starEach es X.env)).any (·.1)=false:=by rfl) :
  PE X (.Call (.Attribute o name apos) (e :: es) [] cpos) (D1 X.prog X.w r to t):=by
 intro pins s σ H Q I h
 refine wpAny_Call_method_late hbase hfew hline rfl (ba (ho pins s σ H _ I h) fun v s1 ⟨x,H1,I1,r1,ty,q1⟩=>?_)
 obtain⟨a,ks,rfl,hset⟩:=ty
 cases (show v=Value.ref a from r1)
 have S:=(I1.qh hset).setOf
 refine⟨"set",id,PySem.F.plainAttrs_set,slot,hty,S.typeIs,S.noDict,?_⟩
 have hA:=ha cpos pins s1 σ H1 _ I1 q1
 rw [hs] at hA ⊢
 refine Calls.callWith_builtin (by show (false || (backTo cpos (starEach es X.env)).any (·.1))=false;rw [hplain] <;> rfl) (Calls.evalArgs_plain ?_)
 exact ba hA fun us s2 ⟨vs,H2,I2,r2,q2⟩=>hm pins s2 σ H2 (.ref a) vs (.ref a) us Q I2 rfl r2 q2
def Dg (P:Program) (w:World):V->List V->Hp->VK->Prop:=fun x vs H Q=>∃ a ks k,x=.ref a/\vs = [kV k]/\H a=some (cD P w a ks)/\ks.length+1 < scanBound/\Q .bI (upd H a (cD P w a (putIn ks k)))
theorem vn:xu X "set.add" (Dg X.prog X.w):=by
 intro pins s σ H x xs v us Q I rx r h
 obtain⟨a,ks,k,rfl,rfl,ha,hz,q⟩:=h
 cases (show v=Value.ref a from rx)
 obtain⟨u,rfl,ru⟩:=vals1 r
 refine zD (mK ru) (I.qh ha) hz fun h' b S'=>?_
 refine⟨.bI,_,I.write (t':=s.toks+1) (x:=a) (e:=a) (by rw [ha];exact trivial) (.inl rfl) (fun c u' hc hu=>b.extBut c u' hc hu) ?_ (kf S'),rfl,q⟩
 obtain⟨o,_,_,_,So⟩:=S'
 exact⟨o,So.at_⟩
end
structure sd (K:PySem.W.Frag) (mg:Str->Option Value) (aD d0 d1 d2 d3 d4:Addr):Prop where
 tab:zo K mg "DEED_PARTS" aD [("put",d0),("copy",d1),("add",d2),("read",d3),("tell",d4)]
 q0:KTup K d0 ["name", "number"]
 q1:KTup K d1 ["name", "name"]
 q2:KTup K d2 ["name", "number"]
 q3:KTup K d3 ["name"]
 q4:KTup K d4 ["name"]
def d7:cg->List Str
 | .put x _=>[x]
 | .copy x y=>[x,y]
 | .add x _=>[x]
 | .read x=>[x]
 | .tell x=>[x]
def jB:End->List Str
 | .cC _ x _ _ _=>[x]
 | _=>[]
def pNames (p:Piece):List Str:=p.1.flatMap d7++jB p.2
def bJ (ps:List Piece):List Str:=ps.flatMap pNames
def kD:cg->List Str
 | .put ..=>["name", "number"]
 | .copy ..=>["name", "name"]
 | .add ..=>["name", "number"]
 | .read ..=>["name"]
 | .tell ..=>["name"]
def wD:cg->Str
 | .put .. => "put"
 | .copy .. => "copy"
 | .add .. => "add"
 | .read .. => "read"
 | .tell .. => "tell"
theorem wx (d:cg):∃ xs,iH d=.str (wD d) :: xs/\xs.length<=1000/\pick "name" xs (kD d)=(d7 d).map V.str:=by
 have h2:¬ ("number" : Str) = "name" := by decide +kernel
 cases d with
 | put x n=>exact⟨_,rfl,by show 2<=1000;decide,by simp [pick,kD,d7,h2]⟩
 | copy x y=>exact⟨_,rfl,by show 2<=1000;decide,by simp [pick,kD,d7]⟩
 | add x n=>exact⟨_,rfl,by show 2<=1000;decide,by simp [pick,kD,d7,h2]⟩
 | read x=>exact⟨_,rfl,by show 1<=1000;decide,by simp [pick,kD,d7]⟩
 | tell x=>exact⟨_,rfl,by show 1<=1000;decide,by simp [pick,kD,d7]⟩
theorem wy (e:End):∃ xs,fN e=.str (wE e) :: xs/\xs.length<=1000/\pick "name" xs (kE e)=(jB e).map V.str:=by
 have h1:¬ ("piece" : Str) = "name" := by decide +kernel
 have h2:¬ ("number" : Str) = "name" := by decide +kernel
 cases e with
 | stop=>exact⟨[],rfl,by decide,rfl⟩
 | go p=>exact⟨_,rfl,by show 1<=1000;decide,by simp [pick,kE,jB,h1]⟩
 | cC b x n p q=>exact⟨_,rfl,by show 4<=1000;decide,by simp [pick,kE,jB,h1,h2]⟩
theorem kh {k:Str} {d:Addr} {D:List (Str × Addr)}:KTD.datumAt k ((k,d) :: D)=some d:=by
 show (if decide (k=k)=true then some d else KTD.datumAt k D)=some d
 rw [if_pos (decide_eq_true rfl)]
theorem eZ {k x:Str} {d:Addr} {D:List (Str × Addr)} {o:Option Addr} (h:¬ k=x) (e:KTD.datumAt k D=o):KTD.datumAt k ((x,d) :: D)=o:=by
 show (if decide (k=x)=true then some d else KTD.datumAt k D)=o
 rw [if_neg (by rw [decide_eq_false h];decide)]
 exact e
theorem sd.at_ {K:PySem.W.Frag} {mg:Str->Option Value} {aD d0 d1 d2 d3 d4:Addr} (G:sd K mg aD d0 d1 d2 d3 d4) (d:cg) :
  ∃ s,KTD.datumAt (wD d) [(("put" : Str),d0),("copy",d1),("add",d2),("read",d3),("tell",d4)] = some s/\KTup K s (kD d):=by
 cases d with
 | put x n=>exact⟨d0,kh,G.q0⟩
 | copy x y=>exact⟨d1,eZ (show ¬ (("copy" : Str) = "put") by decide +kernel) kh,G.q1⟩
 | add x n=>exact⟨d2,eZ (show ¬ (("add" : Str) = "put") by decide +kernel) (eZ (show ¬ (("add" : Str) = "copy") by decide +kernel) kh),G.q2⟩
 | read x=>exact⟨d3,eZ (show ¬ (("read" : Str) = "put") by decide +kernel) (eZ (show ¬ (("read" : Str) = "copy") by decide +kernel) (eZ (show ¬ (("read" : Str) = "add") by decide +kernel) kh)),G.q3⟩
 | tell x=>exact⟨d4,eZ (show ¬ (("tell" : Str) = "put") by decide +kernel) (eZ (show ¬ (("tell" : Str) = "copy") by decide +kernel) (eZ (show ¬ (("tell" : Str) = "add") by decide +kernel) (eZ (show ¬ (("tell" : Str) = "read") by decide +kernel) kh))),G.q4⟩
theorem zE (acc ys:List Str):(ys.map (Sum.inr:Str->Key)).foldl LS.putIn (acc.map Sum.inr)=(ys.foldl LS.putIn acc).map Sum.inr:=by
 induction ys generalizing acc with
 | nil=>rfl
 | cons y ys ih =>
  rw [List.map_cons,List.foldl_cons,List.foldl_cons,<-ih]
  congr 1
  unfold LS.putIn
  by_cases h:y ∈ acc
  ·rw [if_pos h,if_pos (List.mem_map.mpr ⟨y,h,rfl⟩)]
  ·rw [if_neg h,if_neg (fun z=>by obtain⟨x,hx,e⟩:=List.mem_map.mp z;cases e;exact h hx),List.map_append];rfl
theorem wz (ys:List Str):dI (ys.map (Sum.inr:Str->Key))=(dI ys).map Sum.inr:=zE [] ys
theorem Bf (ys:List Str):(ys.map (Sum.inr:Str->Key)).map kV=ys.map V.str:=by rw [List.map_map];rfl
theorem qZ {xs:List Str} {m:Nat} {ps:List Piece} (ok:cM xs m ps):∀ x ∈ bJ ps,x ∈ xs:=fun x hx=>by
 obtain⟨p,hp,hx⟩:=List.mem_flatMap.mp hx
 rcases List.mem_append.mp hx with h | h
 ·obtain⟨d,hd,h⟩:=List.mem_flatMap.mp h
  have dk:=(ok.iX p hp).2 d hd
  cases d with
  | put a n=>rw [List.mem_singleton.mp h];exact dk.1
  | copy a b =>
   rcases List.mem_cons.mp h with rfl | h
   ·exact dk.1
   ·rw [List.mem_singleton.mp h];exact dk.2
  | add a n=>rw [List.mem_singleton.mp h];exact dk.1
  | read a=>rw [List.mem_singleton.mp h];exact dk
  | tell a=>rw [List.mem_singleton.mp h];exact dk
 ·have ek:=ok.ends p hp
  obtain⟨ds,e⟩:=p
  cases e with
  | stop=>cases h
  | go q=>cases h
  | cC b a n q r=>rw [List.mem_singleton.mp h];exact ek.1
theorem q8 {α β : Type} {l:List α} {f:α->List β} {i:Nat} {x:α} (h:l[i]? = some x):(l.take (i+1)).flatMap f=(l.take i).flatMap f++f x:=by
 rw [List.take_add_one,h,List.flatMap_append];simp
theorem kY {α β : Type} {l:List α} {f:α->List β} (i:Nat):((l.take i).flatMap f).length<=(l.flatMap f).length:=by
 conv=>rhs;rw [<-List.take_append_drop i l,List.flatMap_append,List.length_append]
 exact Nat.le_add_right _ _
def lZ:Sp:=fun vs H Q _=>∃ (plv:V) (ps:List Piece) (xs:List Str) (m:Nat),vs = [plv]/\aS H plv (df ps)/\cM xs m ps/\xs.length < 64/\(bJ ps).length<=4000 /\
 ∀ (t:Addr) (ss:List Str) (H':Hp),H' t=some (.tup (ss.map V.str))->ss.Perm (dI (bJ ps))->sortedS ss=true->ss.length < 64->au H H'->Q (.ref t) H'
theorem zF {xs:List Str} {m:Nat} {ps:List Piece} (ok:cM xs m ps):(dI (bJ ps)).length<=xs.length :=
 sub_len (tO _) fun x hx=>qZ ok x (qY.mp hx)
end L2
namespace PySem
theorem rM:typeLookup (.type "tuple") "keys" = pure none:=by rw [typeLookup_type,builtinLookup_eq_fast];kernel_rfl
section
variable {prog:Program} {w:World} {A:Around} {E:Value->Shared->Prop} {s:Shared}
theorem rN {a:Addr} {xs:Array Value} {k:Nat} {sl:Array (Option Value)} {name:Str} {u:Tok} {Q:Value->Shared->Prop} (hx:s.heap.get? a=some { cls:=.type "tuple",dict:=none,data:=.seq xs k,slots:=sl })
  (miss:typeLookup (.type "tuple") name=pure none) (plain:(["__module__", "__name__", "__qualname__", "__doc__", "__annotations__"]:List Str).contains name=false) (calm:A.handled=none) (fits:name.length+100<=sizeLine)
  (fin:∀ g tk e,Heap.NewExcOf s.heap g e "AttributeError" -> E (.ref e) { s with heap:=g,toks:=tk }):wpAny (model prog w) A (getAttrBy (.ref a) (.str name u) false) Q E s:=by
 obtain⟨hp,gs,dr,tk,os⟩:=s
 have hT:∀ tk',(⟨hp,gs,dr,tk',os⟩:Shared).TypeIs (.ref a) "tuple" := fun _=>⟨_,hx,rfl⟩
 have f1:=sub_AttributeError
 have f3:=F.slot_tuple_getattribute.lookup
 have f4:=F.slot_tuple_getattribute.bind (.ref a)
 have f5:=am_tuple_getattr_none
 unfold getAttrBy
 repeat (any_goals (first | exact hT _ | assumption | ((with_reducible show wpAny _ _ (call (Value.builtin "tuple.__getattribute__") _ _) _ _ _);refine call_meets F.slot_tuple_getattribute (hT _) am_entry_tuple_getattribute (F.args_tuple_getattribute_2 _ _) (meets_getattribute_miss_tuple a xs k sl name _ miss plain fits) ⟨hx,calm,fun g t e ne=>?_⟩) | wp_step))
 obtain⟨t',u',there⟩:=ne.there
 show wpAny _ _ (getattributeRaised _ _ _ _ _ _ _) _ _ _
 unfold getattributeRaised
 repeat (any_goals (first | wp_step | assumption))
 exact fin g _ e ne.of
theorem o3 {a:Addr} {xs:Array Value} {k:Nat} {sl:Array (Option Value)} {Q:Option Value->Shared->Prop} (hx:s.heap.get? a=some { cls:=.type "tuple",dict:=none,data:=.seq xs k,slots:=sl }) (calm:A.handled=none)
  (fin:∀ g tk,(∀ b o,s.heap.get? b=some o->g.get? b=some o)->Q none { s with heap:=g,toks:=tk }):wpAny (model prog w) A (getAttr? (.ref a) "keys") Q E s:=by
 unfold getAttr? getAttrBy?
 refine wpAny_bind (wpAny_mkText ?_)
 refine wpAny_bind (wpAny_attempt ?_)
 refine rN (s:={ s with toks:=s.toks+1 }) hx rM (by decide +kernel) calm (by decide +kernel) fun g tk e ne=>?_
 obtain⟨ob,vs,he,hc,_⟩:=ne.there
 have hT:({ s with heap:=g,toks:=tk }:Shared).TypeIs (.ref e) "AttributeError" := ⟨ob,he,hc⟩
 refine wpAny_bind (wpAny_isInstance hT sub_AttributeError ?_)
 exact wpAny_pure (fin g tk ne.keeps)
end
end PySem
namespace PySem
theorem ki:entryFor table "dict.update.loop" = some Builtin.«dict.update.loop»:=entryFor_of_tree (by kernel_rfl)
theorem gg:plainId "dict.update.loop" = true:=by decide +kernel
section
variable {prog:Program} {w:World} {K:Type} [DecidableEq K] {knd:KeyKind prog w K} {A:Around} {s:Shared}
def tR (knd:KeyKind prog w K) (h:Heap) (q:Addr) (p:K × Value):Prop:=∃ key n sl,h.get? q=some { cls:=.type "tuple",dict:=none,data:=.seq #[key,p.2] n,slots:=sl }/\knd.is p.1 key=true
theorem rO {E:Value->Shared->Prop} {q:Addr} {x y:Value} {n:Nat} {sl:Array (Option Value)} {Q:List Value->Shared->Prop} (hq:s.heap.get? q=some { cls:=.type "tuple",dict:=none,data:=.seq #[x,y] n,slots:=sl })
  (fin:Q [x,y] s):wpAny (model prog w) A (Builtin.Dict.pairItems (.ref q)) Q E s:=by
 have hT:s.TypeIs (.ref q) "tuple" := ⟨_,hq,rfl⟩
 unfold Builtin.Dict.pairItems
 refine wpAny_bind (wpAny_typeOf hT ?_)
 rw [if_pos (by decide)]
 unfold seqItems?
 obtain⟨hp,gs,dr,tk,os⟩:=s
 repeat (any_goals (first | wp_step | assumption))
theorem wA {E:Value->Shared->Prop} {d I ax:Addr} {items:Array Value} {rs:List (K × Value)} {R:Result->Shared->Prop} {h0:Heap} (calm:A.handled=none) (ndI:d ≠ I) (nda:d ≠ ax) (nax:ax ≠ I) (len:rs.length=items.size) (bG:rs.length<=sizeLine)
  (pairs:∀ (i:Nat) (p:K × Value),rs[i]? = some p->∃ q,items[i]? = some (.ref q)/\q ≠ d/\q ≠ I/\tR knd h0 q p)
  (fin:∀ (g:Heap) (tk:Nat),g.DictOf knd d (merged [] rs)->(∀ b o,b ≠ d->b ≠ I->h0.get? b=some o->g.get? b=some o)->R (.ok (.ret .none)) { s with heap:=g,toks:=tk }) :
  ∀ (m i:Nat) (h:Heap) (tk:Nat) (t:Tok),rs.length - i=m->i<=rs.length->h.IsTupleIter I ax i->h.IsTuple ax items->h.DictOf knd d (merged [] (rs.take i))->(∀ b o,b ≠ d->b ≠ I->h0.get? b=some o->h.get? b=some o) ->
   codeAny (model prog w) A (.builtin "dict.update.loop" ⟨[.ref d,.ref I,.int i t,.none],[]⟩) R { s with heap:=h,toks:=tk }:=by
 have W:=Walks.tuple (prog:=prog) (w:=w) (A:=A.in1) calm I ax nax items
 intro m
 induction m with
 | zero =>
  intro i h tk t em hi it ta dd kp
  have ei:i=rs.length:=by omega
  subst ei
  refine codeAny_builtin ki ?_
  rw [Around.under_plainId gg _]
  show wpAny _ A.in1 (pyNext (.ref I) >>= _) _ _ _
  refine wpAny_bind (W.done { s with heap:=h,toks:=tk } _ _ ⟨by rw [<-len];exact it,ta⟩ fun g tk' kg=>?_)
  show wpAny _ A.in1 (Builtin.Dict.addKeywords d [] >>= fun _=>ret Value.none) _ _ _
  refine wpAny_bind (wpAny_pure ?_)
  refine wpAny_pure (fin g tk' ?_ fun b o n1 n2 e=>kg b o (by simpa using n2) (kp b o n1 n2 e))
  rw [List.take_length] at dd
  obtain⟨ob,es,ep,ho,rest⟩:=dd
  exact⟨ob,es,ep,kg d ob (by simpa using ndI) ho,rest⟩
 | succ m ih =>
  intro i h tk t em hi it ta dd kp
  have hlt:i < rs.length:=by omega
  have hp:rs[i]? = some rs[i]:=by simp [hlt]
  generalize rs[i] = p at hp
  obtain⟨q,hq,nqd,nqI,key,n,sl,hqo,hkey⟩:=pairs i p hp
  refine codeAny_builtin ki ?_
  rw [Around.under_plainId gg _]
  show wpAny _ A.in1 (pyNext (.ref I) >>= _) _ _ _
  refine wpAny_bind (W.item i { s with heap:=h,toks:=tk } _ _ (by omega) ⟨it,ta⟩ fun v g tk' hv st kg=>?_)
  rw [hq] at hv
  cases hv
  have kp':∀ b o,b ≠ d->b ≠ I->h0.get? b=some o->g.get? b=some o:=fun b o n1 n2 e=>kg b o (by simpa using n2) (kp b o n1 n2 e)
  refine wpAny_bind (wpAny_holding (wpAny_bind (wpAny_tryCatch (rO (kp' q _ nqd nqI hqo) ?_))))
  have dd':g.DictOf knd d (merged [] (rs.take i)):=by
   obtain⟨ob,es,ep,ho,rest⟩:=dd
   exact⟨ob,es,ep,kg d ob (by simpa using ndI) ho,rest⟩
  refine wpAny_holding (wpAny_dictSet_pairs hkey dd' (fun g2 dd2 same=>?_) ?_)
  ·refine wpAny_pure ⟨plainId_quiet gg _,?_⟩
   rw [<-merged_take_succ [] rs i p hp] at dd2
   have k2:∀ b o,b ≠ d->g.get? b=some o->g2.get? b=some o:=fun b o nb e=>(same.2 b nb).trans e
   refine ih (i+1) g2 _ _ (by omega) hlt ?_ ?_ dd2 fun b o n1 n2 e=>k2 b o n1 (kp' b o n1 n2 e)
   ·exact st.1.at fun o e=>k2 I o ndI.symm e
   ·exact st.2.at fun o e=>k2 ax o nda.symm e
  ·have e:=merged_length_le ([]:List (K × Value)) (rs.take i)
   rw [List.length_take] at e
   simp only [List.length_nil] at e
   omega
open PySem.Calls in
theorem rP {E:Value->Shared->Prop} {ax:Addr} {items:Array Value} {na:Nat} {sa:Array (Option Value)} {rs:List (K × Value)} {Q:Value->Shared->Prop} (calm:A.handled=none)
  (hx:s.heap.get? ax=some { cls:=.type "tuple",dict:=none,data:=.seq items na,slots:=sa }) (len:rs.length=items.size) (bG:rs.length<=sizeLine)
  (pairs:∀ (i:Nat) (p:K × Value),rs[i]? = some p->∃ q,items[i]? = some (.ref q)/\tR knd s.heap q p)
  (fin:∀ (g:Heap) (tk:Nat),g.DictOf knd s.heap.objs.size (merged [] rs)->(∀ b o,s.heap.get? b=some o->g.get? b=some o)->Q (.ref s.heap.objs.size) { s with heap:=g,toks:=tk }) :
  wpAny (model prog w) A (call (.type "dict") [.ref ax]) Q E s:=by
 refine callType_codes (Q₁:=fun ob s1=>ob=.ref s.heap.objs.size/\s1 = { s with heap:=s.heap.push { cls:=.type "dict",data:=.dict #[] } }) F.kt_called_dict (F.kt_typeCall_dict_1 _) F.entry_dict_init (kt_code_dict_new _ ⟨rfl,rfl⟩) fun ob s1 e1=>?_
 obtain⟨rfl,rfl⟩:=e1
 have fresh:(s.heap.push { cls:=.type "dict",data:=.dict #[] }).DictOf knd s.heap.objs.size []:=Heap.DictOf.new s.heap
 have hx1:=Heap.get?_push_of_some { cls:=.type "dict",data:=.dict #[] } hx
 refine⟨fresh.typeIs,F.args_dict_init_2 _ _,?_⟩
 have hT:({ s with heap:=s.heap.push { cls:=.type "dict",data:=.dict #[] } }:Shared).TypeIs (.ref ax) "tuple" := ⟨_,hx1,rfl⟩
 unfold Builtin.«dict.__init__»
 refine wpAny_bind ?_
 unfold Builtin.Dict.selfAndRest
 refine wpAny_bind (wpAny_notOrdered_dict fresh.typeIs (wpAny_pure ?_))
 show wpAny _ _ (Builtin.Dict.updateFrom "dict.__init__" s.heap.objs.size (.ref ax) [] .none) _ _ _
 unfold Builtin.Dict.updateFrom
 refine wpAny_bind (wpAny_typeOf hT ?_)
 rw [if_pos (by decide)]
 refine wpAny_bind (o3 hx1 calm fun g tk kg=>?_)
 rw [if_pos (show (none:Option Value).isNone=true from rfl)]
 refine wpAny_bind (wpAny_rule ?_)
 have hxg:=kg _ _ hx1
 have hta:g.IsTuple ax items:=⟨_,hxg,rfl,na,rfl⟩
 refine wpAny_bind (wpAny_pyIter_tuple hta ?_)
 have dg:g.DictOf knd s.heap.objs.size []:=by
  obtain⟨ob,es,ep,ho,rest⟩:=fresh
  exact⟨ob,es,ep,kg _ _ ho,rest⟩
 have ltd:s.heap.objs.size < g.objs.size:=by
  obtain⟨ob,es,ep,ho,rest⟩:=dg
  exact Heap.lt_size ho
 have lta:ax < g.objs.size:=Heap.lt_size hxg
 have ltx:ax < s.heap.objs.size:=Heap.lt_size hx
 have kg':∀ b o,s.heap.get? b=some o->(g.push { cls:=.type "tuple_iterator",data:=.fields #[.ref ax,.int 0 0] }).get? b=some o:=fun b o e=>Heap.get?_push_of_some _ (kg b o (Heap.get?_push_of_some _ e))
 refine wpAny_pure ⟨plainId_quiet gg _,?_⟩
 refine wA (E:=E) (knd:=knd) (s:=s) (A:=A.in1) (items:=items) (rs:=rs) (h0:=g.push { cls:=.type "tuple_iterator",data:=.fields #[.ref ax,.int 0 0] }) calm (Nat.ne_of_lt ltd) (Nat.ne_of_gt ltx) (Nat.ne_of_lt lta) len bG (fun i p hp=>?_) (fun g2 tk2 dd2 k2=>⟨rfl,fin g2 tk2 dd2 fun b o e=>k2 b o (Nat.ne_of_lt (Heap.lt_size e)) (Nat.ne_of_lt (Nat.lt_trans (Heap.lt_size e) ltd)) (kg' b o e)⟩) rs.length 0 _ _ _ (Nat.sub_zero _) (Nat.zero_le _) ⟨_,Heap.get?_push_size _ rfl,rfl,rfl⟩ (hta.push _) (dg.push _) fun b o _ _ e=>e
 obtain⟨q,hq,key,n,sl,hqo,hkey⟩:=pairs i p hp
 have hql:=Heap.lt_size hqo
 exact⟨q,hq,Nat.ne_of_lt hql,Nat.ne_of_lt (Nat.lt_trans hql ltd),key,n,sl,kg' q _ hqo,hkey⟩
end
end PySem
namespace L2
open PySem PySem.Spec PyProof.Rows
theorem Ar:∀ (kvs:List (Key × V)) (P:Nat->Key × Value->Prop),(∀ (i:Nat) (k:Key) (v:V),kvs[i]? = some (k,v)->∃ u,RelV v u/\P i (k,u))->∃ rs:List (Key × Value),KV kvs rs/\∀ (i:Nat) (p:Key × Value),rs[i]? = some p->P i p
 | [],_,_=>⟨[],.nil,fun i p h=>by simp at h⟩
 | (k,v) :: r,P,h=>by
  obtain⟨u,ru,hu⟩:=h 0 k v rfl
  obtain⟨rs,kr,hr⟩:=Ar r (fun i=>P (i+1)) fun i k' v' e=>h (i+1) k' v' (by simpa using e)
  refine⟨(k,u) :: rs,.cons ⟨rfl,ru⟩ kr,fun i p e=>?_⟩
  cases i with
  | zero=>cases (Option.some.inj e);exact hu
  | succ i=>exact hr i p (by simpa using e)
theorem tS:∀ {xs:List V} {us:List Value} {j:Nat} {x:V},Vals xs us->xs[j]? = some x->∃ u,us[j]? = some u/\RelV x u
 | _,_,_,_,.nil,e=>by simp at e
 | _,_,0,_,.cons r _,e=>by
  cases (Option.some.inj e)
  exact⟨_,rfl,r⟩
 | _,_,j+1,x,.cons _ t,e=>by
  obtain⟨u,h1,h2⟩:=tS (j:=j) (x:=x) t (by simpa using e)
  exact⟨u,by simpa using h1,h2⟩
section
variable {X:Cx}
theorem ie (hc:X.calm=true):eU X (.type "dict") (fun vs H Q=>∃ (a:Addr) (xs:List V) (kvs:List (Key × V)),vs = [.ref a]/\H a=some (.tup xs)/\xs.length=kvs.length /\
  (∀ (i:Nat) (k:Key) (v:V),kvs[i]? = some (k,v)->∃ q,xs[i]? = some (.ref q)/\H q=some (.tup [kV k,v]))/\(kvs.map (·.1)).Nodup/\∀ d,H d=none->Q (.ref d) (upd H d (.dK kvs))):=by
 intro pins s σ H vs us Q I r h
 obtain⟨a,xs,kvs,rfl,ha,hl,hp,nd,q⟩:=h
 obtain⟨u,rfl,ru⟩:=vals1 r
 cases (show u=Value.ref a from ru)
 obtain⟨hz,its,rv,⟨c,dct,dat,sl⟩,h1,h2,n,h3,h4⟩:=(show cf X.prog X.w H s.heap a (.tup xs) from I.aT a _ ha)
 dsimp only at h2 h3 h4
 subst h2 h3 h4
 have hil:its.length=kvs.length:=by rw [<-rv.length];exact hl
 obtain⟨rs,rel,prs⟩:=Ar kvs (fun i p=>∃ q,its.toArray[i]? = some (.ref q)/\tR (aP X.prog X.w) s.heap q p) fun i k v e=>by
  obtain⟨q,e1,e2⟩:=hp i k v e
  obtain⟨_,its2,rv2,⟨c2,dct2,dat2,sl2⟩,g1,g2,n2,g3,g4⟩:=(show cf X.prog X.w H s.heap q (.tup [kV k,v]) from I.aT q _ e2)
  dsimp only at g2 g3 g4
  subst g2 g3 g4
  obtain⟨key,u2,rfl,rk,ru2⟩:=vals2 rv2
  refine⟨u2,ru2,q,?_,key,n2,sl2,g1,oH rk⟩
  obtain⟨w',hw,rw'⟩:=tS rv e1
  cases (show w' = Value.ref q from rw')
  simpa using hw
 have hkl:kvs.length<=sizeLine:=by rw [<-hl];exact hz
 have ndr:(rs.map (·.1)).Nodup:=by rw [<-rel.keys];exact nd
 refine rP (knd:=aP X.prog X.w) (rs:=rs) (I.ok.hd hc) h1 (by rw [<-rel.length,<-hil];simp) (by rw [<-rel.length];exact hkl) prs fun g tk dd kg=>?_
 rw [merged_nil_of_nodup rs ndr] at dd
 exact⟨.ref s.heap.objs.size,_,I.laid (a:=s.heap.objs.size) (o:=.dK kvs) (t':=tk) kg (Nat.le_refl _) (sU hkl (beq_eq_false_iff_ne.mpr (Ne.symm (Nat.ne_of_lt I.big))) rel dd),rfl,q _ (I.aT.fresh (Nat.le_refl _))⟩
end
def o4 (a b:Str):Prop:=a.cps.toList<=b.cps.toList
theorem yl {a b c:Str} (h:o4 a b) (g:o4 b c):o4 a c:=List.le_trans h g
theorem zG {a b:Str} (h:o4 a b) (g:o4 b a):a=b:=by
 have e:a.cps.toList=b.cps.toList:=List.le_antisymm h g
 have e2:a.cps=b.cps:=by rw [<-Array.toArray_toList (xs:=a.cps),e,Array.toArray_toList]
 cases a
 cases b
 cases e2
 rfl
theorem q9:∀ (l:List Str) (p:Str),risingS p l=true->(p :: l).Pairwise o4
 | [],p,_=>by simp
 | x :: r,p,h=>by
  have h':(!ltCps x.cps.toList p.cps.toList && risingS x r)=true:=h
  rw [Bool.and_eq_true,Bool.not_eq_true'] at h'
  have h1:o4 p x:=by
   have:=h'.1
   rw [ltCps_eq] at this
   exact of_decide_eq_false this
  have ih:=q9 r x h'.2
  refine List.Pairwise.cons (fun y hy=>?_) ih
  rcases List.mem_cons.mp hy with e | hy
  ·rw [e];exact h1
  ·exact yl h1 ((List.pairwise_cons.mp ih).1 y hy)
theorem rg {l:List Str} (h:sortedS l=true):l.Pairwise o4:=by
 cases l with
 | nil=>exact List.Pairwise.nil
 | cons x r=>exact q9 r x h
structure jP (ss:List Str):Prop where
 pw:ss.Pairwise o4
 nd:ss.Nodup
theorem jP.tail {x:Str} {r:List Str} (h:jP (x :: r)):jP r:=⟨(List.pairwise_cons.mp h.pw).2,(List.nodup_cons.mp h.nd).2⟩
theorem jP.unique:∀ {l m:List Str},jP l->jP m->(∀ x,x ∈ l ↔ x ∈ m)->l=m
 | [],[],_,_,_=>rfl
 | [],b :: m,_,_,h=>absurd ((h b).mpr (List.mem_cons_self ..)) (by simp)
 | a :: l,[],_,_,h=>absurd ((h a).mp (List.mem_cons_self ..)) (by simp)
 | a :: l,b :: m,hl,hm,h=>by
  have e:a=b:=by
   rcases List.mem_cons.mp ((h a).mp (List.mem_cons_self ..)) with e | h1
   ·exact e
   ·rcases List.mem_cons.mp ((h b).mpr (List.mem_cons_self ..)) with e | h2
    ·exact e.symm
    ·exact zG ((List.pairwise_cons.mp hl.pw).1 b h2) ((List.pairwise_cons.mp hm.pw).1 a h1)
  subst e
  have na:=(List.nodup_cons.mp hl.nd).1
  have nb:=(List.nodup_cons.mp hm.nd).1
  rw [jP.unique hl.tail hm.tail fun x=>⟨fun hx=>?_,fun hx=>?_⟩]
  ·rcases List.mem_cons.mp ((h x).mp (List.mem_cons_of_mem _ hx)) with e | h1
   ·exact absurd (by rw [<-e];exact hx) na
   ·exact h1
  ·rcases List.mem_cons.mp ((h x).mpr (List.mem_cons_of_mem _ hx)) with e | h1
   ·exact absurd (by rw [<-e];exact hx) nb
   ·exact h1
theorem jP.filter {l:List Str} (h:jP l) (p:Str->Bool):jP (l.filter p):=⟨h.pw.filter p,h.nd.filter p⟩
abbrev Sx:=Option Int × Option Int
def eJ:Sx:=(none,none)
structure iS (K:PySem.W.Frag) (mg:Str->Option Value) (aA:Addr):Prop where
 qW:mg "ALL" = some (.ref aA)
 at_:∃ dc n sl,K.lookup aA=some ⟨.type "tuple",dc,.seq #[.none,.none] n,sl⟩
theorem iS.sq {K:PySem.W.Frag} {mg:Str->Option Value} {aA:Addr} (h:iS K mg aA) (H:Hp):ay K H aA [.bI,.bI]:=by
 obtain⟨dc,n,sl,e⟩:=h.at_
 exact .inr ⟨_,#[.none,.none],n,e,rfl,rfl,by decide,.cons rfl (.cons rfl .nil)⟩
def SH (H:Hp) (v:V) (s:Sx):Prop:=∃ q,v=.ref q/\H q=some (.tup [vO s.1,vO s.2])
def SV (aA:Addr) (H:Hp) (v:V) (s:Sx):Prop:=SH H v s\/(v=.ref aA/\s=eJ)
def dS (s:Sx):PyData:=.tuple [dO s.1,dO s.2]
theorem SH.rd {H:Hp} {v:V} {s:Sx} (h:SH H v s):aS H v (dS s):=by
 obtain⟨q,rfl,e⟩:=h
 exact .tup e (.cons (Cs _) (.cons (Cs _) .nil))
theorem SH.bb {H H':Hp} {v:V} {s:Sx} (h:SH H v s) (k:∀ p xs,H p=some (.tup xs)->H' p=some (.tup xs)):SH H' v s:=by
 obtain⟨q,e,h⟩:=h
 exact⟨q,e,k _ _ h⟩
theorem SV.bb {aA:Addr} {H H':Hp} {v:V} {s:Sx} (h:SV aA H v s) (k:∀ p xs,H p=some (.tup xs)->H' p=some (.tup xs)):SV aA H' v s:=h.elim (fun h=>.inl (h.bb k)) .inr
theorem SV.sq {K:PySem.W.Frag} {mg:Str->Option Value} {aA:Addr} {H:Hp} {v:V} {s:Sx} (g:iS K mg aA) (h:SV aA H v s):∃ q,v=.ref q/\ay K H q [vO s.1,vO s.2]:=by
 rcases h with ⟨q,e,h⟩ | ⟨e,rfl⟩
 ·exact⟨q,e,ay.of h⟩
 ·exact⟨aA,e,g.sq H⟩
theorem vo {H:Hp} {v:V} {o:Option Int} (h:aS H v (dO o)):v=vO o:=by
 cases o with
 | none=>cases h;rfl
 | some i=>exact h.int_inv
structure Tb (aA:Addr) (H:Hp) (kvs:List (Key × V)) (ks:List Str) (T:Str->Sx):Prop where
 keys:kvs.map (·.1)=ks.map Sum.inr
 nd:ks.Nodup
 val:∀ x:Str,(cW kvs (Sum.inr x)=none/\T x=eJ/\¬ x ∈ ks)\/(∃ v,cW kvs (Sum.inr x)=some v/\SV aA H v (T x)/\x ∈ ks)
def d6 (T:Str->Sx) (x:Str) (s:Sx):Str->Sx:=fun y=>if y=x then s else T y
theorem Tb.bb {aA:Addr} {H H':Hp} {kvs:List (Key × V)} {ks:List Str} {T:Str->Sx} (h:Tb aA H kvs ks T) (k:∀ p xs,H p=some (.tup xs)->H' p=some (.tup xs)):Tb aA H' kvs ks T :=
 ⟨h.keys,h.nd,fun x=>(h.val x).elim .inl fun ⟨v,e,s,m⟩=>.inr ⟨v,e,s.bb k,m⟩⟩
theorem Tb.put {aA:Addr} {H:Hp} {kvs:List (Key × V)} {ks:List Str} {T:Str->Sx} (h:Tb aA H kvs ks T) {v:V} {s:Sx} (x:Str) (hv:SV aA H v s) :
  ∃ ks',Tb aA H (putK kvs (Sum.inr x) v) ks' (d6 T x s)/\ks'.length<=ks.length+1/\∀ y,y ∈ ks' ↔ y ∈ ks\/y=x:=by
 have vals:∀ (ks':List Str),(∀ y,y ∈ ks' ↔ y ∈ ks\/y=x)->∀ y:Str,(cW (putK kvs (Sum.inr x) v) (Sum.inr y)=none/\d6 T x s y=eJ/\¬ y ∈ ks')\/(∃ u,cW (putK kvs (Sum.inr x) v) (Sum.inr y)=some u/\SV aA H u (d6 T x s y)/\y ∈ ks'):=by
  intro ks' hk y
  rw [sT]
  unfold d6
  by_cases e:y=x
  ·subst e
   rw [if_pos rfl,if_pos rfl]
   exact .inr ⟨v,rfl,hv,(hk y).mpr (.inr rfl)⟩
  ·rw [if_neg (fun z=>e (Sum.inr.inj z)),if_neg e]
   rcases h.val y with ⟨a,b,c⟩ | ⟨u,a,b,c⟩
   ·exact .inl ⟨a,b,fun z=>((hk y).mp z).elim c e⟩
   ·exact .inr ⟨u,a,b,(hk y).mpr (.inl c)⟩
 rcases xS (kvs:=kvs) (k:=(Sum.inr x:Key)) (v:=v) with ⟨e1,hm⟩ | ⟨e1,hn⟩
 ·have hx:x ∈ ks:=by
   rw [h.keys] at hm
   obtain⟨y,hy,e⟩:=List.mem_map.mp hm
   cases e
   exact hy
  have hk:∀ y,y ∈ ks ↔ y ∈ ks\/y=x:=fun y=>⟨.inl,fun z=>z.elim id fun e=>by rw [e];exact hx⟩
  exact⟨ks,⟨by rw [e1];exact h.keys,h.nd,vals ks hk⟩,Nat.le_succ _,hk⟩
 ·have hx:¬ x ∈ ks:=fun z=>hn (by rw [h.keys];exact List.mem_map.mpr ⟨x,z,rfl⟩)
  have hk:∀ y,y ∈ ks ++ [x] ↔ y ∈ ks\/y=x:=fun y=>by simp
  refine⟨ks ++ [x],⟨by rw [e1,h.keys,List.map_append];rfl,?_,vals _ hk⟩,by simp,hk⟩
  rw [List.nodup_append]
  refine⟨h.nd,by simp,fun a ha b hb=>?_⟩
  rw [List.mem_singleton] at hb
  subst hb
  exact fun z=>hx (by rw [<-z];exact ha)
def dF (T:Str->Sx) (x:Str):PyData:=.tuple [.str x,dS (T x)]
def FV (H:Hp) (v:V) (T:Str->Sx):Prop:=∃ (p:Addr) (xs:List V) (ss:List Str),v=.ref p/\H p=some (.tup xs)/\jP ss/\(∀ x,x ∈ ss ↔ T x ≠ eJ)/\bh H xs (ss.map (dF T))
def fW (T:Str->Sx) (ss:List Str):PyData:=.tuple (ss.map (dF T))
theorem mL (T:Str->Sx):∀ ss:List Str,bN (ss.map (dF T))=true
 | []=>rfl
 | x :: ss=>by
  show (bP (dF T x) && bN (ss.map (dF T)))=true
  rw [mL T ss]
  show ((true && ((bP (dO (T x).1) && (bP (dO (T x).2) && true)) && true)) && true)=true
  cases (T x).1 <;> cases (T x).2 <;> rfl
theorem FV.bb {H H':Hp} {v:V} {T:Str->Sx} (h:FV H v T) (k:∀ p xs,H p=some (.tup xs)->H' p=some (.tup xs)):FV H' v T:=by
 obtain⟨p,xs,ss,e,hp,hs,hm,r⟩:=h
 exact⟨p,xs,ss,e,k _ _ hp,hs,hm,r.bb k (mL T ss)⟩
theorem FV.same {H H':Hp} {v:V} {T:Str->Sx} (h:FV H v T) (s:au H H'):FV H' v T:=h.bb fun p xs e=>s _ _ e
theorem FV.tb {H:Hp} {xs:List V} {T:Str->Sx} {ss:List Str} (aA:Addr) (hs:jP ss) (hm:∀ x,x ∈ ss ↔ T x ≠ eJ) (r:bh H xs (ss.map (dF T))) :
  ∃ kvs:List (Key × V),xs.length=kvs.length/\(∀ (i:Nat) (k:Key) (v:V),kvs[i]? = some (k,v)->∃ q,xs[i]? = some (.ref q)/\H q=some (.tup [kV k,v]))/\(kvs.map (·.1)).Nodup/\Tb aA H kvs ss T:=by
 have go:∀ (ss:List Str) (xs:List V),bh H xs (ss.map (dF T))->∃ kvs:List (Key × V),xs.length=kvs.length/\(∀ (i:Nat) (k:Key) (v:V),kvs[i]? = some (k,v)->∃ q,xs[i]? = some (.ref q)/\H q=some (.tup [kV k,v])) /\
   kvs.map (·.1)=ss.map Sum.inr/\∀ x:Str,(cW kvs (Sum.inr x)=none/\¬ x ∈ ss)\/(∃ v,cW kvs (Sum.inr x)=some v/\SH H v (T x)/\x ∈ ss):=by
  intro ss
  induction ss with
  | nil =>
   intro xs r
   have z:=bh.nil_inv r
   subst z
   exact⟨[],rfl,fun i k v e=>by simp at e,rfl,fun x=>.inl ⟨rfl,by simp⟩⟩
  | cons y ss ih =>
   intro xs r
   obtain⟨x1,t1,rfl,h1,r⟩:=bh.cons_inv r
   obtain⟨kvs,l1,l2,l3,l4⟩:=ih t1 r
   obtain⟨q,zs,rfl,hq,rz⟩:=aS.cx h1
   obtain⟨z1,t2,rfl,g1,rz⟩:=rz.cons_inv
   obtain⟨z2,t3,rfl,g2,rz⟩:=rz.cons_inv
   have z:=rz.nil_inv
   subst z
   obtain⟨q2,ws,rfl,hq2,rw2⟩:=aS.cx g2
   obtain⟨w1,t4,rfl,f1,rw2⟩:=rw2.cons_inv
   obtain⟨w2,t5,rfl,f2,rw2⟩:=rw2.cons_inv
   have z:=rw2.nil_inv
   subst z
   have e1:w1=vO (T y).1:=vo f1
   have e2:w2=vO (T y).2:=vo f2
   subst e1 e2
   rw [g1.str_inv] at hq
   refine⟨(Sum.inr y,.ref q2) :: kvs,by simp [l1],fun i k v e=>?_,by simp [l3],fun x=>?_⟩
   ·cases i with
    | zero=>cases (Option.some.inj e);exact⟨q,rfl,hq⟩
    | succ i =>
     obtain⟨q',a,b⟩:=l2 i k v (by simpa using e)
     exact⟨q',by simpa using a,b⟩
   ·by_cases e:x=y
    ·subst e
     exact .inr ⟨_,dY rfl,⟨q2,rfl,hq2⟩,List.mem_cons_self ..⟩
    ·rw [dZ (fun z=>e (Sum.inr.inj z).symm)]
     rcases l4 x with ⟨a,b⟩ | ⟨v,a,b,c⟩
     ·exact .inl ⟨a,fun z=>(List.mem_cons.mp z).elim e b⟩
     ·exact .inr ⟨v,a,b,List.mem_cons_of_mem _ c⟩
 obtain⟨kvs,l1,l2,l3,l4⟩:=go ss xs r
 refine⟨kvs,l1,l2,?_,⟨l3,hs.nd,fun x=>?_⟩⟩
 ·rw [l3]
  exact List.Pairwise.map _ (fun a b n z=>n (Sum.inr.inj z)) hs.nd
 ·rcases l4 x with ⟨a,b⟩ | ⟨v,a,b,c⟩
  ·refine .inl ⟨a,?_,b⟩
   exact Classical.byContradiction fun z=>b ((hm x).mpr z)
  ·exact .inr ⟨v,a,.inl b,c⟩
theorem Bg (s:Sx):PyData.eqv (dS s) (.tuple [.none,.none])=decide (s=eJ):=by
 obtain⟨a,b⟩:=s
 cases a <;> cases b <;> rfl
theorem As (s:Sx):(dS s).canLay0=true:=by
 obtain⟨a,b⟩:=s
 cases a <;> cases b <;> rfl
theorem Dh (s:Sx):(dS s).depth<=60:=by
 obtain⟨a,b⟩:=s
 cases a <;> cases b <;> (show (1:Nat)<=60;decide)
section
variable {X:Cx}
theorem ym {pins:List (Addr × Obj)} {σ : St} {H:Hp} {s:Shared} {aA:Addr} (I:Inv X pins σ H s) (g:iS X.K X.mg aA):∃ as,Reads s.heap (.ref aA) (.tuple [.none,.none]) as:=by
 obtain⟨dc,n,sl,e⟩:=g.at_
 exact⟨_,.tuple (I.iJ aA _ e) rfl rfl (.cons .none (.cons .none .nil))⟩
theorem CG {aA:Addr} (hu:X.A.units+64 < cLine) (g:iS X.K X.mg aA):fm X (compareOp .NotEq) (fun x y H Q=>∃ s,SV aA H x s/\y=.ref aA/\Q (.bl (!decide (s=eJ))) H):=by
 intro pins sh σ H x y v u Q I rx ry h
 obtain⟨s,hs,rfl,q⟩:=h
 cases (show u=Value.ref aA from ry)
 obtain⟨bs,rb⟩:=ym I g
 rcases hs with hs | ⟨rfl,rfl⟩
 ·obtain⟨as,ra⟩:=hs.rd.reads I.aT rx
  refine PySem.SeqAt.neOverData X.prog X.w X.A X.xe sh v _ _ _ as bs _ ra rb (As s) rfl (by have:=Dh s;omega) ⟨.bl _,H,I,?_,q⟩
  show _=Value.bool (!decide (s=eJ))
  rw [Bg]
 ·cases (show v=Value.ref aA from rx)
  exact PySem.SeqAt.neOverData X.prog X.w X.A X.xe sh _ _ _ _ bs bs _ rb rb rfl rfl (by show X.A.units+1 < cLine;omega) ⟨.bl _,H,I,rfl,q⟩
end
def jQ (aA:Addr):Sp:=fun vs H Q _=>∃ (d:Addr) (kvs:List (Key × V)) (ks:List Str) (T:Str->Sx),vs = [.ref d]/\H d=some (.dK kvs)/\Tb aA H kvs ks T/\ks.length < 64/\∀ v H',FV H' v T->au H H'->Q v H'
def yn (o:Option Int) (n:Int):Option Int:=o.map (· + n)
def yo (s:Sx) (n:Int):Sx:=(yn s.1 n,yn s.2 n)
def CH (T:Str->Sx):cg->Sx
 | .put _ n=>(some n,some n)
 | .copy _ y=>T y
 | .add x n=>yo (T x) n
 | .read _=>eJ
 | .tell x=>T x
def ql (T:Str->Sx) (d:cg):Str->Sx:=d6 T (oS d) (CH T d)
def cA (T:Str->Sx):List cg->(Str->Sx):=fun ds=>ds.foldl ql T
def qm (K:PySem.W.Frag):Sp:=fun vs H Q _=>∃ (q:Addr) (s:Sx) (n:Int),vs = [.ref q,.int n]/\ay K H q [vO s.1,vO s.2]/\∀ v H',SH H' v (yo s n)->au H H'->Q v H'
def kG (aA:Addr):Sp:=fun vs H Q _=>∃ (d q:Addr) (kvs:List (Key × V)) (ks:List Str) (T:Str->Sx) (dd:cg),vs = [.ref d,.ref q]/\H d=some (.dK kvs)/\Tb aA H kvs ks T/\H q=some (.tup (iH dd))/\∀ v H',SV aA H' v (CH T dd)->au H H'->Q v H'
def nP:Sp:=fun vs H Q _=>∃ (fv:V) (p:Addr) (ws:List V) (ds:List cg) (T:Str->Sx) (m:Nat),vs = [fv,.ref p]/\FV H fv T/\H p=some (.tup ws)/\bh H ws (ds.map cq)/\(∀ ss:List Str,(∀ x ∈ ss,T x ≠ eJ)->ss.Nodup->ss.length<=m)/\m+ds.length < 64/\∀ v H',FV H' v (cA T ds)->au H H'->Q v H'
theorem Tb.getD {aA:Addr} {H:Hp} {kvs:List (Key × V)} {ks:List Str} {T:Str->Sx} (h:Tb aA H kvs ks T) (x:Str):∃ v,(cW kvs (Sum.inr x)).getD (.ref aA)=v/\SV aA H v (T x):=by
 rcases h.val x with ⟨a,b,_⟩ | ⟨v,a,b,_⟩
 ·exact⟨_,by rw [a];rfl,.inr ⟨rfl,b⟩⟩
 ·exact⟨v,by rw [a];rfl,b⟩
section
variable {C D:Addr} {H0 H H1:Hp} {w0 w1:WA} {plv:V} {x0 x1 x':Cv}
end
mutual
def fw:PyData->Bool
 | .none=>true
 | .int _=>true
 | .str _=>true
 | .tuple xs=>dJ xs
 | _=>false
def dJ:List PyData->Bool
 | []=>true
 | x :: xs=>fw x && dJ xs
end
mutual
def se:PyData->Nat
 | .tuple xs=>ma xs+1
 | _=>1
def ma:List PyData->Nat
 | []=>0
 | x :: xs=>se x+ma xs
end
noncomputable instance CQ:DecidableEq PyData:=fun a b=>Classical.propDecidable (a=b)
mutual
theorem vp:∀ {a b:PyData},fw a=true->fw b=true->(PyData.eqv a b=true ↔ a=b)
 | .none,.none,_,_=>⟨fun _=>rfl,fun _=>rfl⟩
 | .int i,.int j,_,_=>by show ((i == j)=true) ↔ _;rw [beq_iff_eq];exact⟨fun h=>by rw [h],fun h=>by injection h⟩
 | .str x,.str y,_,_=>by show ((x == y)=true) ↔ _;rw [beq_iff_eq];exact⟨fun h=>by rw [h],fun h=>by injection h⟩
 | .tuple xs,.tuple ys,ha,hb=>by
  show (PyData.eqvAll xs ys=true) ↔ _
  rw [o5 (show dJ xs=true from ha) (show dJ ys=true from hb)]
  exact⟨fun h=>by rw [h],fun h=>by injection h⟩
 | .none,.int _,_,_ | .none,.str _,_,_ | .none,.tuple _,_,_ | .int _,.none,_,_ | .int _,.str _,_,_ | .int _,.tuple _,_,_
 | .str _,.none,_,_ | .str _,.int _,_,_ | .str _,.tuple _,_,_ | .tuple _,.none,_,_ | .tuple _,.int _,_,_ | .tuple _,.str _,_,_=>⟨fun h=>(by cases h),fun h=>(by cases h)⟩
 | .bool _,_,h,_ | .list _,_,h,_ | .dict _,_,h,_=>by cases h
 | .none,.bool _,_,h | .none,.list _,_,h | .none,.dict _,_,h | .int _,.bool _,_,h | .int _,.list _,_,h | .int _,.dict _,_,h
 | .str _,.bool _,_,h | .str _,.list _,_,h | .str _,.dict _,_,h | .tuple _,.bool _,_,h | .tuple _,.list _,_,h | .tuple _,.dict _,_,h=>by cases h
theorem o5:∀ {a b:List PyData},dJ a=true->dJ b=true->(PyData.eqvAll a b=true ↔ a=b)
 | [],[],_,_=>⟨fun _=>rfl,fun _=>rfl⟩
 | x :: xs,y :: ys,ha,hb=>by
  have ha:(fw x && dJ xs)=true:=ha
  have hb:(fw y && dJ ys)=true:=hb
  rw [Bool.and_eq_true] at ha hb
  show ((PyData.eqv x y && PyData.eqvAll xs ys)=true) ↔ _
  rw [Bool.and_eq_true,vp ha.1 hb.1,o5 ha.2 hb.2]
  exact⟨fun ⟨h1,h2⟩=>by rw [h1,h2],fun h=>by injection h with h1 h2;exact⟨h1,h2⟩⟩
 | [],_ :: _,_,_ | _ :: _,[],_,_=>⟨fun h=>(by cases h),fun h=>(by cases h)⟩
end
mutual
theorem rh {h:Heap}:∀ {v:Value} {a b:PyData} {as bs:List Addr},Reads h v a as->Reads h v b bs->fw a=true->fw b=true->a=b
 | _,_,_,_,_,.none,.none,_,_=>rfl
 | _,_,_,_,_,.int i t,.int _ _,_,_=>rfl
 | _,_,_,_,_,.str x t,.str _ _,_,_=>rfl
 | _,_,_,_,_,.tuple e1 c1 d1 r1,.tuple e2 c2 d2 r2,ha,hb=>by
  rw [e1] at e2
  cases e2
  rw [d1] at d2
  cases d2
  rw [md r1 r2 ha hb]
 | _,_,_,_,_,.tuple e1 c1 d1 r1,.list e2 c2 d2 r2,_,hb=>by cases hb
 | _,_,_,_,_,.tuple e1 c1 d1 r1,.dict e2 c2 d2 r2 r3,_,hb=>by cases hb
 | _,_,_,_,_,.bool _,_,ha,_=>by cases ha
 | _,_,_,_,_,.list ..,_,ha,_=>by cases ha
 | _,_,_,_,_,.dict ..,_,ha,_=>by cases ha
theorem md {h:Heap}:∀ {vs:List Value} {a b:List PyData} {as bs:List Addr},ReadsAll h vs a as->ReadsAll h vs b bs->dJ a=true->dJ b=true->a=b
 | _,_,_,_,_,.nil,.nil,_,_=>rfl
 | _,_,_,_,_,.cons (d:=x) (ds:=xs) r1 t1,.cons (d:=y) (ds:=ys) r2 t2,ha,hb=>by
  have ha:(fw x && dJ xs)=true:=ha
  have hb:(fw y && dJ ys)=true:=hb
  rw [Bool.and_eq_true] at ha hb
  rw [rh r1 r2 ha.1 hb.1,md t1 t2 ha.2 hb.2]
end
mutual
theorem o6 {h h':Heap} (k:∀ a o n vs,h.get? a=some o->o.data=.seq vs n->h'.get? a=some o):∀ {v:Value} {a:PyData} {as:List Addr},Reads h v a as->fw a=true->Reads h' v a as
 | _,_,_,.none,_=>.none
 | _,_,_,.int i t,_=>.int i t
 | _,_,_,.str x t,_=>.str x t
 | _,_,_,.tuple e1 c1 d1 r1,ha=>.tuple (k _ _ _ _ e1 d1) c1 d1 (kZ k r1 ha)
 | _,_,_,.bool _,ha=>by cases ha
 | _,_,_,.list ..,ha=>by cases ha
 | _,_,_,.dict ..,ha=>by cases ha
theorem kZ {h h':Heap} (k:∀ a o n vs,h.get? a=some o->o.data=.seq vs n->h'.get? a=some o):∀ {vs:List Value} {a:List PyData} {as:List Addr},ReadsAll h vs a as->dJ a=true->ReadsAll h' vs a as
 | _,_,_,.nil,_=>.nil
 | _,_,_,.cons (d:=x) (ds:=xs) r1 t1,ha=>by
  have ha:(fw x && dJ xs)=true:=ha
  rw [Bool.and_eq_true] at ha
  exact .cons (o6 k r1 ha.1) (kZ k t1 ha.2)
end
section
variable {prog:Program} {w:World} {E:Value->Shared->Prop}
abbrev Au (w:World) (d:PyData):Int:=PySem.W.hashW w.params (PySem.W.ofPy d)
mutual
theorem o7:∀ (d:PyData) (v:Value) (as:List Addr) (A:Around) (s:Shared) (Q:Int->Shared->Prop),fw d=true->Reads s.heap v d as->A.units+d.depth < cLine ->
  Q (Au w d) { s with toks:=s.toks+se d }->wpAny (model prog w) A (pyHash v) Q E s
 | .none,_,_,A,s,Q,_,x,hu,h=>by
  cases x
  exact PySem.W.pyHash_slot (T := "NoneType") rfl F.slot_NoneType_hash F.entry_NoneType_hash (F.args_NoneType_hash_1 _) (beq_builtin_none _) (.inr (by omega)) (wpAny_bind (wpAny_pure (wpAny_bind (wpAny_mkInt (wpAny_pure ⟨_,_,rfl,h⟩)))))
 | .int i,_,_,A,s,Q,_,x,_,h=>by
  cases x
  refine wpAny_pyHash_int ?_
  have e:=PySem.W.hashW_int w.params i
  rw [<-e]
  exact h
 | .str y,_,_,A,s,Q,_,x,_,h=>by cases x;exact wpAny_pyHash_str h
 | .tuple xs,_,_,A,s,Q,hk,x,hu,h=>by
  cases x with
  | @tuple a o vs n _ _ hg hc hd hw =>
   refine PySem.W.pyHash_slot (T := "tuple") ⟨_,hg,hc⟩ F.slot_tuple_hash F.entry_tuple_hash (F.args_tuple_hash_1 _) (beq_builtin_none _) (.inr (by omega)) ?_
   show wpAny _ _ (Builtin.Tuple.tupleItemsOf (.ref a) >>= _) _ _ s
   refine wpAny_bind (wpAny_tupleItemsOf hg hd ?_)
   refine wpAny_bind ?_
   rw [<-Array.forIn_toList]
   refine rm xs vs.toList _ A.in1 s #[] _ hk hw (by have:(PyData.tuple xs).depth=PyData.depthAll xs+1:=rfl;rw [Around.in1_units];omega) fun b hb=>?_
   show wpAny _ _ (retInt (Builtin.Tuple.tupleHashOf b.toList)) _ _ _
   rw [hb]
   exact wpAny_bind (wpAny_mkInt (wpAny_pure ⟨_,_,rfl,h⟩))
 | .bool _,_,_,_,_,_,hk,_,_,_ | .list _,_,_,_,_,_,hk,_,_,_ | .dict _,_,_,_,_,_,hk,_,_,_=>by cases hk
theorem rm:∀ (xs:List PyData) (vs:List Value) (as:List Addr) (A:Around) (s:Shared) (b:Array Int) (Q:Array Int->Shared->Prop),dJ xs=true->ReadsAll s.heap vs xs as->A.units+PyData.depthAll xs < cLine ->
  (∀ b',b'.toList=b.toList++PySem.W.hashesW w.params (PySem.W.ofPys xs)->Q b' { s with toks:=s.toks+ma xs }) ->
  wpAny (model prog w) A (forIn vs b fun x r=>do let h <-pyHash x;pure PUnit.unit;pure (ForInStep.yield (r.push h))) Q E s
 | [],_,_,A,s,b,Q,_,x,_,h=>by cases x;exact wpAny_pure (h b (by simp [PySem.W.hashesW,PySem.W.ofPys]))
 | k :: xs,_,_,A,s,b,Q,hk,x,hu,h=>by
  cases x with
  | cons x1 x2 =>
   have hk:(fw k && dJ xs)=true:=hk
   rw [Bool.and_eq_true] at hk
   have hu:A.units+max k.depth (PyData.depthAll xs) < cLine:=hu
   rw [List.forIn_cons]
   refine wpAny_bind (wpAny_bind (o7 k _ _ A s _ hk.1 x1 (by omega) ?_))
   refine wpAny_bind (wpAny_pure (wpAny_pure ?_))
   refine rm xs _ _ A _ _ Q hk.2 x2 (by omega) fun b' hb=>?_
   have h2:=h b' (by simp [hb,PySem.W.hashesW,PySem.W.ofPys])
   have e:ma (k :: xs)=se k+ma xs:=rfl
   rw [e,<-Nat.add_assoc] at h2
   exact h2
end
mutual
theorem rn:∀ (d:PyData) (v:Value) (as:List Addr) (A:Around) (s:Shared) (n:Nat) (Q:Bool->Shared->Prop),fw d=true->Reads s.heap v d as->d.depth<=n->Q true s->wpAny (model prog w) A (eqIsQuiet n v) Q E s
 | .none,_,_,A,s,n,Q,_,x,_,h=>by cases x;unfold eqIsQuiet;exact wpAny_pure h
 | .int i,_,_,A,s,n,Q,_,x,_,h=>by cases x;unfold eqIsQuiet;exact wpAny_pure h
 | .str y,_,_,A,s,n,Q,_,x,_,h=>by cases x;unfold eqIsQuiet;exact wpAny_pure h
 | .tuple xs,_,_,A,s,n,Q,hk,x,hn,h=>by
  cases x with
  | @tuple a o vs n' _ _ hg hc hd hw =>
   have hn:PyData.depthAll xs+1<=n:=hn
   obtain⟨n,rfl⟩:∃ m,n=m+1:=⟨n - 1,by omega⟩
   have hT:s.TypeIs (.ref a) "tuple" := ⟨_,hg,hc⟩
   unfold eqIsQuiet
   refine wpAny_bind (wpAny_specialOf hT F.slot_tuple_eq.lookup ?_)
   show wpAny _ _ (isInstance (.ref a) (.type "tuple") >>= _) _ _ s
   refine wpAny_bind (wpAny_isInstance hT isSubtype_tuple_tuple ?_)
   simp only [Bool.not_true,Bool.false_eq_true,if_false]
   refine wpAny_bind (wpAny_seqItems hg hd ?_)
   refine wpAny_bind ?_
   show wpAny _ _ (forIn vs _ _) _ _ s
   rw [<-Array.forIn_toList]
   have hall:=rp xs vs.toList _ A s n hk hw (by omega)
   refine wpAny_forIn_list _ (fun rest r s'=>r.1=none/\s' = s/\∀ v ∈ rest,∀ Q:Bool->Shared->Prop,Q true s->wpAny (model prog w) A (eqIsQuiet n v) Q E s) _ ?_ ?_ _ _ ⟨rfl,rfl,hall⟩
   ·rintro v rest r s' ⟨hr,rfl,hq⟩
    refine wpAny_bind (hq v List.mem_cons_self _ ?_)
    simp only [Bool.not_true,Bool.false_eq_true,if_false]
    exact wpAny_pure ⟨rfl,rfl,fun u hu'=>hq u (List.mem_cons_of_mem _ hu')⟩
   ·rintro⟨r1,r2⟩ s' ⟨hr,rfl,_⟩
    simp only at hr
    subst hr
    exact wpAny_pure h
 | .bool _,_,_,_,_,_,_,hk,_,_,_ | .list _,_,_,_,_,_,_,hk,_,_,_ | .dict _,_,_,_,_,_,_,hk,_,_,_=>by cases hk
theorem rp:∀ (xs:List PyData) (vs:List Value) (as:List Addr) (A:Around) (s:Shared) (n:Nat),dJ xs=true->ReadsAll s.heap vs xs as->PyData.depthAll xs<=n->∀ v ∈ vs,∀ Q:Bool->Shared->Prop,Q true s->wpAny (model prog w) A (eqIsQuiet n v) Q E s
 | [],_,_,A,s,n,_,x,_=>by cases x;intro v hv;cases hv
 | k :: xs,_,_,A,s,n,hk,x,hn=>by
  cases x with
  | cons x1 x2 =>
   have hk:(fw k && dJ xs)=true:=hk
   rw [Bool.and_eq_true] at hk
   have hn:max k.depth (PyData.depthAll xs)<=n:=hn
   intro v hv Q h
   rcases List.mem_cons.mp hv with rfl | hv
   ·exact rn k _ _ A s n Q hk.1 x1 (by omega) h
   ·exact rp xs _ _ A s n hk.2 x2 (by omega) v hv Q h
end
end
structure jY (d:PyData):Prop where
 key:fw d=true
 lay:d.canLay0=true
 dep:d.depth<=7
 tup:∃ xs,d=.tuple xs
def jC (prog:Program) (w:World):HeapKind prog w PyData where
 is:=fun h d a=>jY d/\∃ as,Reads h (.ref a) d as
 hash:=Au w
 draws:=se
 room:=fun A=>A.units+64 < cLine
 inj:=fun ⟨h1,_,r1⟩ ⟨h2,_,r2⟩=>rh r1 r2 h1.key h2.key
 keeps:=fun {h h' k a d o es ep} ⟨h1,as,r1⟩ hd he hs=>⟨h1,as,o6 (fun b u n vs e1 e2=>by
  have hne:b ≠ d:=by
   rintro rfl
   rw [hd] at e1
   cases e1
   rw [he] at e2
   cases e2
  exact (hs.2 b hne).trans e1) r1 h1.key⟩
 pyHash:=fun hu ⟨h1,_,r1⟩ h=>o7 _ _ _ _ _ _ h1.key r1 (by have:=h1.dep;omega) h
 eqBool:=fun {A E s x y a b Q} hu ⟨h1,_,r1⟩ ⟨h2,_,r2⟩ h=>by
  refine PySem.SeqAt.eqAt_reads x y A s (.ref a) (.ref b) _ _ r1 r2 h1.lay h2.lay (by have:=h1.dep;have:=h2.dep;omega) prog w E Q ?_
  have e:PyData.eqv x y=decide (x=y):=by
   have:=vp h1.key h2.key
   by_cases hxy:x=y
   ·rw [decide_eq_true hxy];exact this.mpr hxy
   ·rw [decide_eq_false hxy];exact Bool.eq_false_iff.mpr fun z=>hxy (this.mp z)
  rw [e]
  exact h
 quiet:=fun ⟨h1,_,r1⟩ h=>rn _ _ _ _ _ _ _ h1.key r1 (by have:=h1.dep;omega) h
abbrev KX (kvs:List (PyData × Addr × V)) (xs:List (PyData × Addr × Value)):Prop:=Paired (fun (p:PyData × Addr × V) (q:PyData × Addr × Value)=>p.1=q.1/\p.2.1=q.2.1/\RelV p.2.2 q.2.2) kvs xs
def me (P:Program) (w:World) (a:Addr) (kvs:List (PyData × Addr × V)) (h:Heap):Prop:=(a == sysModules)=false/\kvs.length<=sizeLine /\
 ∃ (xs:List (PyData × Addr × Value)) (o:Obj) (es:Array DictEntry) (ep:Nat),h.get? a=some o/\o.ExactDict/\o.data=.dict es ep/\es.toList=xs.map (entryOfKey (jC P w))/\(xs.map (·.1)).Nodup/\KX kvs xs
def fz (P:Program) (w:World) (a:Addr) (kvs:List (PyData × Addr × V)):HO:=.ext (me P w a kvs)
theorem nQ {P:Program} {w:World} {H:Hp} {h:Heap} {a:Addr} {kvs:List (PyData × Addr × V)} (S:me P w a kvs h):cf P w H h a (fz P w a kvs) :=
 ⟨S,let ⟨_,_,_,o,_,_,e,_⟩:=S;⟨o,e⟩,fun h1 h2 ⟨s1,s2,xs,o,es,ep,e,r⟩ k=>⟨s1,s2,xs,o,es,ep,k o e,r⟩⟩
def Av (H:Hp) (kvs:List (PyData × Addr × V)):Prop:=∀ p ∈ kvs,jY p.1/\aS H (.ref p.2.1) p.1
noncomputable def fg (kvs:List (PyData × Addr × V)) (d:PyData):Option V:=(kvs.find? fun p=>decide (p.1=d)).map (·.2.2)
noncomputable def putD (kvs:List (PyData × Addr × V)) (d:PyData) (k:Addr) (v:V):List (PyData × Addr × V):=if (fg kvs d).isSome then kvs.map (fun p=>if p.1=d then (p.1,p.2.1,v) else p) else kvs ++ [(d,k,v)]
theorem KX.val {d:PyData}:∀ {kvs:List (PyData × Addr × V)} {xs:List (PyData × Addr × Value)},KX kvs xs->(fg kvs d=none/\atKey xs d=none)\/∃ v a u,fg kvs d=some v/\atKey xs d=some (a,u)/\RelV v u
 | _,_,.nil=>.inl ⟨rfl,rfl⟩
 | _,_,.cons (a:=p) (b:=q) (l₁:=kvs) (l₂:=xs) ⟨e1,e2,e3⟩ t=>by
  by_cases h:p.1=d
  ·refine .inr ⟨p.2.2,q.2.1,q.2.2,?_,?_,e3⟩
   ·unfold fg;rw [List.find?_cons_of_pos (by exact decide_eq_true h)];rfl
   ·unfold atKey;rw [List.find?_cons_of_pos (by exact decide_eq_true (e1 ▸ h))];rfl
  ·have h':¬ q.1=d:=fun z=>h (e1.trans z)
   have e4:fg (p :: kvs) d=fg kvs d:=by unfold fg;rw [List.find?_cons_of_neg (by rw [decide_eq_false h];decide)]
   have e5:atKey (q :: xs) d=atKey xs d:=by unfold atKey;rw [List.find?_cons_of_neg (by rw [decide_eq_false h'];decide)]
   rw [e4,e5]
   exact KX.val t
theorem KX.put {d:PyData} {k:Addr} {v:V} {u:Value} (r:RelV v u) {kvs:List (PyData × Addr × V)} {xs:List (PyData × Addr × Value)} (h:KX kvs xs):KX (putD kvs d k v) (storedH xs d k u):=by
 have hv:=h.val (d:=d)
 unfold putD storedH
 rcases hv with ⟨h1,h2⟩ | ⟨v',a',u',h1,h2,_⟩
 ·rw [h1,h2]
  have app:∀ {l:List (PyData × Addr × V)} {m:List (PyData × Addr × Value)},KX l m->KX (l ++ [(d,k,v)]) (m ++ [(d,k,u)]):=by
   intro l m q
   induction q with
   | nil=>exact .cons ⟨rfl,rfl,r⟩ .nil
   | cons hq _ ih=>exact .cons hq ih
  exact app h
 ·rw [h1,h2]
  show KX (kvs.map fun p=>if p.1=d then (p.1,p.2.1,v) else p) (xs.map (putAt d u))
  have go:∀ {l:List (PyData × Addr × V)} {m:List (PyData × Addr × Value)},KX l m->KX (l.map fun p=>if p.1=d then (p.1,p.2.1,v) else p) (m.map (putAt d u)):=by
   intro l m q
   induction q with
   | nil=>exact .nil
   | @cons p q ps qs hq _ ih =>
    refine .cons ?_ ih
    unfold putAt
    dsimp only
    by_cases e:p.1=d
    ·rw [if_pos e,if_pos (hq.1 ▸ e)]
     exact⟨hq.1,hq.2.1,r⟩
    ·rw [if_neg e,if_neg (fun z=>e (hq.1.trans z))]
     exact hq
  exact go h
theorem zH (kvs:List (PyData × Addr × V)) (d:PyData) (k:Addr) (v:V):(putD kvs d k v).length<=kvs.length+1:=by
 unfold putD
 split
 ·rw [List.length_map];omega
 ·rw [List.length_append];exact Nat.le_refl _
theorem KX.keys:∀ {kvs:List (PyData × Addr × V)} {xs:List (PyData × Addr × Value)},KX kvs xs->∀ q ∈ xs,∃ p ∈ kvs,p.1=q.1/\p.2.1=q.2.1
 | _,_,.nil,q,hq=>nomatch hq
 | _,_,.cons (a:=p) (l₁:=kvs) ⟨e1,e2,_⟩ t,q,hq=>by
  rcases List.mem_cons.mp hq with rfl | hq
  ·exact⟨p,List.mem_cons_self ..,e1,e2⟩
  ·obtain⟨p',hp',r⟩:=KX.keys t q hq
   exact⟨p',List.mem_cons_of_mem _ hp',r⟩
section
variable {X:Cx} {pins:List (Addr × Obj)} {σ : St} {H:Hp} {s:Shared} {a k:Addr} {kvs:List (PyData × Addr × V)} {d:PyData}
theorem key_is (I:Inv X pins σ H s) (hk:jY d) (r:aS H (.ref k) d):(jC X.prog X.w).is s.heap d k:=⟨hk,r.reads I.aT rfl⟩
theorem o8 (I:Inv X pins σ H s) (e:H a=some (fz X.prog X.w a kvs)) (hk:Av H kvs):(a == sysModules)=false/\kvs.length<=sizeLine/\∃ xs,KX kvs xs/\s.heap.DictOfH (jC X.prog X.w) a xs:=by
 obtain⟨h1,h2,xs,o,es,ep,g1,g2,g3,g4,g5,g6⟩:=(show me X.prog X.w a kvs s.heap from (I.aT a _ e).1)
 refine⟨h1,h2,xs,g6,o,es,ep,g1,g2,g3,g4,fun x hx=>?_,g5⟩
 obtain⟨p,hp,e1,e2⟩:=g6.keys x hx
 have:=hk p hp
 rw [<-e1,<-e2]
 exact key_is I this.1 this.2
theorem KX.len:∀ {kvs:List (PyData × Addr × V)} {xs:List (PyData × Addr × Value)},KX kvs xs->kvs.length=xs.length
 | _,_,.nil=>rfl
 | _,_,.cons _ t=>congrArg (· + 1) (KX.len t)
theorem sf {A:Around} (hu:A.units+66 < cLine) {P:Program} {w:World}:(jC P w).room A.in1:=by show A.in1.units+64 < cLine;rw [Around.in1_units];omega
structure wB (X:Cx) (H:Hp) (a k:Addr) (kvs:List (PyData × Addr × V)) (d:PyData):Prop where
 at_:H a=some (fz X.prog X.w a kvs)
 keys:Av H kvs
 key:jY d
 rd:aS H (.ref k) d
theorem Bh (hu:X.A.units+66 < cLine):fm X (compareOp .In) (fun x y H Q=>∃ k a d kvs,x=.ref k/\y=.ref a/\wB X H a k kvs d/\Q (.bl (fg kvs d).isSome) H):=by
 intro pins s σ H x y v u Q I rx ry h
 obtain⟨k,a,d,kvs,rfl,rfl,D,q⟩:=h
 cases rx
 cases ry
 obtain⟨h1,h2,xs,kx,dd⟩:=o8 I D.at_ D.keys
 refine wpAny_in_heap (sf hu) (key_is I D.key D.rd) h1 dd ?_
 have e:(atKey xs d).isSome=(fg kvs d).isSome:=by
  rcases kx.val (d:=d) with ⟨e1,e2⟩ | ⟨_,_,_,e1,e2,_⟩ <;> rw [e1,e2] <;> rfl
 rw [e]
 exact⟨.bl _,H,I.tok _,rfl,q⟩
theorem wC (hu:X.A.units+66 < cLine):fm X (compareOp .NotIn) (fun x y H Q=>∃ k a d kvs,x=.ref k/\y=.ref a/\wB X H a k kvs d/\Q (.bl (!(fg kvs d).isSome)) H):=by
 intro pins s σ H x y v u Q I rx ry h
 obtain⟨k,a,d,kvs,rfl,rfl,D,q⟩:=h
 cases rx
 cases ry
 obtain⟨h1,h2,xs,kx,dd⟩:=o8 I D.at_ D.keys
 refine wpAny_notIn_heap (sf hu) (key_is I D.key D.rd) h1 dd ?_
 have e:(atKey xs d).isSome=(fg kvs d).isSome:=by
  rcases kx.val (d:=d) with ⟨e1,e2⟩ | ⟨_,_,_,e1,e2,_⟩ <;> rw [e1,e2] <;> rfl
 rw [e]
 exact⟨.bl _,H,I.tok _,rfl,q⟩
theorem Bi {o i:Expr} {pos:Pos} {td ty:TE} (hu:X.A.units+66 < cLine) (ho:PE X o td) (hi:PE X i ty) (hs:vY i) :
  PE X (.Subscript o i pos) (fun σ H Q=>td σ H fun x H1=>ty σ H1 fun y H2=>∃ k a d kvs v,x=.ref a/\y=.ref k/\wB X H2 a k kvs d/\fg kvs d=some v/\Q v H2):=by
 intro pins s σ H Q I h
 refine pX PySem.F.slot_dict_getitem.lookup hs (ba (ho pins s σ H _ I h) fun u s1 ⟨x,H1,I1,rx,q1⟩=>ba (hi pins s1 σ H1 _ I1 q1) fun iv s2 ⟨y,H2,I2,ry,k,a,d,kvs,v,ex,ey,D,hv,q2⟩=>?_)
 subst ex ey
 obtain rfl:u=Value.ref a:=rx
 obtain rfl:iv=Value.ref k:=ry
 obtain⟨h1,h2,xs,kx,dd⟩:=o8 I2 D.at_ D.keys
 rcases kx.val (d:=d) with ⟨e1,_⟩ | ⟨v',a',u',e1,e2,e3⟩
 ·rw [e1] at hv;cases hv
 ·rw [e1] at hv
  cases hv
  exact⟨dd.typeIs,wpAny_getItem_heap (sf hu) (key_is I2 D.key D.rd) dd e2 ⟨_,H2,I2.tok _,e3,q2⟩⟩
theorem zI (hu:X.A.units+66 < cLine):yL X (fun o i v H Q=>∃ k a d kvs,o=.ref a/\i=.ref k/\wB X H a k kvs d/\kvs.length < sizeLine/\Q (upd H a (fz X.prog X.w a (putD kvs d k v)))):=by
 intro pins s σ H o i v ov iv u Q I ro ri rv h
 obtain⟨k,a,d,kvs,rfl,rfl,D,hz,q⟩:=h
 cases ro
 cases ri
 obtain⟨h1,h2,xs,kx,dd⟩:=o8 I D.at_ D.keys
 refine wpAny_setItem_heap (sf hu) (key_is I D.key D.rd) dd (fun h' hm' hs'=>?_) (by rw [<-kx.len];exact h2)
 obtain⟨o',es,ep,g1,g2,g3,g4,g5,g6⟩:=id hm'
 refine⟨_,I.write (t':=_) (x:=a) (e:=a) (by rw [D.at_];exact trivial) (.inl rfl) (fun c u' hc hu=>(hs'.2 c hc).trans hu) ⟨o',g1⟩ (nQ ⟨h1,?_,storedH xs d k u,o',es,ep,g1,g2,g3,g4,g6,kx.put rv⟩),q⟩
 have:=zH kvs d k v
 omega
end
open LS
section
variable {X:Cx}
end
def qo (a0 a1:V):List (Str × V):=[("members",a0),("places",a1)]
section
variable {a0 a1 z:V}
theorem ig:(qo a0 a1).lookup ("members" : Str)=some a0:=jV
theorem iO:(qo a0 a1).lookup ("places" : Str)=some a1:=(aJ (by decide +kernel) jV)
theorem o9:cu "members" a0 ([]:List (Str × V))=([("members",a0)]:List (Str × V)):=jW
theorem yq:cu "places" a1 ([("members",a0)]:List (Str × V))=qo a0 a1:=(bS (by decide +kernel) jW)
theorem tT:(qo a0 a1).lookup ("place_of" : Str)=none:=(aJ (by decide +kernel) (aJ (by decide +kernel) rfl))
end
structure tU (K:PySem.W.Frag) (C:Addr):Prop where
 cl:j4 K C
 members:dA K C "members"
 places:dA K C "places"
abbrev vN (ms:List Nat):List V:=ms.map fun k=>V.int (k:Nat)
def kH (m d:Addr) (H H':Hp):Prop:=∀ c o,H c=some o->c ≠ m->c ≠ d->H' c=some o
theorem kH.refl {m d:Addr} {H:Hp}:kH m d H H:=fun _ _ h _ _=>h
theorem kH.of_same {m d:Addr} {H H':Hp} (h:au H H'):kH m d H H':=fun c o e _ _=>h c o e
section
variable {C r m d:Addr} {H H':Hp} {ms:List Nat}
end
section
variable (C:Addr)
end
def Eh:Piece->Bool
 | ([],.go _)=>true
 | _=>false
theorem gW {l:List Nat} {n:Nat} (nd:l.Nodup) (h:∀ x ∈ l,x < n):l.length<=n:=by
 have:=sub_len nd (m:=List.range n) fun x hx=>List.mem_range.mpr (h x hx)
 simpa using this
def kJ:End->List V
 | .stop=>[.str "stop"]
 | .go _=>[.str "go"]
 | .cC b x n _ _=>[.str (wT b),.str x,.int n]
def zJ:End->List Nat->End
 | .go _,[a]=>.go a
 | .cC b x n _ _,[a,c]=>.cC b x n a c
 | e,_=>e
theorem zK {e:End} {ns:List Nat} (h:ns.length=(bu e).length):fN (zJ e ns)=kJ e++vN ns:=by
 cases e with
 | stop=>match ns,h with | [],_=>rfl
 | go p=>match ns,h with | [a],_=>rfl
 | cC b x n p q=>match ns,h with | [a,c],_=>rfl
theorem CI {H:Hp} {t:Addr} {e:End} (h:H t=some (.tup (fN e))):aS H (.ref t) (lP e):=by
 cases e with
 | stop=>exact .tup h (.cons (.str _) .nil)
 | go p=>exact .tup h (.cons (.str _) (.cons (.int _) .nil))
 | cC b x n p q=>exact .tup h (.cons (.str _) (.cons (.str _) (.cons (.int _) (.cons (.int _) (.cons (.int _) .nil)))))
theorem zL {ms:List Nat} {k:Nat} (h:ms.Nodup):(LS.putIn ms k).Nodup:=by
 unfold LS.putIn
 split
 ·exact h
 ·next hk =>
  rw [List.nodup_append]
  refine⟨h,by simp,fun x hx y hy z=>?_⟩
  rw [List.mem_singleton.mp hy] at z
  exact hk (z ▸ hx)
def mf:Sp:=fun vs H Q _=>∃ (ea:Addr) (e:End),vs = [.ref ea]/\H ea=some (.tup (fN e))/\∀ t H',H' t=some (.tup (kJ e))->au H H'->Q (.ref t) H'
theorem fF:∀ ds:List PyData,(∀ d ∈ ds,d.canLay0=true)->(PyData.tuple ds).canLay0=true
 | [],_=>rfl
 | d :: ds,h=>by
  have ih:=fF ds fun x hx=>h x (List.mem_cons_of_mem _ hx)
  show (d.canLay0 && (PyData.tuple ds).canLay0)=true
  rw [h d (List.mem_cons_self ..),ih]
  rfl
theorem mM {m:Nat}:∀ ds:List PyData,(∀ d ∈ ds,d.depth<=m)->PyData.depthAll ds<=m
 | [],_=>Nat.zero_le _
 | d :: ds,h=>by
  have ih:=mM ds fun x hx=>h x (List.mem_cons_of_mem _ hx)
  have h1:=h d (List.mem_cons_self ..)
  show max d.depth (PyData.depthAll ds)<=m
  omega
theorem zM (d:cg):(cq d).depth<=1:=by cases d <;> exact Nat.le_refl 1
theorem fX {x:Str} (h:fR x):PyData.canLay0 (.str x)=true:=by
 show (x.cps.all fun c=>decide (c < 0x110000))=true
 rw [<-Array.all_toList,List.all_eq_true]
 intro c hc
 have:=h.az c hc
 exact decide_eq_true (by omega)
theorem zN {xs:List Str} (hx:∀ x ∈ xs,fR x) {d:cg} (h:fS xs d):(cq d).canLay0=true:=by
 cases d with
 | put x n =>
  refine fF _ fun y hy=>?_
  rcases List.mem_cons.mp hy with rfl | hy
  ·decide +kernel
  rcases List.mem_cons.mp hy with rfl | hy
  ·exact fX (hx _ h.1)
  rw [List.mem_singleton.mp hy];rfl
 | copy x z =>
  refine fF _ fun y hy=>?_
  rcases List.mem_cons.mp hy with rfl | hy
  ·decide +kernel
  rcases List.mem_cons.mp hy with rfl | hy
  ·exact fX (hx _ h.1)
  rw [List.mem_singleton.mp hy];exact fX (hx _ h.2)
 | add x n =>
  refine fF _ fun y hy=>?_
  rcases List.mem_cons.mp hy with rfl | hy
  ·decide +kernel
  rcases List.mem_cons.mp hy with rfl | hy
  ·exact fX (hx _ h.1)
  rw [List.mem_singleton.mp hy];rfl
 | read x =>
  refine fF _ fun y hy=>?_
  rcases List.mem_cons.mp hy with rfl | hy
  ·decide +kernel
  rw [List.mem_singleton.mp hy];exact fX (hx _ h)
 | tell x =>
  refine fF _ fun y hy=>?_
  rcases List.mem_cons.mp hy with rfl | hy
  ·decide +kernel
  rw [List.mem_singleton.mp hy];exact fX (hx _ h)
theorem Bj {xs:List Str} (hx:∀ x ∈ xs,fR x) {c:Nat} {e:End} (h:jJ xs c e):(lP e).canLay0=true:=by
 cases e with
 | stop =>
  refine fF _ fun y hy=>?_
  rw [List.mem_singleton.mp hy];decide +kernel
 | go p =>
  refine fF _ fun y hy=>?_
  rcases List.mem_cons.mp hy with rfl | hy
  ·decide +kernel
  rw [List.mem_singleton.mp hy];rfl
 | cC b x n p q =>
  refine fF _ fun y hy=>?_
  rcases List.mem_cons.mp hy with rfl | hy
  ·cases b <;> decide +kernel
  rcases List.mem_cons.mp hy with rfl | hy
  ·exact fX (hx _ h.1)
  rcases List.mem_cons.mp hy with rfl | hy
  ·rfl
  rcases List.mem_cons.mp hy with rfl | hy
  ·rfl
  rw [List.mem_singleton.mp hy];rfl
def D2 (ps:List Piece):Prop:=∀ p ∈ ps,(PyData.tuple (p.1.map cq)).canLay0=true/\(lP p.2).canLay0=true
theorem zO {xs:List Str} (hx:∀ x ∈ xs,fR x) {m:Nat} {ps:List Piece} (ok:cM xs m ps):D2 ps:=fun p hp =>
 ⟨fF _ fun d hd=>by obtain⟨x,hx',rfl⟩:=List.mem_map.mp hd;exact zN hx ((ok.iX p hp).2 x hx'),Bj hx (ok.ends p hp)⟩
theorem qp (k:Nat):∀ ms:List Nat,qM (.int (k:Nat)) (vN ms)=decide (k ∈ ms)
 | []=>rfl
 | m :: ms=>by
  have ih:=qp k ms
  show ((((m:Nat):Int) == ((k:Nat):Int)) || qM (.int (k:Nat)) (vN ms))=_
  rw [ih]
  by_cases e:m=k
  ·subst e;simp
  ·have e':¬ (m:Int)=(k:Int):=by omega
   rw [beq_false_of_ne e',Bool.false_or]
   have:k ∈ m :: ms ↔ k ∈ ms:=by rw [List.mem_cons];exact⟨fun h=>h.resolve_left fun z=>e z.symm,.inr⟩
   simp only [this]
theorem vq (ms:List Nat):(vN ms).all iG=true:=by rw [List.all_eq_true];intro v hv;obtain⟨k,_,rfl⟩:=List.mem_map.mp hv;rfl
theorem yr (ms:List Nat):vN ms=(ms.map fun k:Nat=>(k:Int)).map V.int:=by rw [List.map_map];rfl
section
variable {X:Cx} {pins:List (Addr × Obj)} {σ : L2.St} {H:Hp} {s:Shared} {a:Addr}
end
section
variable {X:Cx}
end
def Sound (T:Str->Sx) (w:Str->Int):Prop:=∀ x,cH (w x) (T x).1 (T x).2=true
theorem Sound.step {T:Str->Sx} {w:Str->Int} (h:Sound T w) (x:Str) {n:Int} {s:Sx} (hs:cH n s.1 s.2=true):Sound (d6 T x s) (cT w x n):=fun y=>by
 unfold d6 cT
 by_cases e:y=x
 ·rw [if_pos e,if_pos e];exact hs
 ·rw [if_neg e,if_neg e];exact h y
theorem rA {w:Str->Int} {x:Str}:cT w x (w x)=w:=by
 funext y
 unfold cT
 by_cases e:y=x
 ·rw [if_pos e,e]
 ·rw [if_neg e]
theorem Bk {n k:Int} {s:Sx} (h:cH n s.1 s.2=true):cH (n+k) (yo s k).1 (yo s k).2=true:=by
 obtain⟨a,b⟩:=s
 cases a <;> cases b <;> simp [cH,yo,yn] at h ⊢ <;> omega
theorem zP {x:Str} (h:fR x):PyData.canLay0 (.str x)=true:=by
 show (x.cps.all fun c=>decide (c < 0x110000))=true
 rw [<-Array.all_toList,List.all_eq_true]
 intro c hc
 have:=h.az c hc
 exact decide_eq_true (by omega)
def wF (T:Str->Sx) (m:Nat):Prop:=∀ ss:List Str,(∀ x ∈ ss,T x ≠ eJ)->ss.Nodup->ss.length<=m
def qq (aA:Addr):Sp:=fun vs H Q _=>∃ (fv:V) (x:Str) (T:Str->Sx),vs = [fv,.str x]/\FV H fv T/\∀ v H',SV aA H' v (T x)->au H H'->Q v H'
def jZ (aA:Addr):Sp:=fun vs H Q _=>∃ (fv sv:V) (x:Str) (T:Str->Sx) (s:Sx),vs = [fv,.str x,sv]/\FV H fv T/\SV aA H sv s/\wF T 62/\∀ v H',FV H' v (d6 T x s)->au H H'->Q v H'
section
variable {X:Cx}
end
def qr (K:PySem.W.Frag):Sp:=fun vs H Q _=>∃ (n:Int) (q:Addr) (lo hi:Option Int),vs = [.int n,.ref q]/\ay K H q [vO lo,vO hi]/\Q (.bl (cH n lo hi)) H
def iT (K:PySem.W.Frag) (F:Option Int->Option Int->Int->Rs):Sp:=fun vs H Q _=>∃ (p:Addr) (n:Int) (lo hi:Option Int),vs = [.ref p,.int n]/\ay K H p [vO lo,vO hi]/\∀ v H',RV H' v (F lo hi n)->au H H'->Q v H'
def mN (K:PySem.W.Frag):Sp:=fun vs H Q _=>∃ (p:Addr) (w:Str) (n:Int) (side:Bool) (lo hi:Option Int),vs = [.ref p,.str w,.int n,.bl side]/\ay K H p [vO lo,vO hi]/\∀ v H',RV H' v (cR w lo hi n side)->au H H'->Q v H'
def eM (T:Str->Sx) (b:Bool) (x:Str) (n:Int) (side:Bool):Rs:=cR (wT b) (T x).1 (T x).2 n side
def iU (T:Str->Sx):End->List (Option (Str->Sx))
 | .stop=>[]
 | .go _=>[some T]
 | .cC b x n _ _=>[(eM T b x n true).map (d6 T x),(eM T b x n false).map (d6 T x)]
def BV (H:Hp) (u:V):Option (Str->Sx)->Prop
 | none=>u=.bI
 | some T=>FV H u T
theorem BV.bb {H H':Hp} {u:V} {o:Option (Str->Sx)} (h:BV H u o) (k:∀ p xs,H p=some (.tup xs)->H' p=some (.tup xs)):BV H' u o:=by
 cases o with
 | none=>exact h
 | some T=>exact FV.bb h k
def lg (H:Hp) (us:List V) (os:List (Option (Str->Sx))):Prop:=Paired (BV H) us os
def cS (T:Str->Sx) (e:End):List (Nat × (Str->Sx)):=((bu e).zip (iU T e)).filterMap fun p=>p.2.map fun U=>(p.1,U)
def nR (aA:Addr):Sp:=fun vs H Q _=>∃ (fv:V) (ea:Addr) (T:Str->Sx) (e:End),vs = [fv,.ref ea]/\FV H fv T/\H ea=some (.tup (fN e))/\wF T 62 /\
 ∀ (t:Addr) (us:List V) (H':Hp),H' t=some (.tup us)->lg H' us (iU T e)->au H H'->Q (.ref t) H'
def PV (H:Hp) (v:V) (p:Nat × (Str->Sx)):Prop:=∃ q u,v=.ref q/\H q=some (.tup [.int p.1,u])/\FV H u p.2
theorem PV.bb {H H':Hp} {v:V} {p:Nat × (Str->Sx)} (h:PV H v p) (k:∀ p xs,H p=some (.tup xs)->H' p=some (.tup xs)):PV H' v p:=by
 obtain⟨q,u,e,h1,h2⟩:=h
 exact⟨q,u,e,k _ _ h1,h2.bb k⟩
def mh (H:Hp) (vs:List V) (ps:List (Nat × (Str->Sx))):Prop:=Paired (PV H) vs ps
theorem mh.bb {H H':Hp} (k:∀ p xs,H p=some (.tup xs)->H' p=some (.tup xs)):∀ {vs:List V} {ps:List (Nat × (Str->Sx))},mh H vs ps->mh H' vs ps
 | _,_,.nil=>.nil
 | _,_,.cons h t=>.cons (h.bb k) (mh.bb k t)
theorem lg.bb {H H':Hp} (k:∀ p xs,H p=some (.tup xs)->H' p=some (.tup xs)):∀ {vs:List V} {ps:List (Option (Str->Sx))},lg H vs ps->lg H' vs ps
 | _,_,.nil=>.nil
 | _,_,.cons h t=>.cons (h.bb k) (lg.bb k t)
theorem mh.same {H H':Hp} {vs:List V} {ps:List (Nat × (Str->Sx))} (h:mh H vs ps) (s:au H H'):mh H' vs ps:=h.bb fun p xs e=>s _ _ e
theorem lg.same {H H':Hp} {vs:List V} {ps:List (Option (Str->Sx))} (h:lg H vs ps) (s:au H H'):lg H' vs ps:=h.bb fun p xs e=>s _ _ e
def qt (aA:Addr):Sp:=fun vs H Q _=>∃ (fv:V) (ea:Addr) (T:Str->Sx) (e:End),vs = [fv,.ref ea]/\FV H fv T/\H ea=some (.tup (fN e))/\wF T 62 /\
 ∀ (t:Addr) (vs:List V) (H':Hp),H' t=some (.tup vs)->mh H' vs (cS T e)->au H H'->Q (.ref t) H'
def tV (T:Str->Sx):Prop:=∀ x,T x ≠ eJ->PyData.canLay0 (.str x)=true
theorem yt {T:Str->Sx} (h:tV T):∀ ss:List Str,(∀ x ∈ ss,T x ≠ eJ)->(fW T ss).canLay0=true
 | [],_=>rfl
 | x :: ss,hs=>by
  have ih:=yt h ss fun y hy=>hs y (List.mem_cons_of_mem _ hy)
  show ((PyData.canLay0 (.str x) && ((dS (T x)).canLay0 && true)) && (fW T ss).canLay0)=true
  rw [h x (hs x (List.mem_cons_self ..)),As,ih]
  rfl
theorem CJ (T:Str->Sx) (ss:List Str):(fW T ss).depth<=3:=by
 have go:∀ ss:List Str,PyData.depthAll (ss.map (dF T))<=2:=by
  intro ss
  induction ss with
  | nil=>exact Nat.zero_le _
  | cons x ss ih =>
   show max (max 0 (max ((dS (T x)).depth) 0)+1) (PyData.depthAll (ss.map (dF T)))<=2
   have hd:(dS (T x)).depth<=1:=by
    obtain⟨a,b⟩:=T x
    cases a <;> cases b <;> (show (1:Nat)<=1;decide)
   omega
 show PyData.depthAll (ss.map (dF T))+1<=3
 have:=go ss
 omega
theorem Bm {T:Str->Sx} {e:End} (h:(bu e).length < 2):iU T e=(bu e).map fun _=>some T:=by
 cases e with
 | stop=>rfl
 | go p=>rfl
 | cC b x n p q=>exact absurd h (by show ¬ 2 < 2;omega)
theorem vt {H:Hp} {fv:V} {T:Str->Sx} (h:FV H fv T):∀ l:List Nat,lg H (List.replicate l.length fv) (l.map fun _=>some T)
 | []=>.nil
 | _ :: l=>.cons h (vt h l)
def ng (H:Hp) (vs:List V) (rs:List Rs):Prop:=Paired (RV H) vs rs
theorem ng.same {H H':Hp} (s:au H H'):∀ {vs:List V} {rs:List Rs},ng H vs rs->ng H' vs rs
 | _,_,.nil=>.nil
 | _,_,.cons h t=>.cons (h.same s) (ng.same s t)
theorem ng.put {H:Hp} {l:Addr} {xs:List V} {o:HO} (hl:H l=some (.lst xs)):∀ {vs:List V} {rs:List Rs},ng H vs rs->ng (upd H l o) vs rs
 | _,_,.nil=>.nil
 | _,_,.cons h t=>.cons (h.put hl) (ng.put hl t)
theorem RV.sv {aA:Addr} {H:Hp} {v:V} {s:Sx} (h:RV H v (some s)):SV aA H v s:=by
 obtain⟨a,b⟩:=s
 obtain⟨p,e,h⟩:=h
 exact .inl ⟨p,e,h⟩
def mi (ss:List Str):PyData:=.tuple (ss.map fun x=>.tuple [.str x,.tuple [.int 0,.int 0]])
def qu:Sp:=fun vs H Q _=>∃ (plv:V) (ps:List Piece) (xs:List Str) (m:Nat),vs = [plv]/\aS H plv (df ps)/\cM xs m ps/\xs.length < 64/\(bJ ps).length<=4000 /\
 ∀ (v:V) (ss:List Str) (H':Hp),aS H' v (mi ss)->ss.Perm (dI (bJ ps))->sortedS ss=true->au H H'->Q v H'
theorem gX:∀ ss:List Str,bN (ss.map fun x=>PyData.tuple [.str x,.tuple [.int 0,.int 0]])=true
 | []=>rfl
 | x :: ss=>by
  show (true && bN (ss.map fun x=>PyData.tuple [.str x,.tuple [.int 0,.int 0]]))=true
  rw [gX ss];rfl
theorem yu {T:Str->Sx} {e:End} {i k:Nat} {o:Option (Str->Sx)} (h1:(bu e)[i]? = some k) (h2:(iU T e)[i]? = some o) :
  (((bu e).zip (iU T e)).take (i+1)).filterMap (fun p=>p.2.map fun U=>(p.1,U))=(((bu e).zip (iU T e)).take i).filterMap (fun p=>p.2.map fun U=>(p.1,U))++(o.map fun U=>(k,U)).toList:=by
 have hz:((bu e).zip (iU T e))[i]? = some (k,o):=by rw [List.getElem?_zip_eq_some];exact⟨h1,h2⟩
 rw [List.take_add_one,hz,List.filterMap_append]
 cases o <;> rfl
theorem iP {α β : Type} {F:α->β->Prop} {l:List α} {m:List β} (h:Paired F l m) {i:Nat} {x:α} (e:l[i]? = some x):∃ y,m[i]? = some y/\F x y:=LS.kF h e
theorem gh {α β : Type} {F:α->β->Prop}:∀ {l l':List α} {m m':List β},Paired F l m->Paired F l' m'->Paired F (l++l') (m++m')
 | _,_,_,_,.nil,h=>h
 | _,_,_,_,.cons r t,h=>.cons r (gh t h)
section
variable {prog:Program} {w:World} {A:Around} {E:Value->Shared->Prop} {s:Shared}
end
section
variable {X:Cx}
end
theorem Bn {xs:List Str} {m:Nat} {ps:List Piece} (ok:cM xs m ps):(bJ ps).length<=ps.length * (2 * m+1):=by
 unfold bJ
 have h:∀ p ∈ ps,(pNames p).length<=2 * m+1:=fun p hp=>by
  have h1:=(ok.iX p hp).1
  unfold pNames
  rw [List.length_append]
  have h2:(p.1.flatMap d7).length<=2 * p.1.length:=by
   induction p.1 with
   | nil=>simp
   | cons d ds ih =>
    rw [List.flatMap_cons,List.length_append,List.length_cons]
    have:(d7 d).length<=2:=by cases d <;> simp [d7]
    omega
  have h3:(jB p.2).length<=1:=by cases p.2 <;> simp [jB]
  omega
 clear ok
 induction ps with
 | nil=>simp
 | cons p ps ih =>
  rw [List.flatMap_cons,List.length_append,List.length_cons]
  have h1:=h p (List.mem_cons_self ..)
  have h2:=ih fun q hq=>h q (List.mem_cons_of_mem _ hq)
  rw [Nat.add_mul]
  omega
theorem uy {K:PySem.W.Frag} {cd:Value} {q:Str} (h:PySem.W.codeIn K cd q=true):PySem.W.kdsCode K cd=true:=by
 unfold PySem.W.codeIn at h
 unfold PySem.W.kdsCode
 split at h
 ·split at h
  ·rename_i ho
   dsimp only
   rw [ho]
  ·cases h
 ·cases h
theorem Bo {prog:Program} {w:World} {A:Around} {E:Value->Shared->Prop} {s:Shared} {Q:Value->Shared->Prop} (q:Q (.ref s.heap.objs.size) { s with heap:=s.heap.push (cQ w) }):wpAny (model prog w) A (newSet (.type "set")) Q E s:=by
 unfold newSet setsByText
 refine wpAny_bind (wpAny_bind (wpAny_askSetting (wpAny_pure ?_)))
 dsimp only
 simp only [newObj]
 first
  | exact wpAny_alloc (wpAny_pure q)
  | exact wpAny_bind (wpAny_alloc (wpAny_pure q))
  | exact wpAny_bind (wpAny_alloc (wpAny_pure (wpAny_pure q)))
  | exact wpAny_bind (wpAny_alloc q)
section
variable {X:Cx}
theorem Bp {e:Expr} {k:Nat} {pos:Pos} {te:TE} (hc:PySem.W.kdsCode X.K X.env.code=true) (he:PE X e te) (hk:displayRoad k [e] = .oneByOne:=by rfl) (hs:starEach [e] X.env = [(false,eval e X.env)]:=by rfl) :
  PE X (.Set [e] k pos) (fun σ H Q=>∀ l,H l=none->te σ (upd H l (cD X.prog X.w l [])) fun x H1=>H1 l=some (cD X.prog X.w l [])/\∃ kk,x=kV kk/\Q (.ref l) (upd H1 l (cD X.prog X.w l [kk]))):=by
 intro pins s σ H Q I h
 rw [arm_eval_Set]
 refine wpAny_bind (wpAny_standAt ?_)
 refine wpAny_bind (PySem.W.kds_main I.iJ hc fun b=>?_)
 rw [hs,hk]
 unfold setDisplay
 dsimp only
 rw [if_neg (by decide)]
 refine wpAny_bind (Bo ?_)
 dsimp only
 simp only [List.map_cons,List.map_nil,List.length_cons,List.length_nil,Nat.reduceAdd,gt_iff_lt,Nat.reduceLT,if_false,List.findIdx?_cons,List.findIdx?_nil,Option.map_none,Option.getD_none,List.take_succ_cons,List.take_zero,List.drop_succ_cons,List.drop_nil,evalAll,Bool.false_eq_true]
 have hS:eQ (aP X.prog X.w) (s.heap.push (cQ X.w)) s.heap.objs.size []:=lU rfl (Heap.get?_push_size _ rfl)
 have I1:Inv X pins σ (upd H s.heap.objs.size (cD X.prog X.w s.heap.objs.size [])) { s with heap:=s.heap.push (cQ X.w) }:=I.laid (t':=s.toks) (fun b o e=>Heap.get?_push_of_some _ e) (Nat.le_refl _) (kf hS)
 refine wpAny_bind (wpAny_holding ?_)
 refine wpAny_bind (wpAny_bind (wpAny_bind (ba (he pins _ σ _ _ I1 (h _ I.fresh)) fun v s1 ⟨x,H1,I2,rx,hl1,kk,ex,q⟩=>wpAny_bind (wpAny_standAt (wpAny_pure ?_)))))
 subst ex
 refine wpAny_bind (wpAny_holding (wpAny_pure (wpAny_pure ?_)))
 refine wpAny_bind (wpAny_holding ?_)
 simp only [List.forIn_cons,List.forIn_nil]
 refine wpAny_bind (wpAny_bind (wpAny_bind (qi (mK rx) (I2.qh hl1) (by decide) fun h' b S' c=>wpAny_pure ?_)))
 refine wpAny_pure ?_
 rw [if_neg (by decide)]
 refine wpAny_pure ?_
 refine wpAny_bind (wpAny_pure (wpAny_pure (wpAny_pure ?_)))
 have e1:LS.putIn ([]:List Key) kk = [kk]:=by unfold LS.putIn;rw [if_neg (by simp)];rfl
 rw [e1] at S'
 refine⟨.ref s.heap.objs.size,_,I2.write (t':=s1.toks+1) (x:=s.heap.objs.size) (e:=s.heap.objs.size) (by rw [hl1];exact trivial) (.inl rfl) (fun c u' hc hu=>b.extBut c u' hc hu) ?_ (kf S'),rfl,q⟩
 obtain⟨o,_,_,_,So⟩:=S'
 exact⟨o,So.at_⟩
end
section
variable {prog:Program} {w:World} {A:Around} {E:Value->Shared->Prop} {s:Shared}
theorem yw {d:Addr} (hd:(d == sysModules)=false) :
  MeetsIn prog w (Builtin.«dict.__len__» ⟨[.ref d],[]⟩) (fun _ R s=>∃ (o:Obj) (es:Array DictEntry) (ep:Nat),s.heap.get? d=some o/\o.data=.dict es ep/\R (.ok (.ret (.int es.size s.toks))) { s with toks:=s.toks+1 }) :=
 .of_wp fun A R s ⟨o,es,ep,ho,hdat,h⟩=>by
  show wpAny _ _ (dictSize d >>= _) _ _ s
  unfold dictSize
  refine wpAny_bind (wpAny_bind (wpAny_dictEntries ho hdat (wpAny_pure ?_)))
  show wpAny _ _ (Builtin.Dict.pendingCount d >>= _) _ _ s
  refine wpAny_bind (wpAny_pendingCount_other hd ?_)
  refine wpAny_ret_mkInt ?_
  rw [Nat.add_zero];exact h
theorem Bq {d:Addr} {o:Obj} {es:Array DictEntry} {ep:Nat} {Q:Value->Shared->Prop} (hd:(d == sysModules)=false) (ho:s.heap.get? d=some o) (hc:o.ExactDict) (hdat:o.data=.dict es ep) (hfit:(es.size:Int) < 2 ^ 63)
  (h:Q (.int es.size (s.toks+1)) { s with toks:=s.toks+1+1 }):wpAny (model prog w) A (call (.builtin "len") [.ref d]) Q E s:=by
 refine Calls.call_function_entry kind_len plain_len entry_len (args_len1 _) ?_
 have hT:s.TypeIs (.ref d) "dict" := ⟨o,ho,hc.1⟩
 unfold Builtin.«len»
 refine wpAny_bind (m:=oneArg "len" _) (wpAny_pure ?_)
 refine wpAny_bind (m:=callSpecial? (.ref d) (Str.ofString "__len__")) (wpAny_callSpecial?_slot (name:=Str.ofString "__len__") hT F.slot_dict_len
  (call_meetsIn F.slot_dict_len hT F.entry_dict_len (F.args_dict_len_1 _) (yw hd) ⟨o,es,ep,ho,hdat,?_⟩))
 show wpAny _ _ _ _ _ { s with toks:=s.toks+1 }
 refine wpAny_bind (wpAny_holding (wpAny_pure ?_))
 refine wpAny_bind (wpAny_letGo ?_)
 show wpAny _ _ (if ((es.size:Nat):Int) < 0 then _ else _) _ _ _
 rw [if_neg (by omega)]
 show wpAny _ _ (if ((es.size:Nat):Int) >= 2 ^ 63 then _ else _) _ _ _
 rw [if_neg (by omega)]
 exact wpAny_bind (wpAny_mkInt (wpAny_pure ⟨_,rfl,h⟩))
end
section
variable {X:Cx}
theorem wG:eU X (.builtin "len") (fun xs H Q=>∃ a kvs,xs = [V.ref a]/\H a=some (fz X.prog X.w a kvs)/\Q (.int kvs.length) H):=by
 intro pins s σ H xs us Q I r h
 obtain⟨a,kvs,rfl,ha,q⟩:=h
 obtain⟨u,rfl,ru⟩:=vals1 r
 cases ru
 obtain⟨h1,h2,xs,o,es,ep,g1,g2,g3,g4,g5,g6⟩:=(show me X.prog X.w a kvs s.heap from (I.aT a _ ha).1)
 have hz:es.size=kvs.length:=by rw [g6.len,<-Array.length_toList,g4,List.length_map]
 have hn:=jm
 refine Bq h1 g1 g2 g3 (by omega) ?_
 rw [hz]
 exact⟨.int _,H,I.tok _,⟨_,rfl⟩,q⟩
theorem zQ {pos:Pos} {keys:List (Option Expr)} {values:List Expr} {trs:List (TE × TE)} (hu:X.A.units+66 < cLine) (h:Al X pos keys values trs) (hall:keys.all (·.isSome)=true) (hl:keys.length=values.length) (h0:keys ≠ [])
  (h15:keys.length<=15):PE X (.Dict keys values pos) (fun σ H Q=>∀ p,H p=none->sW trs σ (upd H p (fz X.prog X.w p [])) fun ps H2=>H2 p=some (fz X.prog X.w p [])/\∃ k v d,ps = [(.ref k,v)]/\jY d/\aS H2 (.ref k) d/\Q (.ref p) (upd H2 p (fz X.prog X.w p [(d,k,v)]))):=by
 intro pins s σ H Q I q
 have hn:=I.aT.fresh (Nat.le_refl s.heap.objs.size)
 obtain⟨_,hb,_⟩:=(show cf X.prog X.w H _ s.heap.objs.size (.dK []) from sV s.heap I.big)
 have D0:me X.prog X.w s.heap.objs.size [] (s.heap.push { cls:=.type "dict",data:=.dict #[] }):=⟨hb,Nat.zero_le _,[],_,#[],0,Heap.get?_push_size _ rfl,⟨rfl,rfl,rfl⟩,rfl,rfl,List.nodup_nil,.nil⟩
 have I1:=I.laid (a:=s.heap.objs.size) (o:=fz X.prog X.w s.heap.objs.size []) (h':=s.heap.push { cls:=.type "dict",data:=.dict #[] }) (t':=s.toks) (fun _ _ q=>Heap.get?_push_of_some _ q) (Nat.le_refl _) (nQ D0)
 refine wpAny_Dict_any hall hl h0 h15 (ba (h pins _ σ _ _ I1 (q _ hn)) fun ws s2 ⟨ps,H2,I2,rel,e,k,v,d,ep,hk,r,q2⟩=>?_)
 subst ep
 cases rel with
 | @cons _ wp _ _ hr t =>
 cases t
 obtain⟨wk,wv⟩:=wp
 obtain⟨r1,r2⟩:=hr
 cases (show wk=Value.ref k from r1)
 obtain⟨hd0,_,xs,kx,dd⟩:=o8 I2 e (fun p hp=>nomatch hp)
 cases kx
 unfold storeAll
 simp only [List.forIn_cons,List.forIn_nil]
 refine wpAny_bind (wpAny_bind (wpAny_dictSet_heap (knd:=jC X.prog X.w) (show X.A.units+64 < cLine by omega) (key_is I2 hk r) dd (fun h' hm' hs'=>wpAny_pure (wpAny_pure ?_)) (Nat.zero_le _)))
 obtain⟨o',es,ep,g1,g2,g3,g4,g5,g6⟩:=id hm'
 refine⟨.ref s.heap.objs.size,_,I2.write (t':=_) (x:=s.heap.objs.size) (e:=s.heap.objs.size) (by rw [e];exact trivial) (.inl rfl) (fun c u' hc hu=>(hs'.2 c hc).trans hu) ⟨o',g1⟩ (nQ ⟨hd0,(by show 1<=sizeLine;decide),[(d,k,wv)],o',es,ep,g1,g2,g3,g4,g6,.cons ⟨rfl,rfl,r2⟩ .nil⟩),rfl,q2⟩
end
section
variable {X:Cx}
end
theorem tW {A:Around} {k:Nat} (hr:cN k A):A.units+66 < cLine:=by have:=hr.un;omega
section
variable {P:Program} {w:World} {K:PySem.W.Frag} {mg:Str->Option Value} {base:Heap}
theorem bQ.Ef {x qual:Str} {st:Stmt} {f:Addr} {fd:FuncData} {N ps:List Str} {k:Nat} {sp:Sp} (F:bQ K x qual st f fd) (S:aL N ps (ar st)) (len:∀ vs H Q E,sp vs H Q E->vs.length=ps.length)
  (hbody:∀ (cdv:Value) (A:Around) (outer:List Env) (s:Shared) (H:Hp) (vs:List V) (Q:VK) (E:XK),PySem.W.kdsCode K cdv=true->cN k (A.deeper (envOfC qual (ar st) s.heap.objs.size f cdv))->sp vs H Q E ->
   ∃ t,jG (nz bO P w K mg base N qual (ar st) f cdv A outer s H E).uM (aI st) t/\t { nx:=fun _ H'=>Q .bI H',rt:=Q } (start N vs) H):bc P w K mg base bO (k+1) f fd ps sp:=by
 obtain⟨oc,od,kV,doc,pm,an,cdv,ct,osl,rfl,lk,hcd⟩:=F.ex
 refine Ah lk hcd S len fun A outer s H vs Q E hr hsp=>?_
 obtain⟨t,h,q⟩:=hbody cdv A outer s H vs Q E (uy hcd) hr hsp
 exact⟨t,h.uM,q⟩
end
def de:Nat->List (PyData × Addr)->List (PyData × Addr × V)
 | _,[]=>[]
 | n,p :: ps=>(p.1,p.2,.int (n:Nat)) :: de (n+1) ps
theorem nS:∀ (n:Nat) (ms:List (PyData × Addr)),(de n ms).length=ms.length
 | _,[]=>rfl
 | n,_ :: ms=>congrArg (· + 1) (nS (n+1) ms)
theorem tX:∀ (n:Nat) (ms:List (PyData × Addr)) (p:PyData × Addr),de n (ms ++ [p])=de n ms ++ [(p.1,p.2,.int ((n+ms.length:Nat):Int))]
 | n,[],p=>rfl
 | n,q :: ms,p=>by
  show (q.1,q.2,V.int (n:Nat)) :: de (n+1) (ms ++ [p])=_
  rw [tX (n+1) ms p,show n+1+ms.length=n+(q :: ms).length by rw [List.length_cons];omega]
  rfl
theorem tY:∀ (n:Nat) (ms:List (PyData × Addr)),∀ q ∈ de n ms,∃ p ∈ ms,q.1=p.1/\q.2.1=p.2
 | _,[],q,hq=>nomatch hq
 | n,p :: ms,q,hq=>by
  rcases List.mem_cons.mp hq with rfl | hq
  ·exact⟨p,List.mem_cons_self ..,rfl,rfl⟩
  ·obtain⟨p',hp,r⟩:=tY (n+1) ms q hq
   exact⟨p',List.mem_cons_of_mem _ hp,r⟩
theorem kK (d:PyData):∀ (n:Nat) (ms:List (PyData × Addr)),fg (de n ms) d=if d ∈ ms.map (·.1) then some (.int ((n+(ms.map (·.1)).idxOf d:Nat):Int)) else none
 | n,[]=>by simp [de,fg]
 | n,p :: ms=>by
  have ih:=kK d (n+1) ms
  by_cases h:p.1=d
  ·have e1:fg (de n (p :: ms)) d=some (.int (n:Nat)):=by
    unfold fg de
    rw [List.find?_cons_of_pos (by exact decide_eq_true h)]
    rfl
   rw [e1,if_pos (by rw [List.map_cons,h];exact List.mem_cons_self ..),List.map_cons,h,List.idxOf_cons_self]
   rfl
  ·have e1:fg (de n (p :: ms)) d=fg (de (n+1) ms) d:=by
    show fg ((p.1,p.2,V.int (n:Nat)) :: de (n+1) ms) d=_
    unfold fg
    rw [List.find?_cons_of_neg (by rw [decide_eq_false h];decide)]
   rw [e1,ih,List.map_cons]
   by_cases hm:d ∈ ms.map (·.1)
   ·rw [if_pos hm,if_pos (List.mem_cons_of_mem _ hm),List.idxOf_cons,beq_false_of_ne h]
    simp only [cond_false]
    congr 3
    omega
   ·rw [if_neg hm,if_neg (fun z=>(List.mem_cons.mp z).elim (fun z=>h z.symm) hm)]
structure ij (P:Program) (w:World) (C:Addr) (H:Hp) (r m d:Addr) (ms:List (PyData × Addr)):Prop where
 ob:∃ dx,H r=some (.ins C dx (qo (.ref m) (.ref d)))
 mem:H m=some (.lst (ms.map fun p=>V.ref p.2))
 mj:H d=some (fz P w d (de 0 ms))
 keys:∀ p ∈ ms,jY p.1/\aS H (.ref p.2) p.1
noncomputable def kL (ms:List (PyData × Addr)) (d:PyData) (k:Addr):List (PyData × Addr):=if d ∈ ms.map (·.1) then ms else ms ++ [(d,k)]
section
variable {P:Program} {w:World} {C r m d:Addr} {H H':Hp} {ms:List (PyData × Addr)}
theorem ij.j2 (A:ij P w C H r m d ms):Av H (de 0 ms):=fun q hq=>by
 obtain⟨p,hp,e1,e2⟩:=tY 0 ms q hq
 rw [e1,e2]
 exact A.keys p hp
theorem ij.vb (A:ij P w C H r m d ms):r ≠ m/\r ≠ d/\d ≠ m:=by
 obtain⟨dx,h1⟩:=A.ob
 refine⟨bA h1 A.mem ?_,bA h1 A.mj ?_,bA A.mj A.mem ?_⟩ <;> (intro z;cases z)
end
section
variable (P:Program) (w:World) (C:Addr)
def kM:Sp:=fun vs H Q _=>∃ (r dx k:Addr) (d0:PyData),vs = [.ref r,.ref k]/\H r=some (.ins C dx [])/\jY d0/\aS H (.ref k) d0/\bP d0=true /\
 ∀ (m d:Addr) (H':Hp),ij P w C H' r m d [(d0,k)]->(∀ c o,H c=some o->c ≠ r->H' c=some o)->H m=none->H d=none->Q .bI H'
def kN:Sp:=fun vs H Q _=>∃ (r m d k:Addr) (d0:PyData) (ms:List (PyData × Addr)),vs = [.ref r,.ref k]/\ij P w C H r m d ms/\ms.length<=1000/\jY d0/\aS H (.ref k) d0/\bP d0=true/\(∀ p ∈ ms,bP p.1=true) /\
 ∀ H',ij P w C H' r m d (kL ms d0 k)->kH m d H H'->Q (.int (((kL ms d0 k).map (·.1)).idxOf d0:Nat)) H'
end
inductive ml (ps:List Piece):Nat->Prop
 | zero:ml ps 0
 | step {i k:Nat} {ds:List cg} {e:End}:ml ps i->ps[i]? = some (ds,e)->k ∈ bu e->ml ps k
def cX (ps:List Piece) (k:Nat):Prop:=∃ i ds e,ml ps i/\ps[i]? = some (ds,e)/\k ∈ bu e/\k<=i
abbrev kI (ks:List Nat):List Key:=ks.map fun k:Nat=>(Sum.inl (k:Int):Key)
theorem tZ {ks:List Nat} {k:Nat}:(Sum.inl (k:Int):Key) ∈ kI ks ↔ k ∈ ks:=by
 rw [List.mem_map]
 constructor
 ·rintro⟨x,hx,e⟩
  have:=Sum.inl.inj e
  rw [show k=x by omega];exact hx
 ·intro h;exact⟨k,h,rfl⟩
theorem yx {ks:List Nat} {k:Nat}:LS.putIn (kI ks) (Sum.inl (k:Int))=kI (LS.putIn ks k):=by
 unfold LS.putIn
 by_cases h:k ∈ ks
 ·rw [if_pos h,if_pos (tZ.mpr h)]
 ·rw [if_neg h,if_neg (fun z=>h (tZ.mp z))]
  show _=(ks ++ [k]).map _
  rw [List.map_append];rfl
theorem vv (ks:List Nat):kI ks=(ks.map fun k:Nat=>(k:Int)).map Sum.inl:=by rw [List.map_map];rfl
structure wH (ps:List Piece) (ks ws:List Nat):Prop where
 nd:ks.Nodup
 lt:∀ k ∈ ks,k < ps.length
 CK:∀ k ∈ ks,ml ps k
 zero:0 ∈ ks
 sub:∀ k ∈ ws,k ∈ ks
 done:∀ k ∈ ks,k ∈ ws\/∀ ds e,ps[k]? = some (ds,e)->∀ j ∈ bu e,j ∈ ks
theorem wH.all {ps:List Piece} {ks:List Nat} (h:wH ps ks []):∀ k,k ∈ ks ↔ ml ps k:=fun k=>by
 refine⟨h.CK k,fun r=>?_⟩
 induction r with
 | zero=>exact h.zero
 | step r hp hk ih=>exact (h.done _ ih).elim (fun z=>nomatch z) fun z=>z _ _ hp _ hk
theorem vw {ps:List Piece} (hin:dm ps) {i:Nat} {ds:List cg} {e:End} (h:ps[i]? = some (ds,e)):∀ k ∈ bu e,k < ps.length:=fun k hk=>by
 have h1:=hin _ (List.mem_of_getElem? h)
 cases e with
 | stop=>cases hk
 | go p=>rw [List.mem_singleton.mp hk];exact h1
 | cC b x n p q =>
  rcases List.mem_cons.mp hk with z | z
  ·rw [z];exact h1.1
  ·rw [List.mem_singleton.mp z];exact h1.2
def mn:Sp:=fun vs H Q _=>∃ (plv:V) (ps:List Piece),vs = [plv]/\aS H plv (df ps)/\dm ps/\0 < ps.length/\ps.length<=60 /\
 ∀ (t:Addr) (ks:List Nat) (H':Hp),H' t=some (.tup (vN ks))->(∀ k,k ∈ ks ↔ ml ps k)->(∀ k ∈ ks,k < ps.length)->ks.length<=60->au H H'->Q (.ref t) H'
def qv:Sp:=fun vs H Q _=>∃ (plv:V) (ps:List Piece),vs = [plv]/\aS H plv (df ps)/\dm ps/\0 < ps.length/\ps.length<=60 /\
 ∀ (t:Addr) (ks:List Nat) (H':Hp),H' t=some (.tup (vN ks))->(∀ k,k ∈ ks ↔ cX ps k)->ks.length<=60->au H H'->Q (.ref t) H'
theorem mq {ss:List Int} {ks:List Nat} (h:ss.Perm (ks.map fun k:Nat=>(k:Int))):∃ ms:List Nat,ss=ms.map (fun k:Nat=>(k:Int))/\ms.Perm ks:=by
 refine⟨ss.map Int.toNat,?_,?_⟩
 ·rw [List.map_map]
  have:∀ x ∈ ss,((fun k:Nat=>(k:Int)) ∘ Int.toNat) x=x:=fun x hx=>by
   obtain⟨k,_,rfl⟩:=List.mem_map.mp (h.mem_iff.mp hx)
   show ((Int.toNat (k:Int):Nat):Int)=k
   omega
  rw [List.map_congr_left this,List.map_id']
 ·have:=h.map Int.toNat
  rw [List.map_map] at this
  have e:ks.map (Int.toNat ∘ fun k:Nat=>(k:Int))=ks:=by
   rw [List.map_congr_left (g:=id) (fun x _=>by show Int.toNat (x:Int)=x;omega),List.map_id]
  rw [e] at this
  exact this
abbrev Cp:=Nat × (Str->Sx)
def T0:Str->Sx:=fun _=>eJ
def FD (T:Str->Sx) (d:PyData):Prop:=∃ ss:List Str,jP ss/\(∀ x,x ∈ ss ↔ T x ≠ eJ)/\d=fW T ss
theorem FV.fd {H:Hp} {v:V} {T:Str->Sx} (h:FV H v T):∃ d,FD T d/\aS H v d:=by
 obtain⟨p,xs,ss,rfl,hp,srt,hm,r⟩:=h
 exact⟨_,⟨ss,srt,hm,rfl⟩,.tup hp r⟩
theorem FD.fv {H:Hp} {v:V} {T:Str->Sx} {d:PyData} (h:FD T d) (r:aS H v d):FV H v T:=by
 obtain⟨ss,srt,hm,rfl⟩:=h
 obtain⟨p,xs,rfl,hp,r⟩:=aS.cx r
 exact⟨p,xs,ss,rfl,hp,srt,hm,r⟩
theorem FD.unique {T:Str->Sx} {d d':PyData} (h:FD T d) (h':FD T d'):d=d':=by
 obtain⟨ss,srt,hm,rfl⟩:=h
 obtain⟨ss',srt',hm',rfl⟩:=h'
 rw [srt.unique srt' fun x=>by rw [hm,hm']]
theorem yy {a b:Option Int} (h:dO a=dO b):a=b:=by
 cases a with
 | none=>cases b with
  | none=>rfl
  | some _=>cases h
 | some i=>cases b with
  | none=>cases h
  | some j=>injection h with h;rw [h]
theorem CL {a b:Sx} (h:dS a=dS b):a=b:=by
 obtain⟨a1,a2⟩:=a
 obtain⟨b1,b2⟩:=b
 have h1:[dO a1,dO a2] = [dO b1,dO b2]:=by injection h
 injection h1 with h1 h2
 injection h2 with h2 _
 rw [yy h1,yy h2]
theorem vx {T T':Str->Sx}:∀ {ss ss':List Str},ss.map (dF T)=ss'.map (dF T')->ss=ss'/\∀ x ∈ ss,T x=T' x
 | [],[],_=>⟨rfl,fun _ h=>nomatch h⟩
 | [],_ :: _,h=>by cases h
 | _ :: _,[],h=>by cases h
 | x :: ss,y :: ss',h=>by
  rw [List.map_cons,List.map_cons] at h
  injection h with h1 h2
  have h3:[PyData.str x,dS (T x)] = [PyData.str y,dS (T' y)]:=by injection h1
  injection h3 with h4 h5
  injection h5 with h5 _
  have exy:x=y:=by injection h4
  subst exy
  obtain⟨e,hr⟩:=vx h2
  refine⟨by rw [e],fun z hz=>?_⟩
  rcases List.mem_cons.mp hz with rfl | hz
  ·exact CL h5
  ·exact hr z hz
theorem FD.inj {T T':Str->Sx} {d:PyData} (h:FD T d) (h':FD T' d):T=T':=by
 obtain⟨ss,srt,hm,rfl⟩:=h
 obtain⟨ss',srt',hm',e⟩:=h'
 have e':ss.map (dF T)=ss'.map (dF T'):=by injection e
 obtain⟨rfl,hx⟩:=vx e'
 funext x
 by_cases h:x ∈ ss
 ·exact hx x h
 ·have h1:T x=eJ:=Classical.byContradiction fun z=>h ((hm x).mpr z)
  have h2:T' x=eJ:=Classical.byContradiction fun z=>h ((hm' x).mpr z)
  rw [h1,h2]
theorem FD.zero:FD T0 (.tuple []):=⟨[],⟨List.Pairwise.nil,List.nodup_nil⟩,fun x=>⟨fun h=>(nomatch h),fun h=>absurd rfl h⟩,rfl⟩
def CD (c:Cp) (d:PyData):Prop:=∃ fd,FD c.2 fd/\d=.tuple [.int (c.1:Nat),fd]
theorem CD.iff {c c':Cp} {d d':PyData} (h:CD c d) (h':CD c' d'):d=d' ↔ c=c':=by
 obtain⟨fd,hf,rfl⟩:=h
 obtain⟨fd',hf',rfl⟩:=h'
 constructor
 ·intro e
  have e1:[PyData.int (c.1:Nat),fd] = [PyData.int (c'.1:Nat),fd']:=by injection e
  injection e1 with e2 e3
  injection e3 with e3 _
  have e4:(c.1:Int)=(c'.1:Int):=by injection e2
  subst e3
  exact Prod.ext (by omega) (hf.inj hf')
 ·rintro rfl
  rw [hf.unique hf']
noncomputable instance Dq:DecidableEq Cp:=fun a b=>Classical.propDecidable (a=b)
theorem CD.mem {c:Cp} {d:PyData} (h:CD c d):∀ {ds:List PyData} {cs:List Cp},Paired (fun d c=>CD c d) ds cs->(d ∈ ds ↔ c ∈ cs)/\ds.idxOf d=cs.idxOf c
 | _,_,.nil=>⟨by simp,rfl⟩
 | _,_,.cons (a:=d') (b:=c') (l₁:=ds) (l₂:=cs) h' t=>by
  obtain⟨i1,i2⟩:=CD.mem h t
  have e:=h'.iff h
  constructor
  ·rw [List.mem_cons,List.mem_cons,i1]
   constructor
   ·rintro (z | z)
    ·exact .inl (e.mp z.symm).symm
    ·exact .inr z
   ·rintro (z | z)
    ·exact .inl (e.mpr z.symm).symm
    ·exact .inr z
  ·rw [List.idxOf_cons,List.idxOf_cons]
   by_cases z:d' = d
   ·have z':=e.mp z
    rw [z,z',beq_self_eq_true,beq_self_eq_true]
    rfl
   ·have z':¬ c' = c:=fun w=>z (e.mpr w)
    rw [beq_false_of_ne z,beq_false_of_ne z',i2]
theorem pd {T:Str->Sx}:∀ ss:List Str,fw (fW T ss)=true
 | []=>rfl
 | x :: ss=>by
  have ih:dJ (ss.map (dF T))=true:=pd ss
  show ((true && (fw (dS (T x)) && true)) && dJ (ss.map (dF T)))=true
  rw [ih]
  obtain⟨a,b⟩:=T x
  cases a <;> cases b <;> rfl
theorem CD.key {c:Cp} {d:PyData} (h:CD c d) (hl:tV c.2):jY d:=by
 obtain⟨fd,⟨ss,srt,hm,rfl⟩,rfl⟩:=h
 refine⟨?_,?_,?_,_,rfl⟩
 ·show (true && (fw (fW c.2 ss) && true))=true
  rw [pd];rfl
 ·show (true && ((fW c.2 ss).canLay0 && true))=true
  rw [yt hl ss fun x hx=>(hm x).mp hx];rfl
 ·show max 0 (max (fW c.2 ss).depth 0)+1<=7
  have:=CJ c.2 ss
  omega
section
variable (tops:Nat->Prop) (most:Nat)
open Classical in
noncomputable def bE (cs:List Cp) (c:Cp):Cp:=if tops c.1 then (c.1,T0) else if c ∈ cs\/cs.length < most then c else (c.1,T0)
noncomputable def fA (st:List Cp × List Nat) (l:Cp):List Cp × List Nat:=(LS.putIn st.1 (bE tops most st.1 l),st.2 ++ [(LS.putIn st.1 (bE tops most st.1 l)).idxOf (bE tops most st.1 l)])
noncomputable def bU (cs:List Cp) (ls:List Cp):List Cp × List Nat:=ls.foldl (fA tops most) (cs,[])
theorem uz {cs ls:List Cp} {i:Nat} {l:Cp} (h:ls[i]? = some l):bU tops most cs (ls.take (i+1))=fA tops most (bU tops most cs (ls.take i)) l:=by
 unfold bU
 rw [List.take_add_one,h,List.foldl_append]
 rfl
def kO (e:End):List Nat->End
 | [a]=>.go a
 | ns=>zJ e ns
noncomputable def gm (ps:List Piece):Nat->List Cp->List Piece->List Cp × List Piece
 | 0,cs,outs=>(cs,outs)
 | f+1,cs,outs=>match cs[outs.length]? with
  | none=>(cs,outs)
  | some c=>match ps[c.1]? with
   | none=>(cs,outs)
   | some pc=>gm ps f (bU tops most cs (cS (cA c.2 pc.1) pc.2)).1 (outs ++ [(pc.1,kO pc.2 (bU tops most cs (cS (cA c.2 pc.1) pc.2)).2)])
end
theorem rB {T:Str->Sx}:∀ ss:List Str,bP (fW T ss)=true
 | []=>rfl
 | x :: ss=>by
  have ih:bN (ss.map (dF T))=true:=rB ss
  show ((true && (bP (dS (T x)) && true)) && bN (ss.map (dF T)))=true
  rw [ih]
  obtain⟨a,b⟩:=T x
  cases a <;> cases b <;> rfl
theorem CD.jR {c:Cp} {d:PyData} (h:CD c d):bP d=true:=by
 obtain⟨fd,⟨ss,srt,hm,rfl⟩,rfl⟩:=h
 show (true && (bP (fW c.2 ss) && true))=true
 rw [rB];rfl
def qw:Sp:=fun vs H Q _=>∃ (ea l:Addr) (e:End) (ns:List Nat),vs = [.ref ea,.ref l]/\H ea=some (.tup (fN e))/\H l=some (.lst (vN ns))/\(ns.length=1\/ns.length=(bu e).length)/\ns.length<=2 /\
 ∀ t H',H' t=some (.tup (fN (kO e ns)))->au H H'->Q (.ref t) H'
abbrev nh (ms:List (PyData × Addr)) (cs:List Cp):Prop:=Paired (fun d c=>CD c d) (ms.map (·.1)) cs
def mr (P:Program) (w:World):Sp:=fun vs H Q _=>∃ (la tp d:Addr) (most k:Nat) (T:Str->Sx) (dl:PyData) (hs:List Nat) (fv:V) (ms:List (PyData × Addr)) (cs:List Cp) (tops:Nat->Prop),vs = [.ref la,.ref tp,.ref d,.int (most:Nat)] /\
 H la=some (.tup [.int (k:Nat),fv])/\aS H (.ref la) dl/\CD (k,T) dl/\tV T/\H tp=some (.tup (vN hs))/\(∀ j,j ∈ hs ↔ tops j)/\H d=some (fz P w d (de 0 ms))/\Av H (de 0 ms)/\nh ms cs /\
 ∀ (a:Addr) (d':PyData) (H':Hp),aS H' (.ref a) d'->CD (bE tops most cs (k,T)) d'->au H H'->Q (.ref a) H'
structure dn (xs:List Str) (T:Str->Sx):Prop where
 sup:∀ x,T x ≠ eJ->x ∈ xs
 le:∀ x,tf (T x).1 (T x).2
theorem dn.zero {xs:List Str}:dn xs T0:=⟨fun x h=>absurd rfl h,fun x=>True.intro⟩
theorem dn.set {xs:List Str} {T:Str->Sx} (h:dn xs T) {x:Str} {s:Sx} (hx:x ∈ xs) (hs:tf s.1 s.2):dn xs (d6 T x s):=by
 refine⟨fun y hy=>?_,fun y=>?_⟩
 ·unfold d6 at hy
  by_cases e:y=x
  ·rw [e];exact hx
  ·rw [if_neg e] at hy;exact h.sup y hy
 ·unfold d6
  by_cases e:y=x
  ·rw [if_pos e];exact hs
  ·rw [if_neg e];exact h.le y
theorem Br {w:Str} {lo hi:Option Int} {n:Int} {side:Bool} {s:Sx} (le:tf lo hi) (h:cR w lo hi n side=some s):tf s.1 s.2:=by
 unfold cR at h
 split at h
 ·unfold ic at h
  split at h
  ·unfold ff at h
   cases lo with
   | none=>cases h;exact True.intro
   | some l =>
    dsimp only at h
    split at h
    ·cases h
    ·cases h;show l<=iw hi n;omega
  ·unfold fP at h
   cases hi with
   | none=>cases h;exact True.intro
   | some l =>
    dsimp only at h
    split at h
    ·cases h
    ·cases h;show gH lo n<=l;omega
 ·unfold lQ at h
  split at h
  ·unfold kW at h
   split at h
   ·cases h;exact Int.le_refl n
   ·cases h
  ·unfold gI at h
   split at h
   ·next h1 =>
    split at h
    ·cases h
    ·next h2 =>
     cases h
     subst h1
     cases hi with
     | none=>exact True.intro
     | some b =>
      have:n<=b:=le
      have:¬ b=n:=fun z=>h2 (by rw [z])
      show n+1<=b
      omega
   ·next h1 =>
    split at h
    ·next h2 =>
     cases h
     subst h2
     cases lo with
     | none=>exact True.intro
     | some a =>
      have:a<=n:=le
      have:¬ a=n:=fun z=>h1 (by rw [z])
      show a<=n - 1
      omega
    ·cases h;exact le
theorem dn.Eg {xs:List Str} {T:Str->Sx} (h:dn xs T) {d:cg} (hd:fS xs d):dn xs (ql T d):=by
 refine h.set hd.name ?_
 cases d with
 | put x n=>exact Int.le_refl n
 | copy x y=>exact h.le y
 | add x n =>
  have:=h.le x
  show tf (yn (T x).1 n) (yn (T x).2 n)
  cases e1:(T x).1 with
  | none=>exact True.intro
  | some a=>cases e2:(T x).2 with
   | none=>exact True.intro
   | some b =>
    rw [e1,e2] at this
    have:a<=b:=this
    show a+n<=b+n
    omega
 | read x=>exact True.intro
 | tell x=>exact h.le x
theorem dn.wI {xs:List Str}:∀ {ds:List cg} {T:Str->Sx},dn xs T->(∀ d ∈ ds,fS xs d)->dn xs (cA T ds)
 | [],_,h,_=>h
 | d :: ds,T,h,hd=>dn.wI (ds:=ds) (h.Eg (hd d (List.mem_cons_self ..))) fun e he=>hd e (List.mem_cons_of_mem _ he)
theorem vy {xs:List Str} {c:Nat} {T:Str->Sx} {e:End} (h:dn xs T) (he:jJ xs c e):∀ p ∈ cS T e,p.1 < c/\dn xs p.2:=fun p hp=>by
 unfold cS at hp
 obtain⟨⟨k,o⟩,ho,hm⟩:=List.mem_filterMap.mp hp
 have hz:=List.of_mem_zip ho
 cases e with
 | stop=>cases hz.1
 | go q =>
  rw [List.mem_singleton.mp hz.2] at hm
  cases hm
  exact⟨by rw [List.mem_singleton.mp hz.1];exact he,h⟩
 | cC b x n q r =>
  have hk:k < c:=by
   rcases List.mem_cons.mp hz.1 with z | z
   ·rw [z];exact he.2.2.1
   ·rw [List.mem_singleton.mp z];exact he.2.2.2
  have key:∀ side,o=(eM T b x n side).map (d6 T x)->p.1 < c/\dn xs p.2:=fun side eo=>by
   dsimp only at hm
   rw [eo] at hm
   cases z:eM T b x n side with
   | none=>rw [z] at hm;cases hm
   | some s =>
    rw [z] at hm
    cases hm
    exact⟨hk,h.set he.1 (Br (h.le x) z)⟩
  rcases List.mem_cons.mp hz.2 with z | z
  ·exact key true z
  ·exact key false (List.mem_singleton.mp z)
theorem t9 {xs:List Str} {T:Str->Sx} {e:End} (h:dn xs T):((cS T e).length=1\/(cS T e).length=(bu e).length)/\(cS T e).length<=2:=by
 cases e with
 | stop=>exact⟨.inr rfl,Nat.zero_le _⟩
 | go q=>exact⟨.inl rfl,by show 1<=2;decide⟩
 | cC b x n q r =>
  have e:cS T (.cC b x n q r)=((eM T b x n true).map fun s=>(q,d6 T x s)).toList++((eM T b x n false).map fun s=>(r,d6 T x s)).toList:=by
   unfold cS
   show ([(q,(eM T b x n true).map (d6 T x)),(r,(eM T b x n false).map (d6 T x))].filterMap fun p=>p.2.map fun U=>(p.1,U))=_
   cases eM T b x n true <;> cases eM T b x n false <;> rfl
  rw [e]
  cases e1:eM T b x n true with
  | none=>cases e2:eM T b x n false with
   | none=>exact (zb (h.le x) e1 e2).elim
   | some s=>exact⟨.inl rfl,by show 1<=2;decide⟩
  | some s=>cases e2:eM T b x n false with
   | none=>exact⟨.inl rfl,by show 1<=2;decide⟩
   | some s=>exact⟨.inr rfl,Nat.le_refl 2⟩
theorem dn.lay {xs:List Str} {T:Str->Sx} (h:dn xs T) (hx:∀ x ∈ xs,fR x):tV T:=fun x hx'=>zP (hx x (h.sup x hx'))
theorem dn.bG {xs:List Str} {T:Str->Sx} (h:dn xs T):wF T xs.length:=fun ss hs nd=>sub_len nd fun x hx=>h.sup x (hs x hx)
open Classical in
noncomputable def mw (c:Cp):Bool:=decide (c.2 ≠ T0)
theorem rC {α : Type} (p:α->Bool):∀ l:List α,l.length=(l.filter p).length+(l.filter fun x=>!p x).length
 | []=>rfl
 | x :: l=>by
  have ih:=rC p l
  cases h:p x with
  | true=>rw [List.filter_cons_of_pos h,List.filter_cons_of_neg (by simp [h]),List.length_cons,List.length_cons];omega
  | false=>rw [List.filter_cons_of_neg (by simp [h]),List.filter_cons_of_pos (by simp [h]),List.length_cons,List.length_cons];omega
structure jD (n most:Nat) (cs:List Cp):Prop where
 nd:cs.Nodup
 bG:(cs.filter mw).length<=most
theorem jD.len {n most:Nat} {cs:List Cp} (h:jD n most cs) (hl:∀ c ∈ cs,c.1 < n):cs.length<=most+n:=by
 have e:=rC mw cs
 have h2:(cs.filter fun c=>!mw c).length<=n:=by
  have nd2:((cs.filter fun c=>!mw c).map (·.1)).Nodup:=by
   rw [List.Nodup,List.pairwise_map]
   refine (h.nd.filter _).imp_of_mem fun {a b} ha hb hne z=>hne ?_
   have ha2:=(List.mem_filter.mp ha).2
   have hb2:=(List.mem_filter.mp hb).2
   simp [mw] at ha2 hb2
   exact Prod.ext z (by rw [ha2,hb2])
  have:=gW (n:=n) nd2 fun x hx=>by
   obtain⟨c,hc,rfl⟩:=List.mem_map.mp hx
   exact hl c (List.mem_filter.mp hc).1
  rw [List.length_map] at this
  exact this
 have:=h.bG
 omega
theorem jD.put {n most:Nat} {tops:Nat->Prop} {cs:List Cp} {l:Cp} (h:jD n most cs):jD n most (LS.putIn cs (bE tops most cs l)):=by
 unfold LS.putIn
 by_cases hm:bE tops most cs l ∈ cs
 ·rw [if_pos hm];exact h
 ·rw [if_neg hm]
  refine⟨?_,?_⟩
  ·rw [List.nodup_append]
   refine⟨h.nd,by simp,fun x hx y hy z=>?_⟩
   rw [List.mem_singleton.mp hy] at z
   exact hm (z ▸ hx)
  ·rw [List.filter_append,List.length_append]
   by_cases hz:(bE tops most cs l).2=T0
   ·rw [List.filter_cons_of_neg (by simp [mw,hz])]
    simpa using h.bG
   ·have hlt:cs.length < most:=by
     unfold bE at hz hm
     split at hz
     ·exact absurd rfl hz
     ·split at hz
      ·next h1 h2 =>
       rw [if_neg h1,if_pos h2] at hm
       exact h2.resolve_left hm
      ·exact absurd rfl hz
    have h3:(cs.filter mw).length<=cs.length:=List.length_filter_le _ _
    have h4:(List.filter mw [bE tops most cs l]).length<=1:=List.length_filter_le _ _
    omega
open Classical in
noncomputable def startT (ps:List Piece):Str->Sx:=fun x=>if x ∈ bJ ps then (some 0,some 0) else eJ
open Classical in
noncomputable def iq (ps:List Piece):Cp:=if cX ps 0 then (0,T0) else (0,startT ps)
noncomputable def fO (ps:List Piece) (most:Nat):List Cp × List Piece:=gm (cX ps) most ps (most+ps.length) [iq ps] []
theorem zR {ps:List Piece} {ss:List Str} (hp:ss.Perm (LS.dI (bJ ps))) (hs:sortedS ss=true):FD (startT ps) (mi ss):=by
 have hm:∀ x,x ∈ ss ↔ x ∈ bJ ps:=fun x=>hp.mem_iff.trans LS.qY
 refine⟨ss,⟨rg hs,hp.nodup_iff.mpr (LS.tO _)⟩,fun x=>?_,?_⟩
 ·rw [hm]
  unfold startT
  by_cases h:x ∈ bJ ps
  ·rw [if_pos h];exact⟨fun _ z=>(by cases z),fun _=>h⟩
  ·rw [if_neg h];exact⟨fun z=>absurd z h,fun z=>absurd rfl z⟩
 ·unfold mi fW
  congr 1
  refine List.map_congr_left fun x hx=>?_
  unfold dF startT
  rw [if_pos ((hm x).mp hx)]
  rfl
theorem nT {ps:List Piece} {xs:List Str} {m:Nat} (ok:cM xs m ps):dn xs (startT ps):=by
 refine⟨fun x hx=>?_,fun x=>?_⟩
 ·unfold startT at hx
  by_cases h:x ∈ bJ ps
  ·exact qZ ok x h
  ·rw [if_neg h] at hx;exact absurd rfl hx
 ·unfold startT
  split
  ·exact Int.le_refl 0
  ·exact True.intro
theorem pf {tops:Nat->Prop} {most:Nat} {ps:List Piece} {f:Nat} {cs:List Cp} {outs:List Piece} {c:Cp} {pc:Piece} (h:cs[outs.length]? = some c) (hp:ps[c.1]? = some pc) :
  gm tops most ps (f+1) cs outs=gm tops most ps f (bU tops most cs (cS (cA c.2 pc.1) pc.2)).1 (outs ++ [(pc.1,kO pc.2 (bU tops most cs (cS (cA c.2 pc.1) pc.2)).2)]):=by
 conv=>lhs;unfold gm
 rw [h]
 dsimp only
 rw [hp]
theorem rD {tops:Nat->Prop} {most:Nat} {ps:List Piece} {cs:List Cp} {outs:List Piece} (h:cs[outs.length]? = none):∀ f,gm tops most ps f cs outs=(cs,outs)
 | 0=>rfl
 | f+1=>by
  conv=>lhs;unfold gm
  rw [h]
def mx (P:Program) (w:World) (C:Addr):Sp:=fun vs H Q _=>∃ (plv:V) (ps:List Piece) (xs:List Str) (most:Nat),vs = [plv,.int (most:Nat)]/\aS H plv (df ps)/\cM xs 6 ps/\(∀ x ∈ xs,fR x)/\xs.length<=10/\0 < ps.length/\ps.length<=60/\1<=most/\most<=300 /\
 ∀ (v:V) (ds:List PyData) (H':Hp),Paired (fun d c=>CD c d) ds (fO ps most).1->aS H' v (.tuple [.tuple ((fO ps most).2.map fc),.tuple ds])->au H H'->Q v H'
theorem Bs {X:Cx} {K:PySem.W.Frag} {e:Expr} {f:Str} {pos:Pos} {ta:TE} (hK:X.K=K) (he:PE X e ta) (hb:attributeBase e f X.env (eval e X.env)=eval e X.env):PE X (.Attribute e f pos) (BS K ta f):=by
 subst hK
 exact bK he hb
theorem iQ {tops:Nat->Prop} {most n:Nat} {xs:List Str}:∀ {ls cs:List Cp} {ns:List Nat},jD n most cs->(∀ c ∈ cs,c.1 < n/\dn xs c.2)->(∀ c ∈ ls,c.1 < n/\dn xs c.2)->jD n most (ls.foldl (fA tops most) (cs,ns)).1/\(∀ c ∈ (ls.foldl (fA tops most) (cs,ns)).1,c.1 < n/\dn xs c.2)/\(ls.foldl (fA tops most) (cs,ns)).2.length=ns.length+ls.length/\∃ more,(ls.foldl (fA tops most) (cs,ns)).1=cs++more
 | [],cs,ns,h,hc,_=>⟨h,hc,rfl,[],by simp⟩
 | l :: ls,cs,ns,h,hc,hl=>by
  have hl0:=hl l (List.mem_cons_self ..)
  have hcp:(bE tops most cs l).1 < n/\dn xs (bE tops most cs l).2:=by
   unfold bE
   split
   ·exact⟨hl0.1,dn.zero⟩
   ·split
    ·exact hl0
    ·exact⟨hl0.1,dn.zero⟩
  have hc':∀ c ∈ LS.putIn cs (bE tops most cs l),c.1 < n/\dn xs c.2:=fun c hc'=>by
   rcases LS.iN.mp hc' with z | z
   ·exact hc c z
   ·rw [z];exact hcp
  obtain⟨i1,i2,i3,more,i4⟩:=iQ (tops:=tops) (ls:=ls) (cs:=LS.putIn cs (bE tops most cs l)) (ns:=ns ++ [(LS.putIn cs (bE tops most cs l)).idxOf (bE tops most cs l)]) (h.put (l:=l)) hc' fun c hc=>hl c (List.mem_cons_of_mem _ hc)
  refine⟨i1,i2,?_,?_⟩
  ·refine Eq.trans (show (ls.foldl (fA tops most) (fA tops most (cs,ns) l)).2.length=(ns ++ [(LS.putIn cs (bE tops most cs l)).idxOf (bE tops most cs l)]).length+ls.length from i3) ?_
   simp only [List.length_append,List.length_cons,List.length_nil]
   omega
  ·have i4':(ls.foldl (fA tops most) (fA tops most (cs,ns) l)).1=LS.putIn cs (bE tops most cs l)++more:=i4
   show ∃ more,(ls.foldl (fA tops most) (fA tops most (cs,ns) l)).1=cs++more
   rw [i4']
   unfold LS.putIn
   split
   ·exact⟨more,rfl⟩
   ·exact⟨bE tops most cs l :: more,by simp⟩
theorem ij.mv {P:Program} {w:World} {C r m d:Addr} {H H':Hp} {ms:List (PyData × Addr)} (A:ij P w C H r m d ms) (nls:∀ p ∈ ms,bP p.1=true) (k:∀ c o,H c=some o->(c=r\/c=m\/c=d)->H' c=some o) (kt:∀ p zs,H p=some (.tup zs)->H' p=some (.tup zs)):ij P w C H' r m d ms:=by
 obtain⟨⟨dx,h1⟩,h2,h3,h4⟩:=A
 exact⟨⟨dx,k _ _ h1 (.inl rfl)⟩,k _ _ h2 (.inr (.inl rfl)),k _ _ h3 (.inr (.inr rfl)),fun p hp=>⟨(h4 p hp).1,(h4 p hp).2.bb kt (nls p hp)⟩⟩
theorem nh.jR {ms:List (PyData × Addr)} {cs:List Cp} (h:nh ms cs):∀ p ∈ ms,bP p.1=true:=by
 have go:∀ {ds:List PyData} {cs:List Cp},Paired (fun d c=>CD c d) ds cs->∀ d ∈ ds,bP d=true:=by
  intro ds cs h
  induction h with
  | nil=>intro d hd;cases hd
  | cons r _ ih =>
   intro d hd
   rcases List.mem_cons.mp hd with rfl | hd
   ·exact r.jR
   ·exact ih d hd
 exact fun p hp=>go h p.1 (List.mem_map.mpr ⟨p,hp,rfl⟩)
theorem nh.put {ms:List (PyData × Addr)} {cs:List Cp} {c:Cp} {d:PyData} {a:Addr} (h:nh ms cs) (cd:CD c d):nh (kL ms d a) (LS.putIn cs c):=by
 obtain⟨hm,_⟩:=cd.mem h
 unfold kL LS.putIn
 by_cases z:c ∈ cs
 ·rw [if_pos z,if_pos (hm.mpr z)];exact h
 ·rw [if_neg z,if_neg (fun w=>z (hm.mp w))]
  show Paired _ ((ms ++ [(d,a)]).map (·.1)) _
  rw [List.map_append]
  exact gh h (.cons cd .nil)
theorem vz {H:Hp}:∀ {ms:List (PyData × Addr)},(∀ p ∈ ms,aS H (.ref p.2) p.1)->bh H (ms.map fun p=>V.ref p.2) (ms.map (·.1))
 | [],_=>.nil
 | p :: ms,h=>.cons (h p (List.mem_cons_self ..)) (vz fun q hq=>h q (List.mem_cons_of_mem _ hq))
section
variable {prog:Program} {w:World} {A:Around} {E:Value->Shared->Prop} {s:Shared}
end
section
variable {X:Cx}
end
theorem qx {ds:List PyData} {cs:List Cp} (h:Paired (fun d c=>CD c d) ds cs):bN ds=true:=by
 induction h with
 | nil=>rfl
 | cons r _ ih =>
  rename_i d c ds cs _
  show (bP d && bN ds)=true
  rw [r.jR,ih];rfl
theorem ua {H:Hp} {fvs:List V} {fds:List PyData} {cs:List Cp} {j:Nat} {c:Cp} (r:bh H fvs fds) (cc:Paired (fun d c=>CD c d) fds cs) (h:cs[j]? = some c):∃ a y,fvs[j]? = some (.ref a)/\H a=some (.tup [.int (c.1:Nat),y])/\FV H y c.2:=by
 have hl:j < fds.length:=by rw [Paired.length cc];exact (List.getElem?_eq_some_iff.mp h).1
 have hd:fds[j]? = some fds[j]:=by simp [hl]
 generalize fds[j] = d at hd
 obtain⟨c',hc',cd⟩:=iP cc hd
 rw [h] at hc'
 cases hc'
 obtain⟨v,hv,rv⟩:=r.get hd
 obtain⟨fd,hfd,rfl⟩:=cd
 obtain⟨pa,pvs,rfl,hpm,rpv⟩:=aS.cx rv
 obtain⟨y1,t1,rfl,q1,rpv⟩:=rpv.cons_inv
 obtain⟨y2,t2,rfl,q2,rpv⟩:=rpv.cons_inv
 have z:=rpv.nil_inv
 subst z
 rw [q1.int_inv] at hpm
 exact⟨pa,y2,hv,hpm,hfd.fv q2⟩
section
variable {tops:Nat->Prop} {most:Nat}
def Goes (tops:Nat->Prop) (most:Nat) (cs:List Cp) (ls:List Cp) (ns:List Nat):Prop:=Paired (fun l k=>∃ c':Cp,cs[k]? = some c'/\c'.1=l.1/\((¬ tops l.1/\c'.2=l.2)\/(c'.2=T0/\(tops l.1\/most<=cs.length)))) ls ns
theorem Goes.more {cs ls more:List Cp} {ns:List Nat} (h:Goes tops most cs ls ns):Goes tops most (cs++more) ls ns:=by
 unfold Goes at h ⊢
 induction h with
 | nil=>exact .nil
 | cons r _ ih =>
  obtain⟨c',h1,h2,h3⟩:=r
  refine .cons ⟨c',?_,h2,?_⟩ ih
  ·rw [List.getElem?_append_left (List.getElem?_eq_some_iff.mp h1).1];exact h1
  ·rcases h3 with h3 | ⟨h3,h4 | h4⟩
   ·exact .inl h3
   ·exact .inr ⟨h3,.inl h4⟩
   ·exact .inr ⟨h3,.inr (by rw [List.length_append];omega)⟩
theorem zS {cs:List Cp} {c:Cp}:(LS.putIn cs c)[(LS.putIn cs c).idxOf c]? = some c:=by
 have hm:c ∈ LS.putIn cs c:=LS.iN.mpr (.inr rfl)
 have hl:=List.idxOf_lt_length_of_mem hm
 rw [List.getElem?_eq_getElem hl,List.getElem_idxOf hl]
theorem ni:∀ {ls cs:List Cp} {ns:List Nat},∃ more ms,(ls.foldl (fA tops most) (cs,ns)).1=cs++more/\(ls.foldl (fA tops most) (cs,ns)).2=ns++ms/\Goes tops most (ls.foldl (fA tops most) (cs,ns)).1 ls ms
 | [],cs,ns=>⟨[],[],by simp,by simp,.nil⟩
 | l :: ls,cs,ns=>by
  obtain⟨more,ms,e1,e2,g⟩:=ni (ls:=ls) (cs:=LS.putIn cs (bE tops most cs l)) (ns:=ns ++ [(LS.putIn cs (bE tops most cs l)).idxOf (bE tops most cs l)])
  have e0:(l :: ls).foldl (fA tops most) (cs,ns)=ls.foldl (fA tops most) (LS.putIn cs (bE tops most cs l),ns ++ [(LS.putIn cs (bE tops most cs l)).idxOf (bE tops most cs l)]):=rfl
  rw [e0]
  have hp:∃ m0,LS.putIn cs (bE tops most cs l)=cs++m0:=by
   unfold LS.putIn
   split
   ·exact⟨[],by simp⟩
   ·exact⟨_,rfl⟩
  obtain⟨m0,em⟩:=hp
  have hat:=zS (cs:=cs) (c:=bE tops most cs l)
  refine⟨m0++more,(LS.putIn cs (bE tops most cs l)).idxOf (bE tops most cs l) :: ms,by rw [e1,em,List.append_assoc],by rw [e2,List.append_assoc];rfl,.cons ⟨bE tops most cs l,?_,?_,?_⟩ g⟩
  ·rw [e1,List.getElem?_append_left (List.getElem?_eq_some_iff.mp hat).1];exact hat
  ·unfold bE
   split
   ·rfl
   ·split <;> rfl
  ·have hl:cs.length<=(ls.foldl (fA tops most) (LS.putIn cs (bE tops most cs l),ns ++ [(LS.putIn cs (bE tops most cs l)).idxOf (bE tops most cs l)])).1.length:=by rw [e1,em,List.length_append,List.length_append];omega
   generalize (ls.foldl (fA tops most) (LS.putIn cs (bE tops most cs l),ns ++ [(LS.putIn cs (bE tops most cs l)).idxOf (bE tops most cs l)])).1=cz at hl
   unfold bE
   by_cases h1:tops l.1
   ·rw [if_pos h1];exact .inr ⟨rfl,.inl h1⟩
   ·rw [if_neg h1]
    by_cases h2:l ∈ cs\/cs.length < most
    ·rw [if_pos h2];exact .inl ⟨h1,rfl⟩
    ·rw [if_neg h2];exact .inr ⟨rfl,.inr (by have:¬ cs.length < most:=fun z=>h2 (.inr z);omega)⟩
def CM (tops:Nat->Prop) (most:Nat) (ps:List Piece) (cs:List Cp) (outs:List Piece):Prop:=∀ (j:Nat) (p:Piece),outs[j]? = some p->∃ (c:Cp) (pc:Piece) (ns:List Nat),cs[j]? = some c/\ps[c.1]? = some pc/\p=(pc.1,kO pc.2 ns)/\Goes tops most cs (cS (cA c.2 pc.1) pc.2) ns
structure qy (tops:Nat->Prop) (most:Nat) (xs:List Str) (ps:List Piece) (cs:List Cp) (outs:List Piece):Prop where
 rE:jD ps.length most cs
 ok:∀ c ∈ cs,c.1 < ps.length/\dn xs c.2
 le:outs.length<=cs.length
 rel:CM tops most ps cs outs
theorem qy.step {xs:List Str} {ps:List Piece} {cs:List Cp} {outs:List Piece} {m:Nat} (h:qy tops most xs ps cs outs) (pok:cM xs m ps) {c:Cp} {pc:Piece} (hc:cs[outs.length]? = some c) (hp:ps[c.1]? = some pc) :
  qy tops most xs ps (bU tops most cs (cS (cA c.2 pc.1) pc.2)).1 (outs ++ [(pc.1,kO pc.2 (bU tops most cs (cS (cA c.2 pc.1) pc.2)).2)])/\∃ more,(bU tops most cs (cS (cA c.2 pc.1) pc.2)).1=cs++more:=by
 have hcm:=List.mem_of_getElem? hc
 have dok:=pok.iX _ (List.mem_of_getElem? hp)
 have eok:=pok.ends _ (List.mem_of_getElem? hp)
 have bok:=(h.ok c hcm).2.wI dok.2
 obtain⟨k1,k2,_,_⟩:=iQ (tops:=tops) (ls:=cS (cA c.2 pc.1) pc.2) (ns:=[]) h.rE h.ok (vy bok eok)
 obtain⟨more,ms,e1,e2,g⟩:=ni (tops:=tops) (most:=most) (ls:=cS (cA c.2 pc.1) pc.2) (cs:=cs) (ns:=[])
 have hol:outs.length < cs.length:=(List.getElem?_eq_some_iff.mp hc).1
 refine⟨⟨k1,k2,?_,?_⟩,more,e1⟩
 ·unfold bU
  rw [e1,List.length_append,List.length_append]
  show _+1<=_
  omega
 ·intro j p hj
  unfold bU
  by_cases hjl:j < outs.length
  ·rw [List.getElem?_append_left hjl] at hj
   obtain⟨c',pc',ns',h1,h2,h3,h4⟩:=h.rel j p hj
   refine⟨c',pc',ns',?_,h2,h3,?_⟩
   ·rw [e1,List.getElem?_append_left (by omega)];exact h1
   ·rw [e1];exact h4.more
  ·have hje:j=outs.length:=by
    have:=(List.getElem?_eq_some_iff.mp hj).1
    rw [List.length_append] at this
    have:j < outs.length+1:=this
    omega
   subst hje
   rw [List.getElem?_append_right (Nat.le_refl _),Nat.sub_self] at hj
   cases hj
   refine⟨c,pc,ms,?_,hp,?_,g⟩
   ·rw [e1,List.getElem?_append_left hol];exact hc
   ·unfold bU
    rw [e2]
    rfl
theorem rF {xs:List Str} {ps:List Piece} {m:Nat} (pok:cM xs m ps):∀ (fu:Nat) {cs:List Cp} {outs:List Piece},qy tops most xs ps cs outs->fu+outs.length=most+ps.length ->
  qy tops most xs ps (gm tops most ps fu cs outs).1 (gm tops most ps fu cs outs).2/\(gm tops most ps fu cs outs).2.length=(gm tops most ps fu cs outs).1.length/\∃ more,(gm tops most ps fu cs outs).1=cs++more
 | 0,cs,outs,h,hf=>by
  have:=h.rE.len fun c hc=>(h.ok c hc).1
  have:=h.le
  exact⟨h,by show outs.length=cs.length;omega,[],by show cs=_;simp⟩
 | fu+1,cs,outs,h,hf=>by
  cases hc:cs[outs.length]? with
  | none =>
   rw [rD hc]
   have:cs.length<=outs.length:=List.getElem?_eq_none_iff.mp hc
   have:=h.le
   exact⟨h,by show outs.length=cs.length;omega,[],by simp⟩
  | some c =>
   have hcl:=(h.ok c (List.mem_of_getElem? hc)).1
   have hps:ps[c.1]? = some ps[c.1]:=by simp [hcl]
   rw [pf hc hps]
   obtain⟨h',more,e⟩:=h.step pok hc hps
   obtain⟨i1,i2,more',i3⟩:=rF pok fu h' (by rw [List.length_append];show fu+(_+1)=_;omega)
   exact⟨i1,i2,more++more',by rw [i3,e,List.append_assoc]⟩
end
theorem kP {xs:List Str} {ps:List Piece} {m most:Nat} (pok:cM xs m ps) (hn0:0 < ps.length) (hm:1<=most) :
  qy (cX ps) most xs ps (fO ps most).1 (fO ps most).2/\(fO ps most).2.length=(fO ps most).1.length/\∃ more,(fO ps most).1 = [iq ps] ++ more:=by
 refine rF pok _ ⟨⟨by simp,Nat.le_trans (List.length_filter_le _ _) hm⟩,fun c hc=>?_,Nat.zero_le _,fun j p hj=>(by cases hj)⟩ rfl
 rw [List.mem_singleton.mp hc]
 unfold iq
 split
 ·exact⟨hn0,dn.zero⟩
 ·exact⟨hn0,nT pok⟩
theorem Bt {xs:List Str} {n n':Nat} {e:End} {ns:List Nat} (h:jJ xs n e) (hl:ns.length=1\/ns.length=(bu e).length) (hb:∀ k ∈ ns,k < n'):jJ xs n' (kO e ns):=by
 match ns,hl,hb with
 | [a],_,hb=>exact hb a (List.mem_singleton.mpr rfl)
 | [],hl,_ =>
  cases e with
  | stop=>exact True.intro
  | go p=>exact absurd (hl.resolve_left (by decide)) (by show ¬ 0=1;decide)
  | cC b x n p q=>exact absurd (hl.resolve_left (by decide)) (by show ¬ 0=2;decide)
 | [a,c],hl,hb =>
  have hl:=hl.resolve_left (by show ¬ 2=1;decide)
  cases e with
  | stop=>exact absurd hl (by show ¬ 2=0;decide)
  | go p=>exact absurd hl (by show ¬ 2=1;decide)
  | cC b x n p q=>exact⟨h.1,h.2.1,hb a (by simp),hb c (by simp)⟩
 | _ :: _ :: _ :: _,hl,_ =>
  exfalso
  have h3:(bu e).length<=2:=by cases e <;> (show _<=2) <;> simp [bu]
  simp only [List.length_cons] at hl
  omega
theorem Goes.lt {tops:Nat->Prop} {most:Nat} {cs ls:List Cp} {ns:List Nat} (h:Goes tops most cs ls ns):∀ k ∈ ns,k < cs.length:=by
 unfold Goes at h
 induction h with
 | nil=>intro k hk;cases hk
 | cons r _ ih =>
  intro k hk
  rcases List.mem_cons.mp hk with rfl | hk
  ·obtain⟨c',h1,_⟩:=r
   exact (List.getElem?_eq_some_iff.mp h1).1
  ·exact ih k hk
theorem yz {xs:List Str} {ps:List Piece} {m most:Nat} (pok:cM xs m ps) (hn0:0 < ps.length) (hm:1<=most):cM xs m (fO ps most).2:=by
 obtain⟨I,hl,_⟩:=kP pok hn0 hm
 have key:∀ p ∈ (fO ps most).2,(p.1.length<=m/\∀ d ∈ p.1,fS xs d)/\jJ xs (fO ps most).2.length p.2:=fun p hp=>by
  obtain⟨j,hj⟩:=List.getElem?_of_mem hp
  obtain⟨c,pc,ns,h1,h2,rfl,h4⟩:=I.rel j p hj
  have hpm:=List.mem_of_getElem? h2
  have bok:=(I.ok c (List.mem_of_getElem? h1)).2.wI (pok.iX _ hpm).2
  refine⟨(show pc.1.length<=m/\∀ d ∈ pc.1,fS xs d from pok.iX pc hpm),Bt (pok.ends _ hpm) ?_ (by rw [hl];exact h4.lt)⟩
  rw [<-Paired.length h4]
  exact (t9 (e:=pc.2) bok).1
 exact⟨fun p hp=>(key p hp).1,fun p hp=>(key p hp).2⟩
theorem rG {xs:List Str} {ps:List Piece} {m most:Nat} (pok:cM xs m ps) (hn0:0 < ps.length) (hm:1<=most):0 < (fO ps most).2.length/\(fO ps most).2.length<=most+ps.length:=by
 obtain⟨I,hl,more,e⟩:=kP pok hn0 hm
 have h1:=I.rE.len fun c hc=>(I.ok c hc).1
 rw [hl]
 refine⟨?_,h1⟩
 rw [e]
 exact Nat.succ_pos _
theorem cM.up {xs:List Str} {m k:Nat} {ps:List Piece} (h:cM xs m ps) (hk:m<=k):cM xs k ps:=⟨fun p hp=>⟨Nat.le_trans (h.iX p hp).1 hk,(h.iX p hp).2⟩,h.ends⟩
section
variable {X:Cx}
end
def ub (e:End) (w:Str->Int):Option Nat:=match e with
 | .stop=>none
 | .go p=>some p
 | .cC b x n p q=>some (if dD b (w x) n=true then p else q)
theorem rH (S:RS) (e:End):iY S e=match ub e S.w with
  | none=>{ S with word := "stop" }
  | some p=>{ S with aY:=p,place:=0,aZ:=S.aZ ++ [p] }:=by
 cases e <;> rfl
theorem ph {w:Str->Int}:Sound T0 w:=fun x=>rfl
theorem Sound.lT {T:Str->Sx} {w w':Str->Int} {d:cg} (h:Sound T w) (hw:w' = match d with
  | .put x n=>cT w x n
  | .copy x y=>cT w x (w y)
  | .add x n=>cT w x (w x+n)
  | .tell _=>w
  | .read x=>cT w x (w' x)):Sound (ql T d) w':=by
 cases d with
 | put x n=>rw [hw];exact h.step x (n:=n) (s:=(some n,some n)) (by simp [cH])
 | copy x y=>rw [hw];exact h.step x (h y)
 | add x n=>rw [hw];exact h.step x (Bk (h x))
 | tell x =>
  rw [hw]
  have:=h.step x (n:=w x) (s:=T x) (h x)
  rw [rA] at this
  exact this
 | read x=>rw [hw];exact h.step x (s:=eJ) rfl
theorem Bu {b:Bool} {lo hi:Option Int} {n u:Int} (h:cH u lo hi=true):∃ s,cR (wT b) lo hi n (dD b u n)=some s/\cH u s.1 s.2=true:=by
 cases b with
 | true =>
  have ew:(wT true:Str) = "less" := rfl
  unfold cR
  rw [if_pos ew]
  unfold ic dD
  rw [if_pos rfl]
  by_cases hu:u < n
  ·rw [if_pos (decide_eq_true hu)]
   unfold ff iw
   cases lo <;> cases hi <;> simp only [cH,Bool.and_eq_true,Bool.true_and,Bool.and_true,decide_eq_true_eq] at h ⊢
   ·exact⟨_,rfl,by simp [cH];omega⟩
   ·rename_i hh
    refine⟨_,rfl,?_⟩
    exact⟨rfl,decide_eq_true (by split <;> omega)⟩
   ·rw [if_neg (by omega)];refine⟨_,rfl,?_⟩;simp only [Bool.and_eq_true,decide_eq_true_eq];omega
   ·rename_i l hh
    rw [if_neg (by split <;> omega)]
    refine⟨_,rfl,?_⟩
    simp only [Bool.and_eq_true,decide_eq_true_eq]
    refine⟨h.1,?_⟩
    split <;> omega
  ·rw [if_neg (fun z=>hu (of_decide_eq_true z))]
   unfold fP gH
   cases lo <;> cases hi <;> simp only [cH,Bool.and_eq_true,Bool.true_and,Bool.and_true,decide_eq_true_eq] at h ⊢
   ·exact⟨_,rfl,by simp [cH];omega⟩
   ·rw [if_neg (by omega)];refine⟨_,rfl,?_⟩;simp only [Bool.and_eq_true,decide_eq_true_eq];omega
   ·rename_i l
    refine⟨_,rfl,?_⟩
    exact⟨decide_eq_true (by split <;> omega),rfl⟩
   ·rw [if_neg (by split <;> omega)]
    refine⟨_,rfl,?_⟩
    simp only [Bool.and_eq_true,decide_eq_true_eq]
    refine⟨?_,h.2⟩
    split <;> omega
 | false =>
  have ew:¬ (wT false:Str) = "less" := by decide +kernel
  unfold cR
  rw [if_neg ew]
  unfold lQ
  have ea:dD false u n=decide (u=n):=rfl
  rw [ea]
  by_cases hu:u=n
  ·subst hu
   rw [if_pos (decide_eq_true rfl)]
   unfold kW
   rw [if_pos h]
   exact⟨_,rfl,by simp [cH]⟩
  ·rw [if_neg (fun z=>hu (of_decide_eq_true z))]
   unfold gI
   by_cases h1:lo=some n
   ·subst h1
    by_cases h2:hi=some n
    ·subst h2
     simp only [cH,Bool.and_eq_true,decide_eq_true_eq] at h
     omega
    ·rw [if_pos rfl,if_neg h2]
     refine⟨_,rfl,?_⟩
     simp only [cH,Bool.and_eq_true,decide_eq_true_eq] at h ⊢
     exact⟨by omega,h.2⟩
   ·rw [if_neg h1]
    by_cases h2:hi=some n
    ·subst h2
     rw [if_pos rfl]
     refine⟨_,rfl,?_⟩
     simp only [cH,Bool.and_eq_true,decide_eq_true_eq] at h ⊢
     exact⟨h.1,by omega⟩
    ·rw [if_neg h2]
     exact⟨_,rfl,h⟩
theorem Sound.cut {T:Str->Sx} {w:Str->Int} (h:Sound T w) {x:Str} {s:Sx} (hs:cH (w x) s.1 s.2=true):Sound (d6 T x s) w:=by
 have:=h.step x hs
 rw [rA] at this
 exact this
theorem zT {T:Str->Sx} {b:Bool} {x:Str} {n:Int} {q r:Nat}:cS T (.cC b x n q r)=((eM T b x n true).map fun s=>(q,d6 T x s)).toList++((eM T b x n false).map fun s=>(r,d6 T x s)).toList:=by
 unfold cS
 show ([(q,(eM T b x n true).map (d6 T x)),(r,(eM T b x n false).map (d6 T x))].filterMap fun p=>p.2.map fun U=>(p.1,U))=_
 cases eM T b x n true <;> cases eM T b x n false <;> rfl
def wJ (ps other:List Piece) (cs:List Cp):Prop:=∀ (j:Nat) (p:Piece),other[j]? = some p->∃ (c:Cp) (pc:Piece),cs[j]? = some c/\ps[c.1]? = some pc/\p.1=pc.1/\∀ w,Sound (cA c.2 pc.1) w ->
 match ub pc.2 w with
 | none=>ub p.2 w=none
 | some q=>∃ (k:Nat) (c':Cp),ub p.2 w=some k/\k < other.length/\cs[k]? = some c'/\c'.1=q/\Sound c'.2 w
theorem Bv {tops:Nat->Prop} {most:Nat} {ps outs:List Piece} {cs:List Cp} (hl:outs.length=cs.length) (h:CM tops most ps cs outs):wJ ps outs cs:=fun j p hj=>by
 obtain⟨c,pc,ns,h1,h2,rfl,h4⟩:=h j p hj
 refine⟨c,pc,h1,h2,rfl,fun w hw=>?_⟩
 have go:∀ {l:Cp} {k:Nat},(∃ c':Cp,cs[k]? = some c'/\c'.1=l.1/\((¬ tops l.1/\c'.2=l.2)\/(c'.2=T0/\(tops l.1\/most<=cs.length))))->Sound l.2 w->k < outs.length/\∃ c':Cp,cs[k]? = some c'/\c'.1=l.1/\Sound c'.2 w:=fun ⟨c',g1,g2,g3⟩ hs=>by
  refine⟨by rw [hl];exact (List.getElem?_eq_some_iff.mp g1).1,c',g1,g2,?_⟩
  rcases g3 with ⟨_,e⟩ | ⟨e,_⟩
  ·rw [e];exact hs
  ·rw [e];exact ph
 obtain⟨ds,e⟩:=pc
 generalize hT:cA c.2 ds=T at hw h4
 unfold Goes at h4
 cases e with
 | stop =>
  cases h4
  rfl
 | go q =>
  have hl1:cS T (.go q) = [(q,T)]:=rfl
  rw [hl1] at h4
  cases h4 with
  | cons r t =>
   cases t
   obtain⟨k1,c',k2,k3,k4⟩:=go r hw
   exact⟨_,c',rfl,k1,k2,k3,k4⟩
 | cC b x n q r =>
  obtain⟨s,hs,hin⟩:=Bu (b:=b) (n:=n) (hw x)
  have hs:eM T b x n (dD b (w x) n)=some s:=hs
  rw [zT] at h4
  show ∃ (k:Nat) (c':Cp),_=some k/\_/\_/\c'.1=(if dD b (w x) n=true then q else r)/\_
  cases ha:dD b (w x) n with
  | true =>
   rw [ha] at hs
   rw [hs] at h4
   cases h2':eM T b x n false with
   | none =>
    rw [h2'] at h4
    cases h4 with
    | cons r1 t =>
     cases t
     obtain⟨k1,c',k2,k3,k4⟩:=go r1 (hw.cut hin)
     exact⟨_,c',rfl,k1,k2,k3,k4⟩
   | some s2 =>
    rw [h2'] at h4
    cases h4 with
    | cons r1 t =>
     cases t with
     | cons r2 t =>
      cases t
      obtain⟨k1,c',k2,k3,k4⟩:=go r1 (hw.cut hin)
      refine⟨_,c',(show some (if dD b (w x) n=true then _ else _)=_ from by rw [ha];rfl),k1,k2,k3,k4⟩
  | false =>
   rw [ha] at hs
   rw [hs] at h4
   cases h2':eM T b x n true with
   | none =>
    rw [h2'] at h4
    cases h4 with
    | cons r1 t =>
     cases t
     obtain⟨k1,c',k2,k3,k4⟩:=go r1 (hw.cut hin)
     exact⟨_,c',rfl,k1,k2,k3,k4⟩
   | some s2 =>
    rw [h2'] at h4
    cases h4 with
    | cons r1 t =>
     cases t with
     | cons r2 t =>
      cases t
      obtain⟨k1,c',k2,k3,k4⟩:=go r2 (hw.cut hin)
      refine⟨_,c',(show some (if dD b (w x) n=true then _ else _)=_ from by rw [ha];rfl),k1,k2,k3,k4⟩
structure jE (ps other:List Piece) (cs:List Cp) (S S':RS):Prop where
 place:S.place=S'.place
 w:S.w=S'.w
 taken:S.taken=S'.taken
 told:S.told=S'.told
 word:S.word=S'.word
 aZ:S'.aZ.map (fun j=>(cs[j]?).map (·.1))=S.aZ.map some
 lt:S'.aY < other.length
 at_:∃ (c:Cp) (pc p:Piece),cs[S'.aY]? = some c/\ps[c.1]? = some pc/\S.aY=c.1/\other[S'.aY]? = some p/\p.1=pc.1/\Sound (cA c.2 (pc.1.take S.place)) S.w
theorem wK {T:Str->Sx} {ds:List cg} {d:cg}:cA T (ds ++ [d])=ql (cA T ds) d:=by
 unfold cA
 rw [List.foldl_append]
 rfl
theorem jE.step {ps other:List Piece} {cs:List Cp} {nums:List Int} {S S':RS} (hp:wJ ps other cs) (h:jE ps other cs S S') (hin:∀ c ∈ cs,c.1 < ps.length):jE ps other cs (cF ps nums S) (cF other nums S'):=by
 obtain⟨h1,h2,h3,h4,h5,h6,h7,c,pc,p,a1,a2,a3,a4,a5,a6⟩:=h
 obtain⟨ds,e⟩:=pc
 obtain⟨ds',e'⟩:=p
 have a5:ds' = ds:=a5
 subst a5
 cases hd:ds'[S.place]? with
 | some dd =>
  rw [iL (by rw [a3];exact a2) hd,iL a4 (by rw [<-h1];exact hd)]
  have htk:ds'.take (S.place+1)=ds'.take S.place ++ [dd]:=by rw [List.take_add_one,hd];rfl
  have nx:∀ w',Sound (ql (cA c.2 (ds'.take S.place)) dd) w'->Sound (cA c.2 (ds'.take (S.place+1))) w':=fun w' hw=>by rw [htk,wK];exact hw
  cases dd with
  | put x n=>exact⟨by show S.place+1=S'.place+1;rw [h1],by show cT S.w x n=cT S'.w x n;rw [h2],h3,h4,h5,h6,h7,c,(ds',e),(ds',e'),a1,a2,a3,a4,rfl,nx _ (Sound.lT (d:=.put x n) a6 rfl)⟩
  | copy x y=>exact⟨by show S.place+1=S'.place+1;rw [h1],by show cT S.w x (S.w y)=cT S'.w x (S'.w y);rw [h2],h3,h4,h5,h6,h7,c,(ds',e),(ds',e'),a1,a2,a3,a4,rfl,nx _ (Sound.lT (d:=.copy x y) a6 rfl)⟩
  | add x n=>exact⟨by show S.place+1=S'.place+1;rw [h1],by show cT S.w x (S.w x+n)=cT S'.w x (S'.w x+n);rw [h2],h3,h4,h5,h6,h7,c,(ds',e),(ds',e'),a1,a2,a3,a4,rfl,nx _ (Sound.lT (d:=.add x n) a6 rfl)⟩
  | tell x=>exact⟨by show S.place+1=S'.place+1;rw [h1],h2,h3,by show S.told ++ [S.w x] = S'.told ++ [S'.w x];rw [h4,h2],h5,h6,h7,c,(ds',e),(ds',e'),a1,a2,a3,a4,rfl,nx _ (Sound.lT (d:=.tell x) a6 rfl)⟩
  | read x =>
   unfold gc
   rw [<-h3]
   cases hn:nums[S.taken]? with
   | none=>exact⟨h1,h2,rfl,h4,rfl,h6,h7,c,(ds',e),(ds',e'),a1,a2,a3,a4,rfl,a6⟩
   | some n =>
    refine⟨by show S.place+1=S'.place+1;rw [h1],by show cT S.w x n=cT S'.w x n;rw [h2],by show S.taken+1=S.taken+1;rfl,h4,h5,h6,h7,c,(ds',e),(ds',e'),a1,a2,a3,a4,rfl,nx _ (Sound.lT (d:=.read x) a6 ?_)⟩
    show cT S.w x n=cT S.w x (cT S.w x n x)
    congr 1
    unfold cT
    rw [if_pos rfl]
 | none =>
  rw [jw (by rw [a3];exact a2) hd,jw a4 (by rw [<-h1];exact hd),rH,rH]
  have hge:ds'.length<=S.place:=List.getElem?_eq_none_iff.mp hd
  rw [List.take_of_length_le hge] at a6
  obtain⟨c2,pc2,b1,b2,b3,b4⟩:=hp _ _ a4
  rw [a1] at b1
  cases b1
  rw [a2] at b2
  cases b2
  have b4:=b4 S.w a6
  dsimp only at b4
  cases hx:ub e S.w with
  | none =>
   rw [hx] at b4
   dsimp only at b4
   rw [show ub e' S'.w=none by rw [<-h2];exact b4]
   exact⟨h1,h2,h3,h4,rfl,h6,h7,c,(ds',e),(ds',e'),a1,a2,a3,a4,rfl,by rw [List.take_of_length_le hge];exact a6⟩
  | some q =>
   rw [hx] at b4
   obtain⟨k,c',g1,g2,g3,g4,g5⟩:=b4
   rw [show ub e' S'.w=some k by rw [<-h2];exact g1]
   have hcl:=hin c' (List.mem_of_getElem? g3)
   have hps:ps[c'.1]? = some ps[c'.1]:=by simp [hcl]
   have aT:other[k]? = some other[k]:=by simp [g2]
   obtain⟨c3,pc3,f1,f2,f3,_⟩:=hp _ _ aT
   rw [g3] at f1
   cases f1
   refine⟨rfl,h2,h3,h4,h5,?_,g2,c',pc3,other[k],g3,f2,g4.symm,aT,f3,?_⟩
   ·show (S'.aZ ++ [k]).map _=(S.aZ ++ [q]).map some
    rw [List.map_append,List.map_append,h6]
    show _ ++ [(cs[k]?).map (·.1)] = _
    rw [g3,<-g4]
    rfl
   ·show Sound (cA c'.2 (pc3.1.take 0)) S.w
    rw [List.take_zero]
    exact g5
theorem jE.walk {ps other:List Piece} {cs:List Cp} {nums:List Int} {S S':RS} (hp:wJ ps other cs) (hin:∀ c ∈ cs,c.1 < ps.length) (h:jE ps other cs S S'):∀ n,jE ps other cs (bD ps nums n S) (bD other nums n S')
 | 0=>h
 | n+1=>by
  have ih:=jE.walk (nums:=nums) hp hin h n
  show jE ps other cs (kc ps nums (bD ps nums n S)) (kc other nums (bD other nums n S'))
  unfold kc
  rw [<-ih.word]
  split
  ·exact ih.step hp hin
  ·exact ih
theorem yA {ps other:List Piece} {cs:List Cp} {c:Cp} (hp:wJ ps other cs) (h0:0 < other.length) (hc:cs[0]? = some c) (hc1:c.1=0) (hs:Sound c.2 fun _=>0):jE ps other cs (bF 0 fun _=>0) (bF 0 fun _=>0):=by
 have ho:other[0]? = some other[0]:=by simp [h0]
 obtain⟨c2,pc,b1,b2,b3,_⟩:=hp _ _ ho
 rw [hc] at b1
 cases b1
 refine⟨rfl,rfl,rfl,rfl,rfl,?_,h0,c,pc,other[0],hc,b2,hc1.symm,ho,b3,?_⟩
 ·show [(cs[0]?).map (·.1)] = [some 0]
  rw [hc]
  show [some c.1] = _
  rw [hc1]
 ·show Sound (cA c.2 (pc.1.take 0)) _
  rw [List.take_zero]
  exact hs
theorem Bw {xs:List Str} {ps:List Piece} {m most:Nat} (pok:cM xs m ps) (hn0:0 < ps.length) (hm:1<=most) (nums:List Int) (n:Nat):jE ps (fO ps most).2 (fO ps most).1 (bD ps nums n (bF 0 fun _=>0)) (bD (fO ps most).2 nums n (bF 0 fun _=>0)):=by
 obtain⟨I,hl,more,e⟩:=kP pok hn0 hm
 have hp:=Bv hl I.rel
 refine jE.walk hp (fun c hc=>(I.ok c hc).1) (yA (c:=iq ps) hp (rG pok hn0 hm).1 (by rw [e];rfl) ?_ ?_) n
 ·unfold iq
  split <;> rfl
 ·unfold iq
  split
  ·exact ph
  ·intro x
   show cH 0 (startT ps x).1 (startT ps x).2=true
   unfold startT
   split <;> rfl
theorem pA:∀ outs:List Piece,bN (outs.map fun p=>PyData.tuple (p.1.map cq))=true
 | []=>rfl
 | p :: outs=>by
  show (bN (p.1.map cq) && bN (outs.map fun p=>PyData.tuple (p.1.map cq)))=true
  rw [bX,pA outs];rfl
theorem nU:∀ ds:List PyData,(∀ d ∈ ds,d.canLay0=true)->(PyData.list ds).canLay0=true
 | [],_=>rfl
 | d :: ds,h=>by
  have ih:=nU ds fun x hx=>h x (List.mem_cons_of_mem _ hx)
  show (d.canLay0 && (PyData.list ds).canLay0)=true
  rw [h d (List.mem_cons_self ..),ih];rfl
theorem rJ:∀ ns:List Int,bN (ns.map PyData.int)=true
 | []=>rfl
 | n :: ns=>rJ ns
theorem rK:∀ ns:List Nat,bN (ns.map fun k=>PyData.int (k:Nat))=true
 | []=>rfl
 | n :: ns=>rK ns
theorem Bx (S:RS):bP (fV S)=true:=by
 show (true && (bN (S.told.map PyData.int) && true))=true
 rw [rJ];rfl
theorem zU (S:RS):bP (mH S)=true:=rK S.aZ
theorem mO {H:Hp}:∀ ns:List Nat,bh H (ns.map fun k=>V.int (k:Nat)) (ns.map fun k=>PyData.int (k:Nat))
 | []=>.nil
 | n :: ns=>.cons (.int n) (mO ns)
theorem yB {ps:List Piece} {nums:List Int} {S:RS} (hp:dm ps) (h:S.aY < ps.length) (hb:∀ j ∈ S.aZ,j < ps.length):∀ j ∈ (cF ps nums S).aZ,j < ps.length:=by
 have hx:ps[S.aY]? = some ps[S.aY]:=by simp [h]
 generalize hpc:ps[S.aY] = pc at hx
 obtain⟨ds,e⟩:=pc
 have hm:(ds,e) ∈ ps:=List.mem_of_getElem? hx
 cases hd:ds[S.place]? with
 | some dd =>
  rw [iL hx hd]
  cases dd with
  | read x =>
   unfold gc
   cases hn:nums[S.taken]? with
   | none=>exact hb
   | some n=>exact hb
  | _=>exact hb
 | none =>
  rw [jw hx hd]
  have hq:=hp (ds,e) hm
  cases e with
  | stop=>exact hb
  | go q =>
   intro j hj
   rcases List.mem_append.mp hj with hj | hj
   ·exact hb j hj
   ·rw [List.mem_singleton.mp hj];exact hq
  | cC b x n q r =>
   intro j hj
   rcases List.mem_append.mp hj with hj | hj
   ·exact hb j hj
   ·rw [List.mem_singleton.mp hj]
    split
    ·exact hq.1
    ·exact hq.2
theorem vA {ps:List Piece} {nums:List Int} (hp:dm ps) (h0:0 < ps.length):∀ n,∀ j ∈ (bD ps nums n (bF 0 fun _=>0)).aZ,j < ps.length
 | 0=>fun j hj=>by rw [List.mem_singleton.mp hj];exact h0
 | n+1=>by
  have ih:=vA (nums:=nums) hp h0 n
  have wi:=mF (ps:=ps) (nums:=nums) (S:=bF 0 fun _=>0) hp h0 (Nat.zero_le _) n
  show ∀ j ∈ (kc ps nums (bD ps nums n (bF 0 fun _=>0))).aZ,j < ps.length
  unfold kc
  split
  ·exact yB hp wi.1 ih
  ·exact ih
theorem i9 {X:Cx} {K:PySem.W.Frag} (h:X.K=K):xp X (Cb K):=by subst h;exact aM
theorem iA {X:Cx} {e1 e2 e3 e4 e5 e6 e7:Expr} {t1 t2 t3 t4 t5 t6 t7:TE} (h1:PE X e1 t1) (h2:PE X e2 t2) (h3:PE X e3 t3) (h4:PE X e4 t4) (h5:PE X e5 t5) (h6:PE X e6 t6) (h7:PE X e7 t7)
  (s1:starEach [e1,e2,e3,e4,e5,e6,e7] X.env=(false,eval e1 X.env) :: starEach [e2,e3,e4,e5,e6,e7] X.env:=by rfl) (s2:starEach [e2,e3,e4,e5,e6,e7] X.env=(false,eval e2 X.env) :: starEach [e3,e4,e5,e6,e7] X.env:=by rfl) (s3:starEach [e3,e4,e5,e6,e7] X.env=(false,eval e3 X.env) :: starEach [e4,e5,e6,e7] X.env:=by rfl) (s4:starEach [e4,e5,e6,e7] X.env=(false,eval e4 X.env) :: starEach [e5,e6,e7] X.env:=by rfl) (s5:starEach [e5,e6,e7] X.env=(false,eval e5 X.env) :: starEach [e6,e7] X.env:=by rfl) (s6:starEach [e6,e7] X.env=(false,eval e6 X.env) :: starEach [e7] X.env:=by rfl) (s7:starEach [e7] X.env=(false,eval e7 X.env) :: starEach [] X.env:=by rfl) :
  PA X [e1,e2,e3,e4,e5,e6,e7] (jI t1 (jI t2 (jI t3 (jI t4 (jI t5 (jI t6 (jI t7 sF))))))):=(aa h1 (aa h2 (aa h3 (aa h4 (aa h5 (aa h6 (aa h7 af s7) s6) s5) s4) s3) s2) s1)
end L2
namespace My
open PySem PySem.Spec PyProof.Rows L2
def top (i:Nat):Stmt:=PySem.Challenge.pw_ledpast_k12_whole_same_tellings.main.body.getD i (.Pass ⟨0,0,0,0⟩)
structure Bl (mg:Str->Option Value):Prop where
 len:mg "len" = none
 zip:mg "zip" = none
 tuple:mg "tuple" = none
 sorted:mg "sorted" = none
 set:mg "set" = none
 dict:mg "dict" = none
 min:mg "min" = none
 max:mg "max" = none
 range:mg "range" = none
 list:mg "list" = none
 int:mg "int" = none
abbrev dM:Stmt:=top 6
theorem nV:aL ["thing", "kinds", "wanted"] ["thing", "kinds", "wanted"] (ar dM):=⟨rfl,rfl,rfl,by decide +kernel,rfl,by decide +kernel,by decide +kernel⟩
abbrev gY:Stmt:=top 8
theorem wL:aL ["end"] ["end"] (ar gY):=⟨rfl,rfl,rfl,by decide +kernel,rfl,by decide +kernel,by decide +kernel⟩
abbrev ef:Stmt:=top 9
theorem pB:aL ["end"] ["end"] (ar ef):=⟨rfl,rfl,rfl,by decide +kernel,rfl,by decide +kernel,by decide +kernel⟩
abbrev gn:Stmt:=top 7
theorem gO:aL ["plan", "names", "deeds", "end", "deed"] ["plan"] (ar gn):=⟨rfl,rfl,rfl,by decide +kernel,rfl,by decide +kernel,by decide +kernel⟩
abbrev gZ:Stmt:=top 14
theorem kQ:aL ["number", "stretch", "low", "high"] ["number", "stretch"] (ar gZ):=⟨rfl,rfl,rfl,by decide +kernel,rfl,by decide +kernel,by decide +kernel⟩
abbrev fh:Stmt:=top 15
theorem gR:aL ["stretch", "number", "low", "high", "top"] ["stretch", "number"] (ar fh):=⟨rfl,rfl,rfl,by decide +kernel,rfl,by decide +kernel,by decide +kernel⟩
abbrev fG:Stmt:=top 16
theorem ik:aL ["stretch", "number", "low", "high", "bottom"] ["stretch", "number"] (ar fG):=⟨rfl,rfl,rfl,by decide +kernel,rfl,by decide +kernel,by decide +kernel⟩
abbrev g9:Stmt:=top 17
theorem wM:aL ["stretch", "number"] ["stretch", "number"] (ar g9):=⟨rfl,rfl,rfl,by decide +kernel,rfl,by decide +kernel,by decide +kernel⟩
abbrev eS:Stmt:=top 18
theorem iB:aL ["stretch", "number", "low", "high"] ["stretch", "number"] (ar eS):=⟨rfl,rfl,rfl,by decide +kernel,rfl,by decide +kernel,by decide +kernel⟩
abbrev hG:Stmt:=top 19
theorem wN:aL ["stretch", "word", "number", "side"] ["stretch", "word", "number", "side"] (ar hG):=⟨rfl,rfl,rfl,by decide +kernel,rfl,by decide +kernel,by decide +kernel⟩
abbrev gr:Stmt:=top 23
theorem uA:aL ["stretches"] ["stretches"] (ar gr):=⟨rfl,rfl,rfl,by decide +kernel,rfl,by decide +kernel,by decide +kernel⟩
abbrev ja:Stmt:=top 24
theorem zV:aL ["facts", "name"] ["facts", "name"] (ar ja):=⟨rfl,rfl,rfl,by decide +kernel,rfl,by decide +kernel,by decide +kernel⟩
abbrev fi:Stmt:=top 25
theorem lh:aL ["facts", "name", "stretch", "stretches"] ["facts", "name", "stretch"] (ar fi):=⟨rfl,rfl,rfl,by decide +kernel,rfl,by decide +kernel,by decide +kernel⟩
abbrev jb:Stmt:=top 26
theorem nW:aL ["stretch", "number", "low", "high"] ["stretch", "number"] (ar jb):=⟨rfl,rfl,rfl,by decide +kernel,rfl,by decide +kernel,by decide +kernel⟩
abbrev dq:Stmt:=top 27
theorem iV:aL ["stretches", "deed", "word", "name"] ["stretches", "deed"] (ar dq):=⟨rfl,rfl,rfl,by decide +kernel,rfl,by decide +kernel,by decide +kernel⟩
abbrev iC:Stmt:=top 28
theorem my:aL ["facts", "deeds", "stretches", "deed"] ["facts", "deeds"] (ar iC):=⟨rfl,rfl,rfl,by decide +kernel,rfl,by decide +kernel,by decide +kernel⟩
abbrev eh:Stmt:=top 29
theorem cY:aL ["facts", "end", "ways", "word", "name", "number", "stretch", "parts"] ["facts", "end"] (ar eh):=⟨rfl,rfl,rfl,by decide +kernel,rfl,by decide +kernel,by decide +kernel⟩
abbrev jc:Stmt:=top 30
theorem uc:aL ["facts", "end", "beyond"] ["facts", "end"] (ar jc):=⟨rfl,rfl,rfl,by decide +kernel,rfl,by decide +kernel,by decide +kernel⟩
abbrev jd:Stmt:=top 31
theorem zW:aL ["plan"] ["plan"] (ar jd):=⟨rfl,rfl,rfl,by decide +kernel,rfl,by decide +kernel,by decide +kernel⟩
abbrev en:Stmt:=inClass (top 10) 0
theorem pC:aL ["self", "first"] ["self", "first"] (ar en):=⟨rfl,rfl,rfl,by decide +kernel,rfl,by decide +kernel,by decide +kernel⟩
abbrev er:Stmt:=inClass (top 10) 1
theorem pD:aL ["self", "thing"] ["self", "thing"] (ar er):=⟨rfl,rfl,rfl,by decide +kernel,rfl,by decide +kernel,by decide +kernel⟩
abbrev hJ:Stmt:=top 11
theorem il:aL ["plan", "found", "waiting", "at", "way"] ["plan"] (ar hJ):=⟨rfl,rfl,rfl,by decide +kernel,rfl,by decide +kernel,by decide +kernel⟩
abbrev je:Stmt:=top 12
theorem kR:aL ["plan", "found", "at", "way"] ["plan"] (ar je):=⟨rfl,rfl,rfl,by decide +kernel,rfl,by decide +kernel,by decide +kernel⟩
abbrev gu:Stmt:=top 34
theorem nj:aL ["lead", "tops", "places", "most", "piece"] ["lead", "tops", "places", "most"] (ar gu):=⟨rfl,rfl,rfl,by decide +kernel,rfl,by decide +kernel,by decide +kernel⟩
abbrev iD:Stmt:=top 35
theorem yC:aL ["end", "ways"] ["end", "ways"] (ar iD):=⟨rfl,rfl,rfl,by decide +kernel,rfl,by decide +kernel,by decide +kernel⟩
abbrev gx:Stmt:=top 36
theorem cU:aL ["plan", "most", "tops", "copies", "pieces", "piece", "facts", "deeds", "end", "ahead", "ways"] ["plan", "most"] (ar gx):=⟨rfl,rfl,rfl,by decide +kernel,rfl,by decide +kernel,by decide +kernel⟩
abbrev fH:Stmt:=top 20
theorem ud:aL ["stretch", "word", "number"] ["stretch", "word", "number"] (ar fH):=⟨rfl,rfl,rfl,by decide +kernel,rfl,by decide +kernel,by decide +kernel⟩
abbrev eT:Stmt:=inClass (top 38) 1
theorem qA:aL ["self", "name"] ["self", "name"] (ar eT):=⟨rfl,rfl,rfl,by decide +kernel,rfl,by decide +kernel,by decide +kernel⟩
abbrev eu:Stmt:=inClass (top 38) 2
theorem ip:aL ["self", "deeds", "end"] ["self"] (ar eu):=⟨rfl,rfl,rfl,by decide +kernel,rfl,by decide +kernel,by decide +kernel⟩
abbrev cG:Stmt:=inClass (top 38) 3
theorem kj:aL ["self"] ["self"] (ar cG):=⟨rfl,rfl,rfl,by decide +kernel,rfl,by decide +kernel,by decide +kernel⟩
abbrev dN:Stmt:=inClass (top 38) 4
theorem nX:aL ["self"] ["self"] (ar dN):=⟨rfl,rfl,rfl,by decide +kernel,rfl,by decide +kernel,by decide +kernel⟩
abbrev cI:Stmt:=inClass (top 38) 5
theorem kS:aL ["self"] ["self"] (ar cI):=⟨rfl,rfl,rfl,by decide +kernel,rfl,by decide +kernel,by decide +kernel⟩
abbrev dP:Stmt:=inClass (top 38) 6
theorem jF:aL ["self", "deed", "word", "name"] ["self", "deed"] (ar dP):=⟨rfl,rfl,rfl,by decide +kernel,rfl,by decide +kernel,by decide +kernel⟩
abbrev dQ:Stmt:=inClass (top 38) 7
theorem nY:aL ["self", "piece"] ["self", "piece"] (ar dQ):=⟨rfl,rfl,rfl,by decide +kernel,rfl,by decide +kernel,by decide +kernel⟩
abbrev eB:Stmt:=inClass (top 38) 8
theorem cZ:aL ["self", "end", "word", "name", "number", "yes", "no", "worth"] ["self", "end"] (ar eB):=⟨rfl,rfl,rfl,by decide +kernel,rfl,by decide +kernel,by decide +kernel⟩
abbrev dU:Stmt:=inClass (top 38) 9
theorem gS:aL ["self", "deeds", "end"] ["self"] (ar dU):=⟨rfl,rfl,rfl,by decide +kernel,rfl,by decide +kernel,by decide +kernel⟩
abbrev dt:Stmt:=inClass (top 38) 0
theorem mS:aL ["self", "pieces", "begin", "worths", "numbers"] ["self", "pieces", "begin", "worths", "numbers"] (ar dt):=⟨rfl,rfl,rfl,by decide +kernel,rfl,by decide +kernel,by decide +kernel⟩
abbrev jf:Stmt:=top 39
theorem nZ:aL ["stand", "steps", "done"] ["stand", "steps"] (ar jf):=⟨rfl,rfl,rfl,by decide +kernel,rfl,by decide +kernel,by decide +kernel⟩
abbrev iE:Stmt:=top 40
theorem jS:aL ["plan", "piece", "worths", "numbers", "steps", "stand", "done", "held"] ["plan", "piece", "worths", "numbers", "steps"] (ar iE):=⟨rfl,rfl,rfl,by decide +kernel,rfl,by decide +kernel,by decide +kernel⟩
abbrev mP:Stmt:=top 41
theorem CN:aL ["plan", "numbers", "steps"] ["plan", "numbers", "steps"] (ar mP):=⟨rfl,rfl,rfl,by decide +kernel,rfl,by decide +kernel,by decide +kernel⟩
abbrev km:Stmt:=top 42
theorem vB:aL ["plan", "numbers", "steps", "stand"] ["plan", "numbers", "steps"] (ar km):=⟨rfl,rfl,rfl,by decide +kernel,rfl,by decide +kernel,by decide +kernel⟩
abbrev hR:Stmt:=top 44
theorem kT:aL ["script", "k", "cell"] ["script", "k"] (ar hR):=⟨rfl,rfl,rfl,by decide +kernel,rfl,by decide +kernel,by decide +kernel⟩
abbrev gy:Stmt:=top 45
theorem nq:aL ["bag", "many", "found"] ["bag", "many"] (ar gy):=⟨rfl,rfl,rfl,by decide +kernel,rfl,by decide +kernel,by decide +kernel⟩
abbrev fI:Stmt:=top 46
theorem dG:aL ["bag", "letters", "many", "base", "at", "names", "k", "name"] ["bag"] (ar fI):=⟨rfl,rfl,rfl,by decide +kernel,rfl,by decide +kernel,by decide +kernel⟩
abbrev fj:Stmt:=top 47
theorem rQ:aL ["bag"] ["bag"] (ar fj):=⟨rfl,rfl,rfl,by decide +kernel,rfl,by decide +kernel,by decide +kernel⟩
abbrev gB:Stmt:=top 48
theorem j0:aL ["bag", "names", "word", "name"] ["bag", "names"] (ar gB):=⟨rfl,rfl,rfl,by decide +kernel,rfl,by decide +kernel,by decide +kernel⟩
abbrev hU:Stmt:=top 49
theorem i5:aL ["bag", "names", "count", "way", "word", "name"] ["bag", "names", "count"] (ar hU):=⟨rfl,rfl,rfl,by decide +kernel,rfl,by decide +kernel,by decide +kernel⟩
abbrev gC:Stmt:=top 50
theorem fJ:aL ["bag", "count", "most", "names", "pieces", "k", "many", "end"] ["bag", "count", "most"] (ar gC):=⟨rfl,rfl,rfl,by decide +kernel,rfl,by decide +kernel,by decide +kernel⟩
abbrev fK:Stmt:=top 51
theorem ue:aL ["bag", "most"] ["bag", "most"] (ar fK):=⟨rfl,rfl,rfl,by decide +kernel,rfl,by decide +kernel,by decide +kernel⟩
abbrev gF:Stmt:=top 52
theorem bM:aL ["plan", "state", "numbers", "piece", "place", "worths", "taken", "told", "word", "been", "deeds", "end", "deed", "worth", "there", "yes"] ["plan", "state", "numbers"] (ar gF):=⟨rfl,rfl,rfl,by decide +kernel,rfl,by decide +kernel,by decide +kernel⟩
abbrev gG:Stmt:=top 53
theorem iI:aL ["plan", "numbers", "steps", "state", "k"] ["plan", "numbers", "steps"] (ar gG):=⟨rfl,rfl,rfl,by decide +kernel,rfl,by decide +kernel,by decide +kernel⟩
abbrev fL:Stmt:=top 54
theorem mz:aL ["bag", "many"] ["bag"] (ar fL):=⟨rfl,rfl,rfl,by decide +kernel,rfl,by decide +kernel,by decide +kernel⟩
abbrev i6:Stmt:=top 55
theorem fk:aL ["script", "bag", "most", "plan", "other", "copies", "k", "numbers", "steps", "state", "there", "due"] ["script"] (ar i6):=⟨rfl,rfl,rfl,by decide +kernel,rfl,by decide +kernel,by decide +kernel⟩
section
variable {P:Program} {w:World} {K:PySem.W.Frag} {mg:Str->Option Value} {base:Heap}
theorem n9 {f:Addr} {fd:FuncData} (F:bQ K "parts_of_kind" "parts_of_kind" dM f fd) (Z:Bl mg)  : bc P w K mg base bO 1 f fd ["thing", "kinds", "wanted"] (mI K):=by
 refine F.ok (k:=0) nV (fun vs H Q E h=>?_) (fun cdv A outer s H vs Q E hr h=>?_)
 ·obtain⟨t,s,v0,xs,ks,w,rfl,_⟩:=h
  rfl
 ·obtain⟨t,s,v0,xs,ks,w,rfl,ht,hs,hl,q⟩:=h
  refine⟨_,(av (aF (eF ["part", "kind"] ["wanted"] [2] rfl (xU rfl Z.zip (aa (sI ve (pv 0) (uT ao) uS) (aa (pv 1) af))) rfl (by decide +kernel) (by decide +kernel) (by decide +kernel) ⟨⟨rfl,.inl rfl,rfl⟩,True.intro⟩ (fun _ _ _ _=>(uY (K:=K) (n:=2) rfl (dz (n:=2) rfl (aR (aG (i:=0) (show ((["part", "kind"]:List Str)++(["wanted"]:List Str)).Nodup by decide +kernel) rfl (Or.inl rfl) (hf:=Or.inr rfl)) (aR (aG (i:=1) (show ((["part", "kind"]:List Str)++(["wanted"]:List Str)).Nodup by decide +kernel) rfl (Or.inl rfl) (hf:=Or.inr rfl)) cO))))) (fun _ _ _ _=>(pT (aH bR (pv 1) (pv 2) (aO _)))) (fun _ _ _ _=>(pv 0))))),?_⟩
  refine⟨_,rfl,_,rfl,t,_,rfl,ay.of ht,fun hw=>?_,fun _ p np=>?_⟩
  ·exfalso
   obtain⟨h1,_⟩:=hw
   simp [HT.bT] at h1
  ·have ec:jU (v0 :: xs) (some 1) none=xs:=by simp [jU,HT.bT]
   rw [ec]
   have sp:=au.new (o:=.tup xs) np
   refine⟨_,rfl,p,s,rfl,⟨_,ay.of ae⟩,⟨_,hs.same sp⟩,fun acc na=>?_⟩
   refine xV (K:=K) (a:=p) (b:=s) (xs:=xs) (ys:=ks.map V.str) (fun i zs τ H'=>∃ (c1 c2:Option V),τ = [c1,c2,some (.str w)]/\zs=jO w xs ks i/\H' acc=some (.lst zs)/\H' p=some (.tup xs)/\au H H') ?_ ?_ ?_ ?_
   ·exact⟨none,none,rfl,rfl,ae,au.new na _ _ ae,sp.trans (au.new na)⟩
   ·rintro i zs τ H4 hi ⟨c1,c2,rfl,rfl,ha,hp4,s4⟩
    exact⟨ay.of hp4,hs.same s4,ha,cy (by have:=xX (w:=w) (xs:=xs) (ks:=ks) (i:=i);omega)⟩
   ·rintro i x y zs τ H4 u hx hy hu ⟨c1,c2,rfl,rfl,ha,hp4,s4⟩
    obtain⟨k,rfl,hk⟩:∃ k,y=V.str k/\ks[i]? = some k:=by
     rw [List.getElem?_map] at hy
     cases e:ks[i]? with
     | none=>rw [e] at hy;cases hy
     | some k=>rw [e] at hy;exact⟨k,(Option.some.inj hy).symm,rfl⟩
    have su:=au.new (o:=.tup [x,.str k]) hu
    refine⟨u,_,rfl,ay.of ae,rfl,_,_,rfl,_,_,rfl,rfl,?_⟩
    refine⟨_,rfl,_,rfl,rfl,_,rfl,?_⟩
    have hn:=we (w:=w) hx hk
    by_cases hkw:k=w
    ·rw [if_pos hkw] at hn
     refine bW (decide_eq_true (congrArg V.str hkw)) ?_
     refine⟨_,rfl,su _ _ ha,_,_,rfl,hn.symm,ae,?_,?_⟩
     ·rw [ai (bA hp4 ha (by intro z;cases z))]
      exact su _ _ hp4
     ·exact (s4.trans su).put (sp.free na)
    ·rw [if_neg hkw,List.append_nil] at hn
     refine aN (decide_eq_false fun z=>hkw (V.str.inj z)) ?_
     exact⟨_,_,rfl,hn.symm,su _ _ ha,su _ _ hp4,s4.trans su⟩
   ·rintro zs τ H4 ⟨c1,c2,rfl,rfl,ha,hp4,s4⟩
    rw [xW] at ha
    exact q acc H4 ha s4
theorem wO {f:Addr} {fd:FuncData} (F:bQ K "ways_on" "ways_on" gY f fd) (Z:Bl mg) {aE s0 s1 s2 s3:Addr} (GE:tG K mg aE s0 s1 s2 s3) (O_parts_of_kind:Own P w K mg base "parts_of_kind" 1 ["thing", "kinds", "wanted"] (mI K)):bc P w K mg base bO 3 f fd ["end"] jA:=by
 refine F.ok (k:=2) wL (fun vs H Q E h=>?_) (fun cdv A outer s H vs Q E hr h=>?_)
 ·obtain⟨ea,e,rfl,_⟩:=h
  rfl
 ·obtain⟨ea,e,rfl,he,q⟩:=h
  refine⟨_,(av (aF (bg bf rfl Z.tuple bZ (aa (aB O_parts_of_kind (hr.mono (by decide)) rfl (aa (pv 0) (aa (qg GE.tab rfl (aC aM (pv 0) ao (fun _ _=>rfl)) (fun _ _=>rfl)) (aa aW af)))) af)))),?_⟩
  obtain⟨xs,ev,hl,hp⟩:=xY e
  rw [ev] at he
  obtain⟨s,hs,ks⟩:=GE.at_ e
  refine⟨_,rfl,_,rfl,ea,_,0,_,rfl,rfl,ay.of he,bH,_,s,rfl,hs,ea,s,_,xs,kE e, "piece",rfl,he,.inr ks,hl,fun l H1 hl1 s1=>?_⟩
  rw [hp] at hl1
  exact⟨l,_,rfl,.inl ⟨aU.of hl1,fun t ht=>q t _ ae (s1.trans (au.new ht))⟩⟩
theorem pE {f:Addr} {fd:FuncData} (F:bQ K "without_ways" "without_ways" ef f fd) (Z:Bl mg) (O_ways_on:Own P w K mg base "ways_on" 3 ["end"] jA):bc P w K mg base bO 4 f fd ["end"] mf:=by
 refine F.ok (k:=3) pB (fun vs H Q E h=>?_) (fun cdv A outer s H vs Q E hr h=>?_)
 ·obtain⟨ea,e,rfl,_⟩:=h
  rfl
 ·obtain⟨ea,e,rfl,he,q⟩:=h
  refine⟨_,(av (aF (sI ve (pv 0) uS (uT (br gM (bC bx rfl Z.len cK (aa (pv 0) af)) (bC bx rfl Z.len cK (aa (aB O_ways_on (hr.mono (by decide)) rfl (aa (pv 0) af)) af))))))),?_⟩
  refine⟨_,rfl,_,rfl,ea,_,rfl,.inr (ay.of he),_,rfl,ea,e,rfl,he,fun t H1 ht s1=>⟨t,_,rfl,.inr (ay.of ht),_,_,rfl,rfl,?_⟩⟩
  have he1:=s1 _ _ he
  have el:((fN e).length:Int) - (((bu e).map fun k=>V.int (k:Nat)).length:Int)=((kJ e).length:Nat):=by cases e <;> rfl
  have ec:jU (fN e) none (some ((kJ e).length:Nat))=kJ e:=by
   unfold jU
   rw [HT.yX,HT.AJ]
   cases e <;> rfl
  refine⟨_,congrArg V.int el,ea,_,rfl,ay.of he1,fun hw=>?_,fun _ p hp=>?_⟩
  ·unfold jU at ec
   rw [hw.1,hw.2] at ec
   refine q ea H1 ?_ s1
   rw [he1,<-ec]
   simp
  ·rw [ec]
   exact q p _ ae (s1.trans (au.new hp))
theorem uB {f:Addr} {fd:FuncData} (F:bQ K "names_of" "names_of" gn f fd) (Z:Bl mg) {aD d0 d1 d2 d3 d4:Addr} (GD:sd K mg aD d0 d1 d2 d3 d4) {aE s0 s1 s2 s3:Addr} (GE:tG K mg aE s0 s1 s2 s3) (O_parts_of_kind:Own P w K mg base "parts_of_kind" 1 ["thing", "kinds", "wanted"] (mI K)):bc P w K mg base bO 3 f fd ["plan"] lZ:=by
 refine F.ok (k:=2) gO (fun vs H Q E h=>?_) (fun cdv A outer s H vs Q E hr h=>?_)
 ·obtain⟨plv,ps,xs,m,rfl,_⟩:=h
  rfl
 ·obtain⟨plv,ps,xs,m,rfl,hp,pok,hx64,hal,q⟩:=h
  refine⟨_,(ah (aQ (i:=1) gO.nd rfl (Or.inl rfl) (cP af))
   (ah (gK PassesOwn.never rfl (fB (pv 0)) (dz rfl (aR (aG (i:=2) gO.nd rfl (Or.inl rfl)) (aR (aG (i:=3) gO.nd rfl (Or.inl rfl)) cO)))
   (ah (gK PassesOwn.never rfl (fB (pv 2)) (aG (i:=4) gO.nd rfl (Or.inl rfl))
   (av (cE (fY PySem.F.plainAttrs_list PySem.F.slot_list_extend PySem.F.type_list_extend qO (pv 1) (aa (aB O_parts_of_kind (hr.mono (by decide)) rfl (aa (pv 4) (aa (qg GD.tab rfl (aC aM (pv 4) ao (fun _ _=>rfl)) (fun _ _=>rfl)) (aa aW af)))) af)))))
   (av (cE (fY PySem.F.plainAttrs_list PySem.F.slot_list_extend PySem.F.type_list_extend qO (pv 1) (aa (aB O_parts_of_kind (hr.mono (by decide)) rfl (aa (pv 3) (aa (qg GE.tab rfl (aC aM (pv 3) ao (fun _ _=>rfl)) (fun _ _=>rfl)) (aa aW af)))) af))))))
   (av (aF (bg bf rfl Z.tuple bZ (aa (bC (rL rfl) rfl Z.sorted jN (aa (bg (yi rfl) rfl Z.set yg (aa (pv 1) af)) af)) af)))))),?_⟩
  obtain⟨pp,vs,rfl,e1,r⟩:=aS.cx hp
  have hl:=r.len
  refine⟨(by show 0<=sizeLine;decide),fun nm nn=>?_⟩
  have s0:=au.new (o:=.lst []) nn
  have big:∀ (i:Nat) (ys:List Str),ys.length<=4000->(ys.map V.str).length<=sizeLine:=fun i ys h=>by rw [List.length_map];exact Nat.le_trans h (by decide)
  refine⟨_,rfl,pp,rfl,⟨_,ay.of (s0 _ _ e1)⟩,i7 (K:=K) (a:=pp) (xs:=vs) (fun i σ H'=>∃ (u1 u2 u3:Option V),σ = [some (.ref pp),some (.ref nm),u1,u2,u3]/\H' nm=some (.lst ((bJ (ps.take i)).map V.str))/\au H H') ?_ ?_ ?_ ?_⟩
  ·exact⟨_,_,_,rfl,ae,s0⟩
  ·rintro i σ H1 hi ⟨u1,u2,u3,rfl,h1,s1⟩
   exact ay.of (s1 _ _ e1)
  ·rintro i x σ H1 hi ⟨u1,u2,u3,rfl,h1,s1⟩
   have hlt:i < ps.length:=by
    have:=(List.getElem?_eq_some_iff.mp hi).1
    rw [hl,List.length_map] at this
    exact this
   have hpi:ps[i]? = some ps[i]:=by simp [hlt]
   generalize ps[i] = pe at hpi
   obtain⟨ds,e⟩:=pe
   have hnext:=q8 (f:=pNames) hpi
   have hsz:(bJ (ps.take (i+1))).length<=4000:=Nat.le_trans (kY (f:=pNames) (i+1)) hal
   have hsz':(bJ (ps.take i)).length+((ds.flatMap d7).length+(jB e).length)<=4000:=by
    have z:=congrArg List.length hnext
    unfold bJ at hsz ⊢
    rw [z] at hsz
    simp only [List.length_append,pNames] at hsz
    omega
   obtain⟨p',xs',pc,da,ea,ws,ep,e1',el',hx',e2,e3,r3,e4⟩:=fT hp hpi
   cases ep
   rw [e1] at e1'
   cases e1'
   rw [hi] at hx'
   cases hx'
   refine⟨pc,_,rfl,ay.of (s1 _ _ e2),rfl,_,_,rfl,_,_,rfl,rfl,?_⟩
   refine⟨_,rfl,da,rfl,⟨_,ay.of (s1 _ _ e3)⟩,i7 (K:=K) (a:=da) (xs:=ws) (fun j σ H'=>∃ (u3:Option V),σ = [some (.ref pp),some (.ref nm),some (.ref da),some (.ref ea),u3]/\H' nm=some (.lst ((bJ (ps.take i)++(ds.take j).flatMap d7).map V.str))/\au H H') ?_ ?_ ?_ ?_⟩
   ·exact⟨_,rfl,by simpa using h1,s1⟩
   ·rintro j σ H2 hj ⟨u3',rfl,h2,s2⟩
    exact ay.of (s2 _ _ e3)
   ·rintro j y σ H2 hj ⟨u3',rfl,h2,s2⟩
    have hjl:j < ds.length:=by
     have:=(List.getElem?_eq_some_iff.mp hj).1
     rw [r3.len,List.length_map] at this
     exact this
    have hdj:ds[j]? = some ds[j]:=by simp [hjl]
    generalize ds[j] = dd at hdj
    obtain⟨v,hv,rd⟩:=r3.get (i:=j) (d:=cq dd) (by rw [List.getElem?_map,hdj];rfl)
    rw [hj] at hv
    cases hv
    obtain⟨dp,rfl,hdp⟩:=j8 rd
    have hdp2:=s2 _ _ hdp
    obtain⟨zs,ez,hzl,hpk⟩:=wx dd
    rw [ez] at hdp2
    obtain⟨s,hs,ks⟩:=GD.at_ dd
    have hnj:=q8 (f:=d7) hdj
    have hsj:((ds.take (j+1)).flatMap d7).length<=(ds.flatMap d7).length:=kY (f:=d7) (j+1)
    refine dC ?_
    refine⟨_,rfl,.inl ⟨rfl,_,aU.of h2⟩,_,rfl,_,rfl,dp,_,0,_,rfl,rfl,ay.of hdp2,bH,_,s,rfl,hs,dp,s,_,zs,kD dd, "name",rfl,hdp2,.inr ks,hzl,fun l H3 hl3 s3=>?_⟩
    rw [hpk] at hl3
    have h3:=s3 _ _ h2
    refine⟨nm,l,_,_,rfl,rfl,h3,hl3,?_,?_⟩
    ·rw [List.length_map,List.length_map,List.length_append]
     rw [hnj,List.length_append] at hsj
     exact Nat.le_trans (show _<=4000 by omega) (by decide)
    ·refine⟨_,rfl,?_,(s2.trans s3).put nn⟩
     rw [ae,hnj,<-List.append_assoc];simp only [List.map_append]
   ·rintro σ H2 ⟨u3',rfl,h2,s2⟩
    rw [show ws.length=ds.length by rw [r3.len,List.length_map],List.take_length] at h2
    have e42:=s2 _ _ e4
    obtain⟨zs,ez,hzl,hpk⟩:=wy e
    rw [ez] at e42
    obtain⟨s,hs,ks⟩:=GE.at_ e
    refine⟨_,rfl,.inl ⟨rfl,_,aU.of h2⟩,_,rfl,_,rfl,ea,_,0,_,rfl,rfl,ay.of e42,bH,_,s,rfl,hs,ea,s,_,zs,kE e, "name",rfl,e42,.inr ks,hzl,fun l H3 hl3 s3=>?_⟩
    rw [hpk] at hl3
    have h3:=s3 _ _ h2
    refine⟨nm,l,_,_,rfl,rfl,h3,hl3,?_,?_⟩
    ·rw [List.length_map,List.length_map,List.length_append]
     exact Nat.le_trans (show _<=4000 by omega) (by decide)
    ·refine⟨_,_,_,rfl,?_,(s2.trans s3).put nn⟩
     rw [ae,<-List.map_append]
     unfold bJ at hnext ⊢
     rw [hnext]
     simp only [pNames,List.append_assoc]
  ·rintro σ H1 ⟨u1,u2,u3,rfl,h1,s1⟩
   rw [show vs.length=ps.length by rw [hl,List.length_map],List.take_length] at h1
   have hk:aU K H1 nm (((bJ ps).map (Sum.inr:Str->Key)).map kV):=by rw [Bf];exact aU.of h1
   refine⟨_,rfl,nm,(bJ ps).map Sum.inr,rfl,hk,(by rw [List.length_map];show _+1 < 4096;omega),fun sa hsa=>?_⟩
   have hf:=zF pok
   refine⟨sa,LS.dI (bJ ps),rfl,(by rw [ae,wz]),(by omega),fun l ss hperm hsort hn=>?_⟩
   have s2:=au.new (o:=cD P w sa (LS.dI ((bJ ps).map (Sum.inr:Str->Key)))) hsa
   refine⟨l,_,rfl,.inl ⟨aU.of ae,fun t ht=>?_⟩⟩
   exact q t ss _ ae hperm hsort (by rw [hperm.length_eq];omega) (((s1.trans s2).trans (au.new hn)).trans (au.new ht))
theorem wQ {f:Addr} {fd:FuncData} (F:bQ K "lies_in" "lies_in" gZ f fd) (Z:Bl mg)  : bc P w K mg base bO 1 f fd ["number", "stretch"] (qr K):=by
 refine F.ok (k:=0) kQ (fun vs H Q E h=>?_) (fun cdv A outer s H vs Q E hr h=>?_)
 ·obtain⟨n,q,lo,hi,rfl,_⟩:=h
  rfl
 ·obtain⟨n,q,lo,hi,rfl,hq,k⟩:=h
  refine⟨_,(ah (dh (pv 1) (dz rfl (aR (aG (i:=2) kQ.nd rfl (Or.inl rfl)) (aR (aG (i:=3) kQ.nd rfl (Or.inl rfl)) cO))))
   (av (aF (xc (vE (xb (hX (pv 2))) (lB (ir vI (pv 2) (pv 0) (aO _)))) (lB (vE (xb (hX (pv 3))) (lB (ir vI (pv 0) (pv 3) (aO _))))))))),?_⟩
  refine⟨_,rfl,q,_,rfl,hq,rfl,_,_,rfl,_,_,rfl,rfl,?_⟩
  cases lo with
  | none =>
   refine⟨_,rfl,_,rfl,cm ⟨_,rfl,cm ?_⟩⟩
   cases hi with
   | none=>exact⟨_,rfl,_,rfl,cm k⟩
   | some b =>
    refine⟨_,rfl,_,rfl,cB ⟨_,rfl,_,rfl,_,_,rfl,rfl,?_⟩⟩
    simpa only [cH,Bool.true_and] using k
  | some a =>
   refine⟨_,rfl,_,rfl,cB ⟨_,rfl,_,rfl,_,_,rfl,rfl,_,rfl,?_⟩⟩
   cases hx:decide (a<=n) with
   | false=>exact cB (by have k':=k;simp only [cH,hx,Bool.false_and] at k';exact k')
   | true =>
    refine cm ?_
    cases hi with
    | none=>exact⟨_,rfl,_,rfl,cm (by have k':=k;simp only [cH,hx,Bool.true_and] at k';exact k')⟩
    | some b =>
     refine⟨_,rfl,_,rfl,cB ⟨_,rfl,_,rfl,_,_,rfl,rfl,?_⟩⟩
     have k':=k
     simp only [cH,hx,Bool.true_and] at k'
     exact k'
theorem rR {f:Addr} {fd:FuncData} (F:bQ K "part_below" "part_below" fh f fd) (Z:Bl mg)  : bc P w K mg base bO 1 f fd ["stretch", "number"] (iT K ff):=by
 refine F.ok (k:=0) gR (fun vs H Q E h=>?_) (fun cdv A outer s H vs Q E hr h=>?_)
 ·obtain⟨p,n,lo,hi,rfl,_⟩:=h
  rfl
 ·obtain⟨p,n,lo,hi,rfl,hp,q⟩:=h
  refine⟨_,(ah (dh (pv 0) (dz rfl (aR (aG (i:=2) gR.nd rfl (Or.inl rfl)) (aR (aG (i:=3) gR.nd rfl (Or.inl rfl)) cO))))
   (ah (aQ (i:=4) gR.nd rfl (Or.inl rfl) (dW (gJ (hX (pv 3))) (br gM (pv 1) ao) (bC (lG rfl) rfl Z.min sL (aa (pv 3) (aa (br gM (pv 1) ao) af)))))
   (ah (bp (PW.pt (oq (gJ (pM (pv 2))) (mB (aH rW (pv 2) (pv 4) (aO _)))))
   (av (aF jh))
   aX)
   (av (aF (bB (aa (pv 2) (aa (pv 4) af)))))))),?_⟩
  refine⟨_,rfl,p,_,rfl,hp,rfl,_,_,rfl,_,_,rfl,rfl,?_⟩
  cases hi with
  | none =>
   refine⟨_,rfl,_,rfl,cm ⟨_,rfl,_,_,rfl,rfl,?_⟩⟩
   cases lo with
   | none =>
    refine⟨_,rfl,_,rfl,cB (cB ⟨_,rfl,_,rfl,ln2,fun l hl=>?_⟩)⟩
    exact q _ _ ⟨l,rfl,ae⟩ (au.new hl)
   | some i =>
    refine⟨_,rfl,_,rfl,cm ⟨_,rfl,_,rfl,_,_,rfl,rfl,_,rfl,?_⟩⟩
    refine dX (fun hc=>?_) (fun hc=>?_)
    ·have hlt:iw none n < i:=of_decide_eq_true hc
     exact q _ _ (by simp only [ff];rw [if_pos hlt];rfl) (au.refl H)
    ·have hlt:¬ iw none n < i:=fun z=>hc (decide_eq_true z)
     refine⟨_,rfl,_,rfl,ln2,fun l hl=>?_⟩
     exact q _ _ (by simp only [ff];rw [if_neg hlt];exact⟨l,rfl,ae⟩) (au.new hl)
  | some j =>
   refine⟨_,rfl,_,rfl,cB ⟨_,rfl,_,rfl,_,_,rfl,rfl,_,_,rfl,?_⟩⟩
   cases lo with
   | none =>
    refine⟨_,rfl,_,rfl,cB (cB ⟨_,rfl,_,rfl,ln2,fun l hl=>?_⟩)⟩
    exact q _ _ ⟨l,rfl,ae⟩ (au.new hl)
   | some i =>
    refine⟨_,rfl,_,rfl,cm ⟨_,rfl,_,rfl,_,_,rfl,rfl,_,rfl,?_⟩⟩
    refine dX (fun hc=>?_) (fun hc=>?_)
    ·have hlt:iw (some j) n < i:=of_decide_eq_true hc
     exact q _ _ (by simp only [ff];rw [if_pos hlt];rfl) (au.refl H)
    ·have hlt:¬ iw (some j) n < i:=fun z=>hc (decide_eq_true z)
     refine⟨_,rfl,_,rfl,ln2,fun l hl=>?_⟩
     exact q _ _ (by simp only [ff];rw [if_neg hlt];exact⟨l,rfl,ae⟩) (au.new hl)
theorem uf {f:Addr} {fd:FuncData} (F:bQ K "part_from" "part_from" fG f fd) (Z:Bl mg)  : bc P w K mg base bO 1 f fd ["stretch", "number"] (iT K fP):=by
 refine F.ok (k:=0) ik (fun vs H Q E h=>?_) (fun cdv A outer s H vs Q E hr h=>?_)
 ·obtain⟨p,n,lo,hi,rfl,_⟩:=h
  rfl
 ·obtain⟨p,n,lo,hi,rfl,hp,q⟩:=h
  refine⟨_,(ah (dh (pv 0) (dz rfl (aR (aG (i:=2) ik.nd rfl (Or.inl rfl)) (aR (aG (i:=3) ik.nd rfl (Or.inl rfl)) cO))))
   (ah (aQ (i:=4) ik.nd rfl (Or.inl rfl) (dW (gJ (hX (pv 2))) (pv 1) (bC (xk rfl) rfl Z.max Ci (aa (pv 2) (aa (pv 1) af)))))
   (ah (bp (PW.pt (oq (gJ (pM (pv 3))) (mB (aH rW (pv 4) (pv 3) (aO _)))))
   (av (aF jh))
   aX)
   (av (aF (bB (aa (pv 4) (aa (pv 3) af)))))))),?_⟩
  refine⟨_,rfl,p,_,rfl,hp,rfl,_,_,rfl,_,_,rfl,rfl,?_⟩
  cases lo with
  | none =>
   refine⟨_,rfl,_,rfl,cm ⟨_,rfl,?_⟩⟩
   cases hi with
   | none =>
    refine⟨_,rfl,_,rfl,cB (cB ⟨_,rfl,_,rfl,ln2,fun l hl=>?_⟩)⟩
    exact q _ _ ⟨l,rfl,ae⟩ (au.new hl)
   | some j =>
    refine⟨_,rfl,_,rfl,cm ⟨_,rfl,_,rfl,_,_,rfl,rfl,_,rfl,?_⟩⟩
    refine dX (fun hc=>?_) (fun hc=>?_)
    ·have hlt:j < gH none n:=of_decide_eq_true hc
     exact q _ _ (by simp only [fP];rw [if_pos hlt];rfl) (au.refl H)
    ·have hlt:¬ j < gH none n:=fun z=>hc (decide_eq_true z)
     refine⟨_,rfl,_,rfl,ln2,fun l hl=>?_⟩
     exact q _ _ (by simp only [fP];rw [if_neg hlt];exact⟨l,rfl,ae⟩) (au.new hl)
  | some i =>
   refine⟨_,rfl,_,rfl,cB ⟨_,rfl,_,rfl,_,_,rfl,?_⟩⟩
   cases hi with
   | none =>
    refine⟨_,rfl,_,rfl,cB (cB ⟨_,rfl,_,rfl,ln2,fun l hl=>?_⟩)⟩
    exact q _ _ ⟨l,rfl,ae⟩ (au.new hl)
   | some j =>
    refine⟨_,rfl,_,rfl,cm ⟨_,rfl,_,rfl,_,_,rfl,rfl,_,rfl,?_⟩⟩
    refine dX (fun hc=>?_) (fun hc=>?_)
    ·have hlt:j < gH (some i) n:=of_decide_eq_true hc
     exact q _ _ (by simp only [fP];rw [if_pos hlt];rfl) (au.refl H)
    ·have hlt:¬ j < gH (some i) n:=fun z=>hc (decide_eq_true z)
     refine⟨_,rfl,_,rfl,ln2,fun l hl=>?_⟩
     exact q _ _ (by simp only [fP];rw [if_neg hlt];exact⟨l,rfl,ae⟩) (au.new hl)
theorem wR {f:Addr} {fd:FuncData} (F:bQ K "part_at" "part_at" g9 f fd) (Z:Bl mg) (O_lies_in:Own P w K mg base "lies_in" 1 ["number", "stretch"] (qr K)):bc P w K mg base bO 2 f fd ["stretch", "number"] (iT K kW):=by
  refine F.ok (k:=1) wM (fun vs H Q E h=>?_) (fun cdv A outer s H vs Q E hr h=>?_)
  · obtain⟨p,n,lo,hi,rfl,_⟩:=h
    rfl
  · obtain⟨p,n,lo,hi,rfl,hp,q⟩:=h
    refine⟨_,(ah (bp (lu (aB O_lies_in (hr.mono (by decide)) rfl (aa (pv 1) (aa (pv 0) af))))
      (av (aF (bB (aa (pv 1) (aa (pv 1) af)))))
      aX)
      (av (aF jh))),?_⟩
    refine⟨_,rfl,_,rfl,n,p,lo,hi,rfl,hp,_,rfl,?_⟩
    refine dX (fun hc=>?_) (fun hc=>?_)
    · refine⟨_,rfl,_,rfl,ln2,fun l hl=>?_⟩
      exact q _ _ (by simp only [kW,if_pos hc];exact⟨l,rfl,ae⟩) (au.new hl)
    · exact q _ _ (by simp only [kW,if_neg hc];rfl) (au.refl H)
theorem qB {f:Addr} {fd:FuncData} (F:bQ K "part_beside" "part_beside" eS f fd) (Z:Bl mg)  : bc P w K mg base bO 1 f fd ["stretch", "number"] (iT K gI):=by
 refine F.ok (k:=0) iB (fun vs H Q E h=>?_) (fun cdv A outer s H vs Q E hr h=>?_)
 ·obtain⟨p,n,lo,hi,rfl,_⟩:=h
  rfl
 ·obtain⟨p,n,lo,hi,rfl,hp,q⟩:=h
  refine⟨_,(ah (dh (pv 0) (dz rfl (aR (aG (i:=2) iB.nd rfl (Or.inl rfl)) (aR (aG (i:=3) iB.nd rfl (Or.inl rfl)) cO))))
   (ah (bp (PW.pt (oq (aH bR (pv 2) (pv 1) (aO _)) (mB (aH bR (pv 3) (pv 1) (aO _)))))
   (av (aF jh))
   aX)
   (ah (bp (aH bR (pv 2) (pv 1) (aO _))
   (av (aF (bB (aa (br cV (pv 1) ao) (aa (pv 3) af)))))
   aX)
   (ah (bp (aH bR (pv 3) (pv 1) (aO _))
   (av (aF (bB (aa (pv 2) (aa (br gM (pv 1) ao) af)))))
   aX)
   (av (aF (bB (aa (pv 2) (aa (pv 3) af))))))))),?_⟩
  refine⟨_,rfl,p,_,rfl,hp,rfl,_,_,rfl,_,_,rfl,rfl,?_⟩
  refine⟨_,rfl,_,rfl,lR,_,rfl,?_⟩
  rw [oM]
  refine dX (fun hc=>?_) (fun hc=>?_)
  ·have h1:lo=some n:=of_decide_eq_true hc
   refine⟨_,rfl,_,rfl,lR,_,rfl,?_⟩
   rw [oM]
   refine dX (fun hd=>?_) (fun hd=>?_)
   ·have h2:hi=some n:=of_decide_eq_true hd
    exact q _ _ (by simp only [gI,if_pos h1,if_pos h2];rfl) (au.refl H)
   ·have h2:¬ hi=some n:=fun z=>hd (decide_eq_true z)
    refine⟨_,rfl,_,rfl,lR,_,rfl,?_⟩
    rw [oM,hc]
    refine cm ⟨_,rfl,_,_,rfl,rfl,_,rfl,ln2,fun l hl=>?_⟩
    exact q _ _ (by simp only [gI,if_pos h1,if_neg h2];exact⟨l,rfl,ae⟩) (au.new hl)
  ·have h1:¬ lo=some n:=fun z=>hc (decide_eq_true z)
   refine cB ?_
   refine⟨_,rfl,_,rfl,lR,_,rfl,?_⟩
   rw [oM,show decide (lo=some n)=false from decide_eq_false h1]
   refine cB ?_
   refine⟨_,rfl,_,rfl,lR,_,rfl,?_⟩
   rw [oM]
   refine dX (fun hd=>?_) (fun hd=>?_)
   ·have h2:hi=some n:=of_decide_eq_true hd
    refine⟨_,rfl,_,rfl,_,_,rfl,rfl,ln2,fun l hl=>?_⟩
    exact q _ _ (by simp only [gI,if_neg h1,if_pos h2];exact⟨l,rfl,ae⟩) (au.new hl)
   ·have h2:¬ hi=some n:=fun z=>hd (decide_eq_true z)
    refine⟨_,rfl,_,rfl,ln2,fun l hl=>?_⟩
    exact q _ _ (by simp only [gI,if_neg h1,if_neg h2];exact⟨l,rfl,ae⟩) (au.new hl)
theorem wU {f:Addr} {fd:FuncData} (F:bQ K "part_of" "part_of" hG f fd) (Z:Bl mg) (O_part_below:Own P w K mg base "part_below" 1 ["stretch", "number"] (iT K ff)) (O_part_from:Own P w K mg base "part_from" 1 ["stretch", "number"] (iT K fP)) (O_part_at:Own P w K mg base "part_at" 2 ["stretch", "number"] (iT K kW)) (O_part_beside:Own P w K mg base "part_beside" 1 ["stretch", "number"] (iT K gI)):bc P w K mg base bO 3 f fd ["stretch", "word", "number", "side"] (mN K):=by
 refine F.ok (k:=2) wN (fun vs H Q E h=>?_) (fun cdv A outer s H vs Q E hr h=>?_)
 ·obtain⟨p,w,n,side,lo,hi,rfl,_⟩:=h
  rfl
 ·obtain⟨p,w,n,side,lo,hi,rfl,hp,q⟩:=h
  refine⟨_,(ah (bp (aH bR (pv 1) aW (aO _))
   (av (aF (dW (lu (pv 3)) (aB O_part_below (hr.mono (by decide)) rfl (aa (pv 0) (aa (pv 2) af))) (aB O_part_from (hr.mono (by decide)) rfl (aa (pv 0) (aa (pv 2) af))))))
   aX)
   (av (aF (dW (lu (pv 3)) (aB O_part_at (hr.mono (by decide)) rfl (aa (pv 0) (aa (pv 2) af))) (aB O_part_beside (hr.mono (by decide)) rfl (aa (pv 0) (aa (pv 2) af))))))),?_⟩
  refine⟨_,rfl,rfl,_,rfl,?_⟩
  by_cases hw:w = "less"
  ·subst hw
   rw [xH]
   refine cm ⟨_,rfl,_,rfl,?_⟩
   cases side with
   | true=>exact cm ⟨_,rfl,_,rfl,p,n,lo,hi,rfl,hp,fun v H1 r s1=>q v H1 (by simp only [cR,ic,if_true];exact r) s1⟩
   | false=>exact cB ⟨_,rfl,_,rfl,p,n,lo,hi,rfl,hp,fun v H1 r s1=>q v H1 (by simp only [cR,ic,if_true,Bool.false_eq_true,if_false];exact r) s1⟩
  ·have e:decide (V.str w=V.str "less")=false:=decide_eq_false fun z=>hw (V.str.inj z)
   rw [e]
   refine cB ⟨_,rfl,_,rfl,?_⟩
   cases side with
   | true=>exact cm ⟨_,rfl,_,rfl,p,n,lo,hi,rfl,hp,fun v H1 r s1=>q v H1 (by simp only [cR,lQ,if_neg hw,if_true];exact r) s1⟩
   | false=>exact cB ⟨_,rfl,_,rfl,p,n,lo,hi,rfl,hp,fun v H1 r s1=>q v H1 (by simp only [cR,lQ,if_neg hw,Bool.false_eq_true,if_false];exact r) s1⟩
theorem uC {f:Addr} {fd:FuncData} (F:bQ K "facts_of" "facts_of" gr f fd) (Z:Bl mg) {aA:Addr} (GA:iS K mg aA)  : bc P w K mg base bO 1 f fd ["stretches"] (jQ aA):=by
 refine F.ok (k:=0) uA (fun vs H Q E h=>?_) (fun cdv A outer s H vs Q E hr h=>?_)
 ·obtain⟨d,kvs,ks,T,rfl,_⟩:=h
  rfl
 ·obtain⟨d,kvs,ks,T,rfl,hd,tb,hl,q⟩:=h
  refine⟨_,(av (aF (bg bf rfl Z.tuple bZ (aa (eF ["name"] ["stretches"] [0] rfl (pO (bC (tE rfl) rfl Z.sorted jN (aa (pv 0) af))) rfl (by decide +kernel) (by decide +kernel) (by decide +kernel) ⟨⟨rfl,.inl rfl,rfl⟩,True.intro⟩ (fun _ _ _ _=>(aG (i:=0) (show ((["name"]:List Str)++(["stretches"]:List Str)).Nodup by decide +kernel) rfl (Or.inl rfl) (hf:=Or.inr rfl))) (fun _ _ _ _=>(pT (aH (CG (aA:=aA) hr.units GA) (u9 (dH hr) (pv 1) (pv 0) (fun _ _=>rfl)) (gU (v:=.ref aA) rfl GA.qW rfl) (aO _)))) (fun _ _ _ _=>(bB (aa (pv 0) (aa (u9 (dH hr) (pv 1) (pv 0) (fun _ _=>rfl)) af))))) af)))),?_⟩
  refine⟨_,rfl,d,kvs,ks,rfl,hd,tb.keys,hl,fun l ss hp hs hn=>?_⟩
  have srt:jP ss:=⟨rg hs,hp.nodup_iff.mpr tb.nd⟩
  have hl1:(upd H l (.lst (ss.map V.str))) l=some (.lst (ss.map V.str)):=ae
  have s1:au H (upd H l (.lst (ss.map V.str))):=au.new hn
  have hssl:ss.length < 64:=by rw [hp.length_eq];exact hl
  generalize (upd H l (.lst (ss.map V.str)))=H1 at hl1 s1
  refine⟨l,rfl,⟨_,aU.of hl1⟩,fun acc na=>?_⟩
  refine pU (K:=K) (a:=l) (xs:=ss.map V.str) (fun i ys τ H'=>∃ c:Option V,τ = [c,some (.ref d)]/\bh H' ys (((ss.take i).filter fun x=>!decide (T x=eJ)).map (dF T))/\H' acc=some (.lst ys)/\au H1 H') ?_ ?_ ?_ ?_
  ·exact⟨none,rfl,.nil,ae,au.new na⟩
  ·rintro i ys τ H2 hi ⟨c,rfl,r,ha,s2⟩
   refine⟨aU.of (s2 _ _ hl1),ha,?_⟩
   have h1:=r.len
   rw [List.length_map] at h1
   have h2:=List.length_filter_le (fun x=>!decide (T x=eJ)) (ss.take i)
   have h3:=List.length_take_le i ss
   have h4:(ss.take i).length<=ss.length:=by rw [List.length_take];omega
   exact bL (by omega)
  ·rintro i x ys τ H2 hi ⟨c,rfl,r,ha,s2⟩
   obtain⟨y,hy,rfl⟩:∃ y,ss[i]? = some y/\x=V.str y:=by
    rw [List.getElem?_map] at hi
    cases e:ss[i]? with
    | none=>rw [e] at hi;cases hi
    | some k=>rw [e] at hi;exact⟨k,rfl,(Option.some.inj hi).symm⟩
   have hym:y ∈ ks:=hp.mem_iff.mp (List.mem_of_getElem? hy)
   have tk:ss.take (i+1)=ss.take i ++ [y]:=by rw [List.take_add_one,hy];rfl
   obtain⟨v,ev,sv,_⟩:∃ v,cW kvs (Sum.inr y)=some v/\SV aA H v (T y)/\y ∈ ks:=by
    rcases tb.val y with ⟨_,_,c⟩ | h
    ·exact absurd hym c
    ·exact h
   have sv2:SV aA H2 v (T y):=sv.bb fun p xs e=>s2 _ _ (s1 _ _ e)
   have hd2:H2 d=some (.dK kvs):=s2 _ _ (s1 _ _ hd)
   have dg:eX H2 d (.str y) (some v):=by
    have:=eX.k (k:=Sum.inr y) hd2
    rw [ev] at this
    exact this
   refine dC ?_
   refine⟨_,rfl,_,rfl,d,v,rfl,dg,T y,sv2,rfl,_,rfl,?_⟩
   by_cases hT:T y=eJ
   ·refine aN (by rw [decide_eq_true hT];rfl) ?_
    refine⟨_,rfl,?_,ha,s2⟩
    rw [tk,List.filter_append,List.filter_cons_of_neg (by rw [decide_eq_true hT];decide),List.filter_nil,List.append_nil]
    exact r
   ·refine bW (by rw [decide_eq_false hT];rfl) ?_
    refine⟨_,rfl,_,rfl,_,rfl,d,v,rfl,dg,ln2,fun t nt=>?_⟩
    have s3:=au.new (o:=.tup [.str y,v]) nt
    have ht:(upd H2 t (.tup [.str y,v])) t=some (.tup [.str y,v]):=ae
    generalize (upd H2 t (.tup [.str y,v]))=H3 at s3 ht
    have sh:SH H3 v (T y):=by
     rcases sv2 with h | ⟨_,h⟩
     ·exact h.bb fun p xs e=>s3 _ _ e
     ·exact absurd h hT
    have ha3:=s3 _ _ ha
    refine⟨ha3,_,rfl,?_,ae,(s2.trans s3).put na⟩
    rw [tk,List.filter_append,List.filter_cons_of_pos (by rw [decide_eq_false hT];rfl),List.filter_nil,List.map_append]
    refine bh.app ((r.same s3 (mL T _)).put ha3 (mL T _)) ?_
    refine aS.bb (H:=H3) (fun p zs e=>by rw [ai (bA e ha3 (by intro z;cases z))];exact e) (.tup ht (.cons (.str y) (.cons sh.rd .nil))) ?_
    have:=mL T [y]
    simpa [bN] using this
  ·rintro ys τ H2 ⟨c,rfl,r,ha,s2⟩
   rw [List.length_map,List.take_length] at r
   refine⟨acc,ys,rfl,.inl ⟨aU.of ha,fun t nt=>?_⟩⟩
   refine q _ _ ⟨t,ys,_,rfl,ae,srt.filter _,fun x=>?_,r.same (au.new nt) (mL T _)⟩ ((s1.trans s2).trans (au.new nt))
   rw [List.mem_filter]
   constructor
   ·rintro⟨_,h⟩ e
    rw [decide_eq_true e] at h
    cases h
   ·intro h
    refine⟨?_,by rw [decide_eq_false h];rfl⟩
    rcases tb.val x with ⟨_,a,_⟩ | ⟨_,_,_,a⟩
    ·exact absurd a h
    ·exact hp.mem_iff.mpr a
theorem zX {f:Addr} {fd:FuncData} (F:bQ K "known" "known" ja f fd) (Z:Bl mg) {aA:Addr} (GA:iS K mg aA)  : bc P w K mg base bO 1 f fd ["facts", "name"] (qq aA):=by
 refine F.ok (k:=0) zV (fun vs H Q E h=>?_) (fun cdv A outer s H vs Q E hr h=>?_)
 ·obtain⟨fv,x,T,rfl,_⟩:=h
  rfl
 ·obtain⟨fv,x,T,rfl,hf,q⟩:=h
  refine⟨_,(av (aF (fo (dH hr) (bg (ie rfl) rfl Z.dict mD (aa (pv 0) af)) (pv 1) (gU (v:=.ref aA) rfl GA.qW rfl) ⟨rfl,rfl,rfl,rfl⟩))),?_⟩
  obtain⟨fp,xs,ss,rfl,hfp,srt,hmem,rf⟩:=hf
  obtain⟨kvs,l1,l2,l3,tb⟩:=FV.tb aA srt hmem rf
  refine⟨_,rfl,fp,xs,kvs,rfl,hfp,l1,l2,l3,fun d nd=>?_⟩
  obtain⟨v,ev,sv⟩:=tb.getD x
  exact⟨d,rfl,.inl ⟨kvs,.inl ae⟩,_,rfl,_,v,eX.k (k:=Sum.inr x) ae,ev,q v _ (sv.bb fun p zs e=>au.new nd _ _ e) (au.new nd)⟩
theorem rS {f:Addr} {fd:FuncData} (F:bQ K "with_known" "with_known" fi f fd) (Z:Bl mg) {aA:Addr} (GA:iS K mg aA) (O_facts_of:Own P w K mg base "facts_of" 1 ["stretches"] (jQ aA)):bc P w K mg base bO 2 f fd ["facts", "name", "stretch"] (jZ aA):=by
 refine F.ok (k:=1) lh (fun vs H Q E h=>?_) (fun cdv A outer s H vs Q E hr h=>?_)
 ·obtain⟨fv,sv,x,T,s,rfl,_⟩:=h
  rfl
 ·obtain⟨fv,sv,x,T,s,rfl,hf,hs,bG,q⟩:=h
  refine⟨_,(ah (aQ (i:=3) lh.nd rfl (Or.inl rfl) (bg (ie rfl) rfl Z.dict mD (aa (pv 0) af)))
   (ah (fE (dH hr) (pv 3) (pv 1) (pv 2) rfl)
   (av (aF (aB O_facts_of (hr.mono (by decide)) rfl (aa (pv 3) af)))))),?_⟩
  obtain⟨fp,xs,ss,rfl,hfp,srt,hmem,rf⟩:=hf
  obtain⟨kvs,l1,l2,l3,tb⟩:=FV.tb aA srt hmem rf
  have hssl:ss.length<=62:=bG ss (fun x hx=>(hmem x).mp hx) srt.nd
  have kl:kvs.length=ss.length:=by have:=congrArg List.length tb.keys;simpa using this
  refine⟨_,rfl,fp,xs,kvs,rfl,hfp,l1,l2,l3,fun d nd=>?_⟩
  have k1:∀ p zs,H p=some (.tup zs)->(upd H d (.dK kvs)) p=some (.tup zs):=fun p zs e=>au.new nd _ _ e
  refine⟨_,rfl,_,rfl,_,rfl,d,_,rfl,ib.k (k:=Sum.inr x) ae (bL (by omega)),?_⟩
  obtain⟨ks2,t2,k2,m2⟩:=(tb.bb k1).put x (hs.bb k1)
  have hd1:(upd H d (.dK kvs)) d=some (.dK kvs):=ae
  refine⟨_,rfl,d,_,ks2,_,rfl,ae,t2.bb (fun p zs e=>by rw [ai (bA e hd1 (by intro z;cases z))];exact e),(by omega),fun v H2 f2 s2=>q v H2 f2 (((au.new nd).put nd).trans s2)⟩
theorem zY {f:Addr} {fd:FuncData} (F:bQ K "moved" "moved" jb f fd) (Z:Bl mg)  : bc P w K mg base bO 1 f fd ["stretch", "number"] (qm K):=by
 refine F.ok (k:=0) nW (fun vs H Q E h=>?_) (fun cdv A outer s H vs Q E hr h=>?_)
 ·obtain⟨p,s,n,rfl,_⟩:=h
  rfl
 ·obtain⟨p,s,n,rfl,hp,q⟩:=h
  refine⟨_,(ah (dh (pv 0) (dz rfl (aR (aG (i:=2) nW.nd rfl (Or.inl rfl)) (aR (aG (i:=3) nW.nd rfl (Or.inl rfl)) cO))))
   (av (aF (bB (aa (dW (gJ (hX (pv 2))) jh (br cV (pv 2) (pv 1))) (aa (dW (gJ (hX (pv 3))) jh (br cV (pv 3) (pv 1))) af)))))),?_⟩
  obtain⟨lo,hi⟩:=s
  refine⟨_,rfl,p,_,rfl,hp,rfl,_,_,rfl,_,_,rfl,rfl,?_⟩
  cases lo with
  | none =>
   refine⟨_,rfl,_,rfl,cm ?_⟩
   cases hi with
   | none=>exact⟨_,rfl,_,rfl,cm ⟨ln2,fun t nt=>q _ _ ⟨t,rfl,ae⟩ (au.new nt)⟩⟩
   | some b=>exact⟨_,rfl,_,rfl,cB ⟨_,rfl,_,rfl,_,_,rfl,rfl,ln2,fun t nt=>q _ _ ⟨t,rfl,ae⟩ (au.new nt)⟩⟩
  | some a =>
   refine⟨_,rfl,_,rfl,cB ⟨_,rfl,_,rfl,_,_,rfl,rfl,?_⟩⟩
   cases hi with
   | none=>exact⟨_,rfl,_,rfl,cm ⟨ln2,fun t nt=>q _ _ ⟨t,rfl,ae⟩ (au.new nt)⟩⟩
   | some b=>exact⟨_,rfl,_,rfl,cB ⟨_,rfl,_,rfl,_,_,rfl,rfl,ln2,fun t nt=>q _ _ ⟨t,rfl,ae⟩ (au.new nt)⟩⟩
theorem mT {f:Addr} {fd:FuncData} (F:bQ K "stretch_behind" "stretch_behind" dq f fd) (Z:Bl mg) {aA:Addr} (GA:iS K mg aA) (O_moved:Own P w K mg base "moved" 1 ["stretch", "number"] (qm K)):bc P w K mg base bO 2 f fd ["stretches", "deed"] (kG aA):=by
  refine F.ok (k:=1) iV (fun vs H Q E h=>?_) (fun cdv A outer s H vs Q E hr h=>?_)
  · obtain⟨d,w,kvs,ks,T,dd,rfl,_⟩:=h
    rfl
  · obtain⟨d,w,kvs,ks,T,dd,rfl,hd,tb,hw,q⟩:=h
    refine⟨_,(ah (cL (xf (i:=2) (j:=3) rfl iV.nd rfl rfl (by decide) rfl rfl (aa (aC aM (pv 1) ao (fun _ _=>rfl)) (aa (aC aM (pv 1) ao (fun _ _=>rfl)) af)) rfl))
      (ah (bp (aH bR (pv 2) aW (aO _))
      (av (aF (bB (aa (aC aM (pv 1) ao (fun _ _=>rfl)) (aa (aC aM (pv 1) ao (fun _ _=>rfl)) af)))))
      aX)
      (ah (bp (aH bR (pv 2) aW (aO _))
      (av (aF (fo (dH hr) (pv 0) (aC aM (pv 1) ao (fun _ _=>rfl)) (gU (v:=.ref aA) rfl GA.qW rfl) ⟨rfl,rfl,rfl,rfl⟩)))
      aX)
      (ah (bp (aH bR (pv 2) aW (aO _))
      (av (aF (aB O_moved (hr.mono (by decide)) rfl (aa (fo (dH hr) (pv 0) (pv 3) (gU (v:=.ref aA) rfl GA.qW rfl) ⟨rfl,rfl,rfl,rfl⟩) (aa (aC aM (pv 1) ao (fun _ _=>rfl)) af)))))
      aX)
      (ah (bp (aH bR (pv 2) aW (aO _))
      (av (aF (gU (v:=.ref aA) rfl GA.qW rfl)))
      aX)
      (av (aF (fo (dH hr) (pv 0) (pv 3) (gU (v:=.ref aA) rfl GA.qW rfl) ⟨rfl,rfl,rfl,rfl⟩)))))))),?_⟩
    cases dd
    case put x n =>
      refine⟨fun σ' H'=>σ' = [some (.ref d),some (.ref w),some (.str "put"),some (.str x)]/\H=H',⟨_,rfl,w,_,0,_,rfl,rfl,ay.of hw,bH,_,rfl,w,_,1,_,rfl,rfl,ay.of hw,dB,_,_,rfl,rfl,rfl⟩,?_⟩
      rintro σ' H' ⟨rfl,rfl⟩
      refine⟨_,rfl,rfl,_,rfl,?_⟩
      refine bW (show decide (V.str "put" = V.str "put")=true by decide +kernel) ?_
      exact⟨_,rfl,w,_,2,_,rfl,rfl,ay.of hw,at2,_,rfl,w,_,2,_,rfl,rfl,ay.of hw,at2,ln2,fun t nt=>q _ _ (.inl ⟨t,rfl,ae⟩) (au.new nt)⟩
    case copy x y =>
      refine⟨fun σ' H'=>σ' = [some (.ref d),some (.ref w),some (.str "copy"),some (.str x)]/\H=H',⟨_,rfl,w,_,0,_,rfl,rfl,ay.of hw,bH,_,rfl,w,_,1,_,rfl,rfl,ay.of hw,dB,_,_,rfl,rfl,rfl⟩,?_⟩
      rintro σ' H' ⟨rfl,rfl⟩
      refine⟨_,rfl,rfl,_,rfl,?_⟩
      refine aN (show decide (V.str "copy" = V.str "put")=false by decide +kernel) ?_
      refine⟨_,rfl,rfl,_,rfl,?_⟩
      refine bW (show decide (V.str "copy" = V.str "copy")=true by decide +kernel) ?_
      obtain⟨v,ev,sv⟩:=tb.getD y
      exact⟨_,rfl,d,rfl,.inl ⟨kvs,.inl hd⟩,_,rfl,w,_,2,_,rfl,rfl,ay.of hw,at2,_,v,eX.k (k:=Sum.inr y) hd,ev,q _ _ sv (au.refl H)⟩
    case add x n =>
      refine⟨fun σ' H'=>σ' = [some (.ref d),some (.ref w),some (.str "add"),some (.str x)]/\H=H',⟨_,rfl,w,_,0,_,rfl,rfl,ay.of hw,bH,_,rfl,w,_,1,_,rfl,rfl,ay.of hw,dB,_,_,rfl,rfl,rfl⟩,?_⟩
      rintro σ' H' ⟨rfl,rfl⟩
      refine⟨_,rfl,rfl,_,rfl,?_⟩
      refine aN (show decide (V.str "add" = V.str "put")=false by decide +kernel) ?_
      refine⟨_,rfl,rfl,_,rfl,?_⟩
      refine aN (show decide (V.str "add" = V.str "copy")=false by decide +kernel) ?_
      refine⟨_,rfl,rfl,_,rfl,?_⟩
      refine bW (show decide (V.str "add" = V.str "add")=true by decide +kernel) ?_
      obtain⟨v,ev,sv⟩:=tb.getD x
      obtain⟨qa,rfl,hqa⟩:=sv.sq GA
      exact⟨_,rfl,d,rfl,.inl ⟨kvs,.inl hd⟩,_,rfl,_,_,eX.k (k:=Sum.inr x) hd,ev,_,rfl,w,_,2,_,rfl,rfl,ay.of hw,at2,qa,T x,n,rfl,hqa,fun v H' sh s1=>q _ _ (.inl sh) s1⟩
    case read x =>
      refine⟨fun σ' H'=>σ' = [some (.ref d),some (.ref w),some (.str "read"),some (.str x)]/\H=H',⟨_,rfl,w,_,0,_,rfl,rfl,ay.of hw,bH,_,rfl,w,_,1,_,rfl,rfl,ay.of hw,dB,_,_,rfl,rfl,rfl⟩,?_⟩
      rintro σ' H' ⟨rfl,rfl⟩
      refine⟨_,rfl,rfl,_,rfl,?_⟩
      refine aN (show decide (V.str "read" = V.str "put")=false by decide +kernel) ?_
      refine⟨_,rfl,rfl,_,rfl,?_⟩
      refine aN (show decide (V.str "read" = V.str "copy")=false by decide +kernel) ?_
      refine⟨_,rfl,rfl,_,rfl,?_⟩
      refine aN (show decide (V.str "read" = V.str "add")=false by decide +kernel) ?_
      refine⟨_,rfl,rfl,_,rfl,?_⟩
      refine bW (show decide (V.str "read" = V.str "read")=true by decide +kernel) ?_
      exact q _ _ (.inr ⟨rfl,rfl⟩) (au.refl H)
    case tell x =>
      refine⟨fun σ' H'=>σ' = [some (.ref d),some (.ref w),some (.str "tell"),some (.str x)]/\H=H',⟨_,rfl,w,_,0,_,rfl,rfl,ay.of hw,bH,_,rfl,w,_,1,_,rfl,rfl,ay.of hw,dB,_,_,rfl,rfl,rfl⟩,?_⟩
      rintro σ' H' ⟨rfl,rfl⟩
      refine⟨_,rfl,rfl,_,rfl,?_⟩
      refine aN (show decide (V.str "tell" = V.str "put")=false by decide +kernel) ?_
      refine⟨_,rfl,rfl,_,rfl,?_⟩
      refine aN (show decide (V.str "tell" = V.str "copy")=false by decide +kernel) ?_
      refine⟨_,rfl,rfl,_,rfl,?_⟩
      refine aN (show decide (V.str "tell" = V.str "add")=false by decide +kernel) ?_
      refine⟨_,rfl,rfl,_,rfl,?_⟩
      refine aN (show decide (V.str "tell" = V.str "read")=false by decide +kernel) ?_
      obtain⟨v,ev,sv⟩:=tb.getD x
      exact⟨_,rfl,d,rfl,.inl ⟨kvs,.inl hd⟩,_,rfl,_,v,eX.k (k:=Sum.inr x) hd,ev,q _ _ sv (au.refl H)⟩
theorem yD {f:Addr} {fd:FuncData} (F:bQ K "behind" "behind" iC f fd) (Z:Bl mg) {aA:Addr} (GA:iS K mg aA) (O_stretch_behind:Own P w K mg base "stretch_behind" 2 ["stretches", "deed"] (kG aA)) (O_facts_of:Own P w K mg base "facts_of" 1 ["stretches"] (jQ aA)):bc P w K mg base bO 3 f fd ["facts", "deeds"] nP:=by
 refine F.ok (k:=2) my (fun vs H Q E h=>?_) (fun cdv A outer s H vs Q E hr h=>?_)
 ·obtain⟨fv,p,ws,ds,T,m,rfl,_⟩:=h
  rfl
 ·obtain⟨fv,p,ws,ds,T,m,rfl,hf,hp,r,bG,hm,q⟩:=h
  refine⟨_,(ah (aQ (i:=2) my.nd rfl (Or.inl rfl) (bg (ie rfl) rfl Z.dict mD (aa (pv 0) af)))
   (ah (gK PassesOwn.never rfl (fB (pv 1)) (aG (i:=3) my.nd rfl (Or.inl rfl))
   (av (fE (dH hr) (pv 2) (aC aM (pv 3) ao (fun _ _=>rfl)) (aB O_stretch_behind (hr.mono (by decide)) rfl (aa (pv 2) (aa (pv 3) af))) rfl)))
   (av (aF (aB O_facts_of (hr.mono (by decide)) rfl (aa (pv 2) af)))))),?_⟩
  obtain⟨fp,xs,ss,rfl,hfp,srt,hmem,rf⟩:=hf
  obtain⟨kvs,l1,l2,l3,tb⟩:=FV.tb aA srt hmem rf
  have hssl:ss.length<=m:=bG ss (fun x hx=>(hmem x).mp hx) srt.nd
  refine⟨_,rfl,fp,xs,kvs,rfl,hfp,l1,l2,l3,fun d nd=>?_⟩
  have tb1:Tb aA (upd H d (.dK kvs)) kvs ss T:=tb.bb fun p xs e=>au.new nd _ _ e
  refine⟨_,rfl,p,rfl,⟨_,ay.of (au.new nd _ _ hp)⟩,i7 (K:=K) (a:=p) (xs:=ws) (fun i σ H'=>∃ (c:Option V) (kvs':List (Key × V)) (ks':List Str),σ = [some (.ref fp),some (.ref p),some (.ref d),c]/\H' d=some (.dK kvs')/\Tb aA H' kvs' ks' (cA T (ds.take i))/\ks'.length<=m+i/\au H H') ?_ ?_ ?_ ?_⟩
  ·exact⟨none,kvs,ss,rfl,ae,tb1,hssl,au.new nd⟩
  ·rintro i σ H1 hi ⟨c,kvs1,ks1,rfl,h1,t1,k1,s1⟩
   exact ay.of (s1 _ _ hp)
  ·rintro i x σ H1 hi ⟨c,kvs1,ks1,rfl,h1,t1,k1,s1⟩
   have hil:i < ds.length:=by
    have:=(List.getElem?_eq_some_iff.mp hi).1
    rw [r.len,List.length_map] at this
    exact this
   have hdi:ds[i]? = some ds[i]:=by simp [hil]
   generalize ds[i] = dd at hdi
   obtain⟨v,hv,rd⟩:=r.get (i:=i) (d:=cq dd) (by rw [List.getElem?_map,hdi];rfl)
   rw [hi] at hv
   cases hv
   obtain⟨dp,rfl,hdp⟩:=j8 rd
   have tk:cA T (ds.take (i+1))=ql (cA T (ds.take i)) dd:=by
    unfold cA
    rw [List.take_add_one,hdi,Option.toList_some,List.foldl_append]
    rfl
   refine dC ?_
   refine⟨_,rfl,_,rfl,d,dp,kvs1,ks1,_,dd,rfl,h1,t1,s1 _ _ hdp,fun v H2 sv s2=>?_⟩
   have h2:=s2 _ _ h1
   have kl:kvs1.length=ks1.length:=by have:=congrArg List.length t1.keys;simpa using this
   refine⟨_,rfl,_,rfl,dp,_,1,_,rfl,rfl,ay.of (s2 _ _ (s1 _ _ hdp)),zl dd,d,_,rfl,ib.k (k:=Sum.inr (oS dd)) h2 (bL (by omega)),?_⟩
   obtain⟨ks2,t2,k2,_⟩:=(t1.bb fun p xs e=>s2 _ _ e).put (oS dd) sv
   refine⟨_,_,ks2,rfl,ae,?_,by omega,(s1.trans s2).put nd⟩
   rw [tk]
   exact t2.bb fun p xs e=>by rw [ai (bA e h2 (by intro z;cases z))];exact e
  ·rintro σ H1 ⟨c,kvs1,ks1,rfl,h1,t1,k1,s1⟩
   have hwl:ws.length=ds.length:=by rw [r.len,List.length_map]
   rw [hwl,List.take_length] at t1
   refine⟨_,rfl,d,kvs1,ks1,_,rfl,h1,t1,(by omega),fun v H2 f2 s2=>q v H2 f2 (s1.trans s2)⟩
theorem pF {f:Addr} {fd:FuncData} (F:bQ K "known_beyond" "known_beyond" eh f fd) (Z:Bl mg) {aA:Addr} (GA:iS K mg aA) (O_ways_on:Own P w K mg base "ways_on" 3 ["end"] jA) (O_known:Own P w K mg base "known" 1 ["facts", "name"] (qq aA)) (O_part_of:Own P w K mg base "part_of" 3 ["stretch", "word", "number", "side"] (mN K)) (O_with_known:Own P w K mg base "with_known" 2 ["facts", "name", "stretch"] (jZ aA)):bc P w K mg base bO 4 f fd ["facts", "end"] (nR aA):=by
  refine F.ok (k:=3) cY (fun vs H Q E h=>?_) (fun cdv A outer s H vs Q E hr h=>?_)
  · obtain⟨fv,ea,T,e,rfl,_⟩:=h
    rfl
  · obtain⟨fv,ea,T,e,rfl,hf,he,bG,q⟩:=h
    refine⟨_,(ah (aQ (i:=2) cY.nd rfl (Or.inl rfl) (aB O_ways_on (hr.mono (by decide)) rfl (aa (pv 1) af)))
      (ah (bp (aH gQ (bC bx rfl Z.len cK (aa (pv 2) af)) ao (aO _))
      (av (aF (bg bf rfl Z.tuple bZ (aa (eF ["way"] ["facts"] [0] rfl (fB (pv 2)) rfl (by decide +kernel) (by decide +kernel) (by decide +kernel) ⟨⟨rfl,.inl rfl,rfl⟩,True.intro⟩ (fun _ _ _ _=>(aG (i:=0) (show ((["way"]:List Str)++(["facts"]:List Str)).Nodup by decide +kernel) rfl (Or.inl rfl) (hf:=Or.inr rfl))) (fun _ _ _ _=>fb) (fun _ _ _ _=>(pv 1))) af))))
      aX)
      (ah (cL (dh (bB (aa (aC aM (pv 1) ao (fun _ _=>rfl)) (aa (aC aM (pv 1) ao (fun _ _=>rfl)) (aa (aC aM (pv 1) ao (fun _ _=>rfl)) af)))) (dz rfl (aR (aG (i:=3) cY.nd rfl (Or.inr rfl)) (aR (aG (i:=4) cY.nd rfl (Or.inr rfl)) (aR (aG (i:=5) cY.nd rfl (Or.inr rfl)) cO))))))
      (ah (aQ (i:=6) cY.nd rfl (Or.inr rfl) (aB O_known (hr.mono (by decide)) rfl (aa (pv 0) (aa (pv 4) af))))
      (ah (nB (i:=7) ["side"] ["stretch", "word", "number"] [6,3,5] rfl cY.nd rfl rfl rfl (fB (bB (aa hV (aa hV af)))) rfl (by decide +kernel) (by decide +kernel) (by decide +kernel) ⟨⟨rfl,.inl rfl,rfl⟩,⟨⟨rfl,.inl rfl,rfl⟩,⟨⟨rfl,.inl rfl,rfl⟩,True.intro⟩⟩⟩ (fun _ _ _ _=>(aG (i:=0) (show ((["side"]:List Str)++(["stretch", "word", "number"]:List Str)).Nodup by decide +kernel) rfl (Or.inl rfl) (hf:=Or.inr rfl))) (fun _ _ _ _=>fb) (fun _ _ _ _=>(aB O_part_of (hr.mono (by decide)) rfl (aa (pv 1) (aa (pv 2) (aa (pv 3) (aa (pv 0) af)))))))
      (av (aF (bg bf rfl Z.tuple bZ (aa (eF ["part"] ["facts", "name"] [0,4] rfl (pO (pv 7)) rfl (by decide +kernel) (by decide +kernel) (by decide +kernel) ⟨⟨rfl,.inl rfl,rfl⟩,⟨⟨rfl,.inl rfl,rfl⟩,True.intro⟩⟩ (fun _ _ _ _=>(aG (i:=0) (show ((["part"]:List Str)++(["facts", "name"]:List Str)).Nodup by decide +kernel) rfl (Or.inl rfl) (hf:=Or.inr rfl))) (fun _ _ _ _=>fb) (fun _ _ _ _=>(dW (gJ (hX (pv 0))) jh (aB O_with_known (hr.mono (by decide)) rfl (aa (pv 1) (aa (pv 2) (aa (pv 0) af))))))) af))))))))),?_⟩
    refine⟨_,rfl,ea,e,rfl,he,fun wt H1 hw s1=>?_⟩
    have he1:=s1 _ _ he
    have hf1:=hf.same s1
    refine⟨_,rfl,wt,_,rfl,.inr (ay.of hw),_,_,rfl,rfl,_,rfl,?_⟩
    by_cases hl:(bu e).length < 2
    · refine bW (decide_eq_true (by rw [List.length_map];omega)) ?_
      refine⟨_,rfl,wt,rfl,⟨_,ay.of hw⟩,fun acc na=>?_⟩
      refine j7 (K:=K) (a:=wt) (xs:=(bu e).map fun k=>V.int (k:Nat)) (fun i zs τ H'=>∃ c:Option V,τ = [c,some fv]/\zs=List.replicate i fv/\H' acc=some (.lst zs)/\au H1 H') ?_ ?_ ?_ ?_
      · exact⟨none,rfl,rfl,ae,au.new na⟩
      · rintro i zs τ H2 hi ⟨c,rfl,rfl,ha,s2⟩
        refine⟨ay.of (s2 _ _ hw),ha,?_⟩
        rw [List.length_replicate]
        rw [List.length_map] at hi
        exact bL (by omega)
      · rintro i x zs τ H2 hi ⟨c,rfl,rfl,ha,s2⟩
        refine dC ?_
        refine jv ?_
        refine cm ?_
        refine⟨_,rfl,ha,_,rfl,?_,ae,s2.put na⟩
        rw [<-List.replicate_succ']
      · rintro zs τ H2 ⟨c,rfl,rfl,ha,s2⟩
        rw [List.length_map] at ha
        refine⟨acc,_,rfl,.inl ⟨aU.of ha,fun t nt=>?_⟩⟩
        refine q t _ _ ae ?_ ((s1.trans s2).trans (au.new nt))
        rw [Bm hl]
        exact vt (hf1.same (s2.trans (au.new nt))) _
    · refine aN (decide_eq_false (by rw [List.length_map];omega)) ?_
      cases e with
      | stop=>exact absurd (by show 0 < 2;omega) hl
      | go p=>exact absurd (by show 1 < 2;omega) hl
      | cC b x n p r =>
        refine⟨fun σ' H'=>σ' = [some fv,some (.ref ea),some (.ref wt),some (.str (wT b)),some (.str x),some (.int n),none,none]/\au H1 H',?_,?_⟩
        · refine⟨_,rfl,ea,_,0,_,rfl,rfl,ay.of he1,bH,_,rfl,ea,_,1,_,rfl,rfl,ay.of he1,dB,_,rfl,ea,_,2,_,rfl,rfl,ay.of he1,at2,qP,fun tt htt=>?_⟩
          exact⟨tt,_,rfl,ay.of ae,rfl,_,_,rfl,_,_,rfl,_,_,rfl,rfl,rfl,au.new htt⟩
        rintro σ' H2 ⟨rfl,s2⟩
        refine⟨_,rfl,_,rfl,fv,x,T,rfl,hf1.same s2,fun sv H3 hsv s3=>?_⟩
        obtain⟨sp,rfl,hsp⟩:=hsv.sq GA
        have s13:=s2.trans s3
        refine⟨ln2,fun st hst=>⟨st,rfl,⟨_,ay.of ae⟩,fun acc na=>?_⟩⟩
        have s4:=au.new (o:=.tup [.bl true,.bl false]) hst
        have hst4:(upd H3 st (.tup [.bl true,.bl false])) st=some (.tup [.bl true,.bl false]):=ae
        generalize (upd H3 st (.tup [.bl true,.bl false]))=H4 at s4 hst4 na
        refine j7 (K:=K) (a:=st) (xs:=[.bl true,.bl false]) (fun i zs τ H'=>∃ c:Option V,τ = [c,some (.ref sp),some (.str (wT b)),some (.int n)]/\ng H' zs ([eM T b x n true,eM T b x n false].take i)/\H' acc=some (.lst zs)/\au H4 H') ?_ ?_ ?_ ?_
        · exact⟨none,rfl,.nil,ae,au.new na⟩
        · rintro i zs τ H5 hi ⟨c,rfl,rv,ha,s5⟩
          refine⟨ay.of (s5 _ _ hst4),ha,?_⟩
          have h1:=Paired.length rv
          rw [List.length_take] at h1
          exact bL (by rw [h1];exact Nat.le_trans (Nat.min_le_right _ _) (by show 2<=1000;decide))
        · rintro i y zs τ H5 hi ⟨c,rfl,rv,ha,s5⟩
          obtain⟨side,rfl,hsd⟩:∃ side:Bool,y=.bl side/\[eM T b x n true,eM T b x n false][i]? = some (eM T b x n side):=by
            match i,hi with
            | 0,hi=>cases hi;exact⟨true,rfl,rfl⟩
            | 1,hi=>cases hi;exact⟨false,rfl,rfl⟩
            | i+2,hi=>simp at hi
          refine dC ?_
          refine jv ?_
          refine cm ?_
          refine⟨_,rfl,_,rfl,_,rfl,_,rfl,sp,wT b,n,side,_,_,rfl,hsp.same (s4.trans s5),fun v H6 r6 s6=>?_⟩
          have ha6:=s6 _ _ ha
          refine⟨ha6,_,rfl,?_,ae,(s5.trans s6).put na⟩
          rw [List.take_add_one,hsd]
          exact gh ((rv.same s6).put ha6) (.cons (RV.put r6 ha6) .nil)
        · rintro zs τ H5 ⟨c,rfl,rv,ha,s5⟩
          have s15:=s13.trans (s4.trans s5)
          have rv:ng H5 zs [eM T b x n true,eM T b x n false]:=rv
          have rvl:zs.length=2:=Paired.length rv
          refine⟨_,rfl,acc,rfl,⟨_,aU.of ha⟩,fun ac2 na2=>?_⟩
          refine pU (K:=K) (a:=acc) (xs:=zs) (fun i us τ H'=>∃ c:Option V,τ = [c,some fv,some (.str x)]/\lg H' us ((iU T (.cC b x n p r)).take i)/\H' ac2=some (.lst us)/\au H5 H') ?_ ?_ ?_ ?_
          · exact⟨none,rfl,.nil,ae,au.new na2⟩
          · rintro i us τ H6 hi ⟨c,rfl,bv,ha2,s6⟩
            refine⟨aU.of (s6 _ _ ha),ha2,?_⟩
            have h1:=Paired.length bv
            rw [List.length_take] at h1
            exact bL (by rw [h1];exact Nat.le_trans (Nat.min_le_right _ _) (by show 2<=1000;decide))
          · rintro i y us τ H6 hi ⟨c,rfl,bv,ha2,s6⟩
            obtain⟨rs,hrs,hry⟩:=iP rv hi
            have hb:(iU T (.cC b x n p r))[i]? = some (rs.map (d6 T x)):=by
              show ([eM T b x n true,eM T b x n false].map fun z:Rs=>Option.map (d6 T x) z)[i]? = _
              rw [List.getElem?_map,hrs];rfl
            refine dC ?_
            refine jv ?_
            refine cm ?_
            cases rs with
            | none =>
              cases (show y=V.bI from hry)
              refine⟨_,rfl,_,rfl,cm ?_⟩
              refine⟨ha2,_,rfl,?_,ae,s6.put na2⟩
              rw [List.take_add_one,hb]
              refine gh (bv.bb fun p zs e=>?_) (.cons rfl .nil)
              rw [ai (bA e ha2 (by intro z;cases z))];exact e
            | some s =>
              have hsv6:SV aA H6 y s:=RV.sv (hry.same s6)
              obtain⟨yp,rfl,hyp⟩:∃ yp,y=.ref yp/\True:=by
                obtain⟨a1,b1⟩:=s
                obtain⟨yp,e,_⟩:=hry
                exact⟨yp,e,trivial⟩
              refine⟨_,rfl,_,rfl,cB ?_⟩
              refine⟨_,rfl,_,rfl,_,rfl,fv,.ref yp,x,T,s,rfl,hf1.same (s13.trans (s4.trans (s5.trans s6))),hsv6,bG,fun v H7 f7 s7=>?_⟩
              have ha7:=s7 _ _ ha2
              refine⟨ha7,_,rfl,?_,ae,(s6.trans s7).put na2⟩
              rw [List.take_add_one,hb]
              have kt:∀ p zs,H7 p=some (.tup zs)->(upd H7 ac2 (.lst (us ++ [v]))) p=some (.tup zs):=fun p zs e=>by rw [ai (bA e ha7 (by intro z;cases z))];exact e
              exact gh ((bv.same s7).bb kt) (.cons (FV.bb f7 kt) .nil)
          · rintro us τ H6 ⟨c,rfl,bv,ha2,s6⟩
            rw [rvl] at bv
            refine⟨ac2,_,rfl,.inl ⟨aU.of ha2,fun t nt=>?_⟩⟩
            exact q t _ _ ae (lg.same (show lg H6 us (iU T (.cC b x n p r)) from bv) (au.new nt)) ((s1.trans (s15.trans s6)).trans (au.new nt))
theorem zZ {f:Addr} {fd:FuncData} (F:bQ K "leads" "leads" jc f fd) (Z:Bl mg) (O_known_beyond:Own P w K mg base "known_beyond" 4 ["facts", "end"] (nR aA)) (O_ways_on:Own P w K mg base "ways_on" 3 ["end"] jA):bc P w K mg base bO 5 f fd ["facts", "end"] (qt aA):=by
  refine F.ok (k:=4) uc (fun vs H Q E h=>?_) (fun cdv A outer s H vs Q E hr h=>?_)
  · obtain⟨fv,ea,T,e,rfl,_⟩:=h
    rfl
  · obtain⟨fv,ea,T,e,rfl,hf,he,bG,q⟩:=h
    refine⟨_,(ah (aQ (i:=2) uc.nd rfl (Or.inl rfl) (aB O_known_beyond (hr.mono (by decide)) rfl (aa (pv 0) (aa (pv 1) af))))
      (av (aF (bg bf rfl Z.tuple bZ (aa (eF ["way", "there"] [] [] rfl (xU rfl Z.zip (aa (aB O_ways_on (hr.mono (by decide)) rfl (aa (pv 1) af)) (aa (pv 2) af))) rfl (by decide +kernel) (by decide +kernel) (by decide +kernel) True.intro (fun _ _ _ _=>(uY (K:=K) (n:=2) rfl (dz (n:=2) rfl (aR (aG (i:=0) (show ((["way", "there"]:List Str)++([]:List Str)).Nodup by decide +kernel) rfl (Or.inl rfl) (hf:=Or.inr rfl)) (aR (aG (i:=1) (show ((["way", "there"]:List Str)++([]:List Str)).Nodup by decide +kernel) rfl (Or.inl rfl) (hf:=Or.inr rfl)) cO))))) (fun _ _ _ _=>(pT (gJ (pM (pv 1))))) (fun _ _ _ _=>(bB (aa (pv 0) (aa (pv 1) af))))) af))))),?_⟩
    refine⟨_,rfl,_,rfl,fv,ea,T,e,rfl,hf,he,bG,fun bt us H1 hb bv s1=>?_⟩
    refine⟨_,rfl,ea,e,rfl,s1 _ _ he,fun wt H2 hw s2=>?_⟩
    have hb2:=s2 _ _ hb
    have bv2:=bv.same s2
    refine⟨_,rfl,wt,bt,rfl,⟨_,ay.of hw⟩,⟨_,ay.of hb2⟩,fun acc na=>?_⟩
    refine xV (K:=K) (a:=wt) (b:=bt) (xs:=(bu e).map fun k=>V.int (k:Nat)) (ys:=us) (fun i zs τ H'=>∃ (c1 c2:Option V),τ = [c1,c2]/\mh H' zs ((((bu e).zip (iU T e)).take i).filterMap fun p=>p.2.map fun U=>(p.1,U))/\zs.length<=i/\H' acc=some (.lst zs)/\au H2 H') ?_ ?_ ?_ ?_
    · exact⟨none,none,rfl,.nil,Nat.le_refl _,ae,au.new na⟩
    · rintro i zs τ H3 hi ⟨c1,c2,rfl,pv,hz,ha,s3⟩
      refine⟨ay.of (s3 _ _ hw),ay.of (s3 _ _ hb2),ha,?_⟩
      have h1:i<=(bu e).length:=by rw [List.length_map] at hi;omega
      have h2:(bu e).length<=2:=by cases e <;> (show _<=2) <;> simp [bu]
      exact bL (by omega)
    · rintro i x y zs τ H3 u hx hy hu ⟨c1,c2,rfl,pv,hz,ha,s3⟩
      obtain⟨k,hk,rfl⟩:∃ k,(bu e)[i]? = some k/\x=V.int (k:Nat):=by
        rw [List.getElem?_map] at hx
        cases z:(bu e)[i]? with
        | none=>rw [z] at hx;cases hx
        | some k=>rw [z] at hx;exact⟨k,rfl,(Option.some.inj hx).symm⟩
      obtain⟨o,ho,hyo⟩:=iP bv2 hy
      have hnext:=yu (T:=T) hk ho
      have su:=au.new (o:=.tup [.int (k:Nat),y]) hu
      have hu4:(upd H3 u (.tup [.int (k:Nat),y])) u=some (.tup [.int (k:Nat),y]):=ae
      generalize (upd H3 u (.tup [.int (k:Nat),y]))=H4 at su hu4
      refine⟨u,_,rfl,ay.of hu4,rfl,_,_,rfl,_,_,rfl,rfl,?_⟩
      refine⟨_,rfl,_,rfl,?_⟩
      cases o with
      | none =>
        cases (show y=V.bI from hyo)
        refine cB ?_
        refine⟨_,_,rfl,?_,Nat.le_succ_of_le hz,su _ _ ha,s3.trans su⟩
        rw [hnext]
        simpa using pv.same su
      | some U =>
        obtain⟨yp,zsy,ssy,rfl,_⟩:=id hyo
        refine cm ?_
        refine⟨_,rfl,_,rfl,ln2,fun t nt=>?_⟩
        have s5:=au.new (o:=.tup [.int (k:Nat),.ref yp]) nt
        have ht:(upd H4 t (.tup [.int (k:Nat),.ref yp])) t=some (.tup [.int (k:Nat),.ref yp]):=ae
        generalize (upd H4 t (.tup [.int (k:Nat),.ref yp]))=H5 at s5 ht
        have ha5:=s5 _ _ (su _ _ ha)
        have kt:∀ p ws,H5 p=some (.tup ws)->(upd H5 acc (.lst (zs ++ [V.ref t]))) p=some (.tup ws):=fun p ws e=>by rw [ai (bA e ha5 (by intro z;cases z))];exact e
        refine⟨ha5,_,_,rfl,?_,(by rw [List.length_append];show _+1<=_;omega),ae,(s3.trans (su.trans s5)).put na⟩
        rw [hnext]
        exact gh ((pv.same (su.trans s5)).bb kt) (.cons ⟨t,.ref yp,rfl,kt _ _ ht,FV.bb (FV.same hyo (s3.trans (su.trans s5))) kt⟩ .nil)
    · rintro zs τ H3 ⟨c1,c2,rfl,pv,hz,ha,s3⟩
      have hm:min ((bu e).map fun k=>V.int (k:Nat)).length us.length=((bu e).zip (iU T e)).length:=by
        rw [List.length_zip,List.length_map,Paired.length bv2]
      rw [hm,List.take_length] at pv
      refine⟨acc,_,rfl,.inl ⟨aU.of ha,fun t nt=>?_⟩⟩
      exact q t zs _ ae (mh.same (show mh H3 zs (cS T e) from pv) (au.new nt)) (((s1.trans s2).trans s3).trans (au.new nt))
theorem z5 {f:Addr} {fd:FuncData} (F:bQ K "start" "start" jd f fd) (Z:Bl mg) (O_names_of:Own P w K mg base "names_of" 3 ["plan"] lZ):bc P w K mg base bO 4 f fd ["plan"] qu:=by
 refine F.ok (k:=3) zW (fun vs H Q E h=>?_) (fun cdv A outer s H vs Q E hr h=>?_)
 ·obtain⟨plv,ps,xs,m,rfl,_⟩:=h
  rfl
 ·obtain⟨plv,ps,xs,m,rfl,hp,pok,hx,hal,q⟩:=h
  refine⟨_,(av (aF (bg bf rfl Z.tuple bZ (aa (eF ["name"] [] [] rfl (fB (aB O_names_of (hr.mono (by decide)) rfl (aa (pv 0) af))) rfl (by decide +kernel) (by decide +kernel) (by decide +kernel) True.intro (fun _ _ _ _=>(aG (i:=0) (show ((["name"]:List Str)++([]:List Str)).Nodup by decide +kernel) rfl (Or.inl rfl) (hf:=Or.inr rfl))) (fun _ _ _ _=>fb) (fun _ _ _ _=>(bB (aa (pv 0) (aa (bB (aa ao (aa ao af))) af))))) af)))),?_⟩
  refine⟨_,rfl,plv,ps,xs,m,rfl,hp,pok,hx,hal,fun nt ss H1 hnt hperm hsort hsl s1=>?_⟩
  refine⟨nt,rfl,⟨_,ay.of hnt⟩,fun acc na=>?_⟩
  refine j7 (K:=K) (a:=nt) (xs:=ss.map V.str) (fun i zs τ H'=>∃ c:Option V,τ = [c]/\bh H' zs ((ss.take i).map fun x=>.tuple [.str x,.tuple [.int 0,.int 0]])/\H' acc=some (.lst zs)/\au H1 H') ?_ ?_ ?_ ?_
  ·exact⟨none,rfl,.nil,ae,au.new na⟩
  ·rintro i zs τ H2 hi ⟨c,rfl,r,ha,s2⟩
   refine⟨ay.of (s2 _ _ hnt),ha,?_⟩
   have h1:=r.len
   rw [List.length_map,List.length_take] at h1
   exact bL (by omega)
  ·rintro i x zs τ H2 hi ⟨c,rfl,r,ha,s2⟩
   obtain⟨y,hy,rfl⟩:∃ y,ss[i]? = some y/\x=V.str y:=by
    rw [List.getElem?_map] at hi
    cases e:ss[i]? with
    | none=>rw [e] at hi;cases hi
    | some k=>rw [e] at hi;exact⟨k,rfl,(Option.some.inj hi).symm⟩
   refine dC ?_
   refine jv ?_
   refine cm ?_
   refine⟨_,rfl,ln2,fun t1 n1=>⟨ln2,fun t2 n2=>?_⟩⟩
   have q1:=au.new (o:=.tup [.int 0,.int 0]) n1
   have q2:=au.new (o:=.tup [.str y,.ref t1]) n2
   have ha3:=q2 _ _ (q1 _ _ ha)
   have kt:∀ p ws,(upd (upd H2 t1 (.tup [.int 0,.int 0])) t2 (.tup [.str y,.ref t1])) p=some (.tup ws)->(upd (upd (upd H2 t1 (.tup [.int 0,.int 0])) t2 (.tup [.str y,.ref t1])) acc (.lst (zs ++ [V.ref t2]))) p=some (.tup ws):=fun p ws e=>by rw [ai (bA e ha3 (by intro z;cases z))];exact e
   refine⟨ha3,_,rfl,?_,ae,((s2.trans q1).trans q2).put na⟩
   rw [List.take_add_one,hy,List.map_append]
   exact (((r.same q1 (gX _)).same q2 (gX _)).bb kt (gX _)).app (.tup (kt _ _ ae) (.cons (.str _) (.cons (.tup (kt _ _ (q2 _ _ ae)) (.cons (.int _) (.cons (.int _) .nil))) .nil)))
  ·rintro zs τ H2 ⟨c,rfl,r,ha,s2⟩
   rw [List.length_map,List.take_length] at r
   refine⟨acc,_,rfl,.inl ⟨aU.of ha,fun t ht=>?_⟩⟩
   exact q (.ref t) ss _ (.tup ae (r.same (au.new ht) (gX _))) hperm hsort ((s1.trans s2).trans (au.new ht))
theorem pG {f:Addr} {fd:FuncData} (F:bQ K "__init__" "Row.__init__" en f fd) (Z:Bl mg) {CR:Addr} (TR:tU K CR)  : bc P w K mg base bO 1 f fd ["self", "first"] (kM P w CR):=by
 refine F.ok (k:=0) pC (fun vs H Q E h=>?_) (fun cdv A outer s H vs Q E hr h=>?_)
 ·obtain⟨r,dx,k,d0,rfl,_⟩:=h
  rfl
 ·obtain⟨r,dx,k,d0,rfl,hr0,hk,rd,nl,q⟩:=h
  refine⟨_,(ah (fC (pv 0) (cP (aa (pv 1) af)) rfl)
   (av (fC (pv 0) (zQ (tW hr) (y9 (pv 1) ao AR) rfl rfl (List.cons_ne_nil _ _) (by show 1<=15;decide)) rfl))),?_⟩
  refine⟨_,rfl,xA,fun m nm=>?_⟩
  have s1:=au.new (o:=.lst [.ref k]) nm
  have hm1:(upd H m (.lst [.ref k])) m=some (.lst [.ref k]):=ae
  have nrm:r ≠ m:=aw hr0 nm
  have rd1:=rd.same s1 nl
  generalize (upd H m (.lst [.ref k]))=H1 at s1 hm1 rd1
  have hr1:=s1 _ _ hr0
  refine⟨_,rfl,r,CR,dx,_,rfl,hr1,TR.cl,TR.members,(by show 0 < 1000;decide),?_⟩
  have kt1:∀ p zs,H1 p=some (.tup zs)->∀ o,(upd H1 r o) p=some (.tup zs):=fun p zs e o=>by rw [ai (bA e hr1 (by intro z;cases z))];exact e
  refine fun d nd=>?_
  have ndr:r ≠ d:=fun z=>by rw [<-z,ae] at nd;cases nd
  have nd1:H1 d=none:=by rw [ai ndr.symm] at nd;exact nd
  have ndm:d ≠ m:=fun z=>by rw [z,hm1] at nd1;cases nd1
  have kt2:∀ p zs,H1 p=some (.tup zs)->∀ o o',(upd (upd H1 r o) d o') p=some (.tup zs):=fun p zs e o o'=>by rw [ai (aw e nd1)];exact kt1 p zs e o
  refine⟨_,rfl,ae,k,.int 0,d0,rfl,hk,rd1.bb (fun p zs e=>kt2 p zs e _ _) nl,?_⟩
  refine⟨_,rfl,r,CR,dx,_,rfl,(by rw [ai ndr,ai ndr,ae]),TR.cl,TR.places,(by rw [o9];show 1 < 1000;decide),?_⟩
  refine q m d _ ⟨⟨dx,by rw [ae,o9,yq]⟩,?_,?_,fun p hp=>?_⟩ (fun c o e n=>?_) nm (s1.free nd1)
  ·rw [ai nrm.symm,ai ndm.symm,ai ndm.symm,ai nrm.symm];exact hm1
  ·rw [ai ndr.symm,ae];rfl
  ·rw [List.mem_singleton.mp hp]
   refine⟨hk,rd1.bb (fun p zs e=>?_) nl⟩
   have hpr:p ≠ r:=bA e hr1 (by intro z;cases z)
   have hpd:p ≠ d:=aw e nd1
   rw [ai hpr,ai hpd,ai hpd,ai hpr];exact e
  ·rw [ai n,ai (aw (s1 _ _ e) nd1),ai (aw (s1 _ _ e) nd1),ai n];exact s1 _ _ e
theorem pH {f:Addr} {fd:FuncData} (F:bQ K "place_of" "Row.place_of" er f fd) (Z:Bl mg) {CR:Addr} (TR:tU K CR)  : bc P w K mg base bO 1 f fd ["self", "thing"] (kN P w CR):=by
  refine F.ok (k:=0) pD (fun vs H Q E h=>?_) (fun cdv A outer s H vs Q E hr h=>?_)
  · obtain⟨r,m,d,k,d0,ms,rfl,_⟩:=h
    rfl
  · obtain⟨r,m,d,k,d0,ms,rfl,A,hms,hk,rd,nl,nls,q⟩:=h
    refine⟨_,(ah (bp (aH (wC (tW hr)) (pv 1) (bK (pv 0) rfl) (by with_unfolding_all rfl))
      (ah (dh (bC bx rfl Z.len cK (aa (bK (pv 0) rfl) af)) (ou (bK (pv 0) rfl) (pv 1) (zI (tW hr))))
      (av (cE (fY PySem.F.plainAttrs_list PySem.F.slot_list_append PySem.F.type_list_append d9 (bK (pv 0) rfl) (aa (pv 1) af)))))
      aX)
      (av (aF (Bi (tW hr) (bK (pv 0) rfl) (pv 1) (fun _ _=>rfl))))),?_⟩
    obtain⟨dx,hob⟩:=A.ob
    obtain⟨n1,n2,n3⟩:=A.vb
    have hml:(ms.map fun p=>V.ref p.2).length=ms.length:=List.length_map ..
    have hv:=kK d0 0 ms
    refine⟨_,rfl,_,rfl,r,CR,dx,_,_,rfl,hob,TR.cl,TR.places,iO,k,d,d0,de 0 ms,rfl,rfl,⟨A.mj,A.j2,hk,rd⟩,_,rfl,?_⟩
    by_cases hm:d0 ∈ ms.map (·.1)
    · rw [if_pos hm] at hv
      refine aN (by rw [hv];rfl) ?_
      have e:kL ms d0 k=ms:=by unfold kL;rw [if_pos hm]
      rw [e] at q
      refine⟨_,rfl,r,CR,dx,_,_,rfl,hob,TR.cl,TR.places,iO,_,rfl,k,d,d0,de 0 ms,_,rfl,rfl,⟨A.mj,A.j2,hk,rd⟩,hv,?_⟩
      rw [Nat.zero_add]
      exact q H A kH.refl
    · rw [if_neg hm] at hv
      refine bW (by rw [hv];rfl) ?_
      refine⟨_,rfl,r,CR,dx,_,_,rfl,hob,TR.cl,TR.members,ig,m,_,rfl,.inl (aU.of A.mem),_,rfl,r,CR,dx,_,_,rfl,hob,TR.cl,TR.places,iO,_,rfl,k,d,d0,de 0 ms,rfl,rfl,⟨A.mj,A.j2,hk,rd⟩,bL (by rw [nS];omega),?_⟩
      have eput:putD (de 0 ms) d0 k (.int ((ms.map fun p=>V.ref p.2).length:Nat))=de 0 (ms ++ [(d0,k)]):=by
        unfold putD
        rw [hv,tX,hml,Nat.zero_add]
        rfl
      rw [eput]
      change (_:Hp->Prop) (upd H d (fz P w d (de 0 (ms ++ [(d0,k)]))))
      have hob1:(upd H d (fz P w d (de 0 (ms ++ [(d0,k)])))) r=some (.ins CR dx (qo (.ref m) (.ref d))):=by rw [ai n2];exact hob
      have hm1:(upd H d (fz P w d (de 0 (ms ++ [(d0,k)])))) m=some (.lst (ms.map fun p=>V.ref p.2)):=by rw [ai n3.symm];exact A.mem
      refine⟨_,rfl,r,CR,dx,_,_,rfl,hob1,TR.cl,TR.members,ig,.inl ⟨rfl,_,aU.of hm1⟩,_,rfl,m,_,_,rfl,rfl,hm1,bL (by omega),?_⟩
      have e:kL ms d0 k=ms ++ [(d0,k)]:=by unfold kL;rw [if_neg hm]
      rw [e] at q
      have kt:∀ p zs,H p=some (.tup zs)->∀ o o',(upd (upd H d o) m o') p=some (.tup zs):=fun p zs h o o'=>by
        rw [ai (bA h A.mem (by intro z;cases z)),ai (bA h A.mj (by intro z;cases z))];exact h
      have keys:∀ (H':Hp),(∀ p zs,H p=some (.tup zs)->H' p=some (.tup zs))->∀ p ∈ ms ++ [(d0,k)],jY p.1/\aS H' (.ref p.2) p.1:=fun H' kt' p hp=>by
        rcases List.mem_append.mp hp with hp | hp
        · exact⟨(A.keys p hp).1,(A.keys p hp).2.bb kt' (nls p hp)⟩
        · rw [List.mem_singleton.mp hp];exact⟨hk,rd.bb kt' nl⟩
      have A2:ij P w CR (upd (upd H d (fz P w d (de 0 (ms ++ [(d0,k)])))) m (.lst ((ms.map fun p=>V.ref p.2) ++ [.ref k]))) r m d (ms ++ [(d0,k)]) :=
        ⟨⟨dx,by rw [ai n1];exact hob1⟩,by rw [ae,List.map_append];rfl,by rw [ai n3,ae],keys _ fun p zs h=>kt p zs h _ _⟩
      have hv2:=kK d0 0 (ms ++ [(d0,k)])
      rw [if_pos (by rw [List.map_append];exact List.mem_append_right _ (List.mem_singleton.mpr rfl)),Nat.zero_add] at hv2
      obtain⟨dx2,hob2⟩:=A2.ob
      refine⟨_,rfl,r,CR,dx2,_,_,rfl,hob2,TR.cl,TR.places,iO,_,rfl,k,d,d0,_,_,rfl,rfl,⟨A2.mj,A2.j2,hk,(A2.keys (d0,k) (List.mem_append_right _ (List.mem_singleton.mpr rfl))).2⟩,hv2,?_⟩
      exact q _ A2 fun c o h c1 c2=>by rw [ai c1,ai c2];exact h
theorem wV {f:Addr} {fd:FuncData} (F:bQ K "reached" "reached" hJ f fd) (Z:Bl mg) (O_ways_on:Own P w K mg base "ways_on" 3 ["end"] jA):bc P w K mg base bO 4 f fd ["plan"] mn:=by
  refine bQ.Ef F (k:=3) il (fun vs H Q E h=>?_) (fun cdv A outer s H vs Q E hcd hr h=>?_)
  · obtain⟨plv,ps,rfl,_⟩:=h
    rfl
  · obtain⟨plv,ps,rfl,hp,hin,hn0,hn,q⟩:=h
    refine⟨_,(ah (aQ (i:=1) il.nd rfl (Or.inl rfl) (Bp hcd ao))
      (ah (aQ (i:=2) il.nd rfl (Or.inl rfl) (cP (aa ao af)))
      (ah (nu PassesOwn.never (yS (pv 2) (fun _=>rfl))
      (ah (aQ (i:=3) il.nd rfl (Or.inl rfl) (Cf PySem.F.plainAttrs_list PySem.F.slot_list_pop PySem.F.type_list_pop Cg (pv 2)))
      (av (gK PassesOwn.never rfl (fB (aB O_ways_on (hr.mono (by decide)) rfl (aa (aC aM (aC aM (pv 0) (pv 3) (fun _ _=>rfl)) ao (fun _ _=>rfl)) af))) (aG (i:=4) il.nd rfl (Or.inl rfl))
      (av (bp (aH yj (pv 4) (pv 1) (by with_unfolding_all rfl))
      (ah (cE (yk PySem.F.slot_set_add PySem.F.type_set_add vn (pv 1) (aa (pv 4) af)))
      (av (cE (fY PySem.F.plainAttrs_list PySem.F.slot_list_append PySem.F.type_list_append d9 (pv 2) (aa (pv 4) af)))))
      aX))))))
      (av (aF (bg bf rfl Z.tuple bZ (aa (bC (kX rfl) rfl Z.sorted jN (aa (pv 1) af)) af))))))),?_⟩
    obtain⟨pp,vs,rfl,e1,r1⟩:=aS.cx hp
    have hvl:=r1.len
    rw [List.length_map] at hvl
    refine fun fs nfs=>?_
    refine⟨ae,Sum.inl (0:Int),rfl,?_⟩
    change (_:Hp->Prop) (upd (upd H fs (cD P w fs [])) fs (cD P w fs [Sum.inl (0:Int)]))
    rw [Aw]
    have s1:=au.new (o:=cD P w fs [Sum.inl (0:Int)]) nfs
    have hf1:(upd H fs (cD P w fs [Sum.inl (0:Int)])) fs=some (cD P w fs (kI [0])):=ae
    generalize (upd H fs (cD P w fs [Sum.inl (0:Int)]))=H1 at s1 hf1
    refine⟨xA,fun wl nwl=>?_⟩
    have s2:=au.new (o:=.lst [.int 0]) nwl
    have hf2:=s2 _ _ hf1
    have hw2:(upd H1 wl (.lst [.int 0])) wl=some (.lst (vN [0])):=ae
    have nfw:fs ≠ wl:=aw hf1 nwl
    have nwH:H wl=none:=s1.free nwl
    have s12:=s1.trans s2
    generalize (upd H1 wl (.lst [.int 0]))=H2 at s2 hf2 hw2 s12
    refine⟨fun m σ H'=>∃ (ks ws:List Nat) (u1 u2:Option V),σ = [some (.ref pp),some (.ref fs),some (.ref wl),u1,u2]/\H' fs=some (cD P w fs (kI ks))/\H' wl=some (.lst (vN ws))/\wH ps ks ws/\m=2 * (ps.length - ks.length)+ws.length/\ws.length<=ks.length/\au H H',⟨_,[0],[0],_,_,rfl,hf2,hw2,⟨by simp,fun k hk=>by rw [List.mem_singleton.mp hk];exact hn0,fun k hk=>by rw [List.mem_singleton.mp hk];exact .zero,by simp,fun k hk=>hk,fun k hk=>.inl hk⟩,rfl,Nat.le_refl _,s12⟩,?_⟩
    rintro m σ H3 ⟨ks,ws,u1,u2,rfl,hf3,hw3,sk,hm,hwk,s3⟩
    have hkn:=gW sk.nd sk.lt
    refine⟨_,rfl,!(vN ws).isEmpty,.inl ⟨_,aU.of hw3,rfl⟩,?_⟩
    rcases (show ws = []\/∃ ws' at_,ws=ws' ++ [at_] from (List.eq_nil_or_concat ws).imp id fun ⟨a,b,h⟩=>⟨a,b,by rw [h,List.concat_eq_append]⟩) with rfl | ⟨ws',at_,rfl⟩
    · refine aN rfl ?_
      refine⟨_,rfl,fs,ks.map (fun k:Nat=>(k:Int)),rfl,(by rw [hf3,vv];rfl),(by rw [List.length_map];omega),fun l ss hperm _ nl=>?_⟩
      obtain⟨ms,rfl,hms⟩:=mq hperm
      refine⟨l,_,rfl,.inl ⟨aU.of ae,?_⟩⟩
      rw [<-yr]
      intro t nt
      refine q t ms _ ae (fun k=>(hms.mem_iff).trans (sk.all k)) (fun k hk=>sk.lt k (hms.mem_iff.mp hk)) (by rw [hms.length_eq];omega) ((s3.trans (au.new nl)).trans (au.new nt))
    · have hwl:(ws' ++ [at_]).length=ws'.length+1:=by rw [List.length_append];rfl
      have hev:vN (ws' ++ [at_])=vN ws' ++ [V.int (at_:Nat)]:=by show (ws' ++ [at_]).map _=_;rw [List.map_append];rfl
      refine bW (by rw [hev];cases vN ws' <;> rfl) ?_
      have hak:at_ ∈ ks:=sk.sub at_ (List.mem_append_right _ (List.mem_singleton.mpr rfl))
      have hat:=sk.lt at_ hak
      have hps:ps[at_]? = some ps[at_]:=by simp [hat]
      generalize ps[at_] = pce at hps
      obtain⟨ds,e⟩:=pce
      obtain⟨p',xs',pc,da,ea,wsv,ep,e1',el',hx',e2,e3,r3,e4⟩:=fT hp hps
      cases ep
      rw [e1] at e1'
      cases e1'
      refine⟨fun σ' H'=>∃ (ks' ws2:List Nat) (u1 u2:Option V),σ' = [some (.ref pp),some (.ref fs),some (.ref wl),u1,u2]/\H' fs=some (cD P w fs (kI ks'))/\H' wl=some (.lst (vN ws2))/\wH ps ks' ws2/\2 * (ps.length - ks'.length)+ws2.length < m/\ws2.length<=ks'.length/\au H H',fun σ' H' ⟨ks',ws2,u1,u2,h1,h2,h3,h4,h5,h6,h7⟩=>⟨_,h5,ks',ws2,u1,u2,h1,h2,h3,h4,rfl,h6,h7⟩,?_⟩
      refine⟨_,rfl,.inl ⟨rfl,_,aU.of hw3⟩,wl,_,.int (at_:Nat),rfl,rfl,hw3,(by rw [hev];simp),?_⟩
      have hdl:(vN (ws' ++ [at_])).dropLast=vN ws':=by rw [hev,List.dropLast_concat]
      rw [hdl]
      have hw4:(upd H3 wl (.lst (vN ws'))) wl=some (.lst (vN ws')):=ae
      have hf4:(upd H3 wl (.lst (vN ws'))) fs=some (cD P w fs (kI ks)):=by rw [ai nfw];exact hf3
      have s4:au H (upd H3 wl (.lst (vN ws'))):=s3.put nwH
      generalize (upd H3 wl (.lst (vN ws')))=H4 at hw4 hf4 s4
      refine⟨_,rfl,_,rfl,pp,_,_,_,rfl,rfl,ay.of (s4 _ _ e1),bw hx',pc,_,1,_,rfl,rfl,ay.of (s4 _ _ e2),dB,ea,e,rfl,s4 _ _ e4,fun wt H5 hwt s5=>?_⟩
      refine⟨wt,rfl,⟨_,ay.of hwt⟩,i7 (K:=K) (a:=wt) (xs:=vN (bu e)) (fun i σ H'=>∃ (ks' add:List Nat) (u2:Option V),σ = [some (.ref pp),some (.ref fs),some (.ref wl),some (.int (at_:Nat)),u2]/\H' fs=some (cD P w fs (kI ks'))/\H' wl=some (.lst (vN (ws' ++ add)))/\ks' = ks++add/\ks'.Nodup/\(∀ k ∈ ks',k < ps.length)/\(∀ k ∈ add,ml ps k)/\(∀ k ∈ (bu e).take i,k ∈ ks')/\(∀ c o,H5 c=some o->c ≠ fs->c ≠ wl->H' c=some o)) ?_ ?_ ?_ ?_⟩
      · exact⟨ks,[],_,rfl,s5 _ _ hf4,by rw [List.append_nil];exact s5 _ _ hw4,by rw [List.append_nil],sk.nd,sk.lt,(fun _ h=>nomatch h),(fun _ h=>by simp at h),fun c o h _ _=>h⟩
      · rintro i σ H6 hi ⟨ks',add,u2,rfl,h1,h2,rfl,h4,h5,h6,h7,h8⟩
        exact ay.of (h8 _ _ hwt (bA hwt (s5 _ _ hf4) (by intro z;cases z)) (bA hwt (s5 _ _ hw4) (by intro z;cases z)))
      · rintro i y σ H6 hi ⟨ks',add,u2,rfl,h1,h2,rfl,h4,h5,h6,h7,h8⟩
        obtain⟨k0,hk0,rfl⟩:∃ k,(bu e)[i]? = some k/\y=V.int (k:Nat):=by
          rw [List.getElem?_map] at hi
          cases z:(bu e)[i]? with
          | none=>rw [z] at hi;cases hi
          | some k=>rw [z] at hi;exact⟨k,rfl,(Option.some.inj hi).symm⟩
        have hk0m:=List.mem_of_getElem? hk0
        have hk0b:=vw hin hps k0 hk0m
        have htk:(bu e).take (i+1)=(bu e).take i ++ [k0]:=by rw [List.take_add_one,hk0];rfl
        refine dC ?_
        refine⟨_,rfl,_,rfl,fs,_,Sum.inl (k0:Int),rfl,h1,rfl,fun b hb=>⟨_,rfl,?_⟩⟩
        rw [tZ] at hb
        by_cases hm0:k0 ∈ ks++add
        · refine aN (by rw [hb.mpr hm0];rfl) ?_
          refine⟨ks++add,add,_,rfl,h1,h2,rfl,h4,h5,h6,fun k hk=>?_,h8⟩
          rw [htk] at hk
          rcases List.mem_append.mp hk with hk | hk
          · exact h7 k hk
          · rw [List.mem_singleton.mp hk];exact hm0
        · refine bW (by rw [Bool.eq_false_iff.mpr fun z=>hm0 (hb.mp z)];rfl) ?_
          have hfew:=gW h4 h5
          refine⟨_,rfl,⟨fs,_,rfl,h1⟩,_,rfl,fs,_,Sum.inl (k0:Int),rfl,rfl,h1,(by rw [List.length_map];exact Nat.lt_of_le_of_lt (show (ks++add).length+1<=1002 by omega) (by decide)),?_⟩
          rw [yx,show LS.putIn (ks++add) k0=ks++(add ++ [k0]) by unfold LS.putIn;rw [if_neg hm0,List.append_assoc]]
          change (_:Hp->Prop) (upd H6 fs (cD P w fs (kI (ks++(add ++ [k0])))))
          have h27:(upd H6 fs (cD P w fs (kI (ks++(add ++ [k0]))))) wl=some (.lst (vN (ws' ++ add))):=by rw [ai nfw.symm];exact h2
          have hal:(ws' ++ add).length<=200:=by
            rw [List.length_append] at hfew ⊢
            omega
          refine⟨_,rfl,.inl ⟨rfl,_,aU.of h27⟩,_,rfl,wl,_,_,rfl,rfl,h27,bL (by rw [List.length_map];omega),?_⟩
          refine⟨_,add ++ [k0],_,rfl,by rw [ai nfw,ae],?_,rfl,?_,?_,?_,?_,fun c o h c1 c2=>by rw [ai c2,ai c1];exact h8 c o h c1 c2⟩
          · rw [ae]
            show _=some (HO.lst ((ws' ++ (add ++ [k0])).map _))
            rw [<-List.append_assoc,List.map_append]
            rfl
          · rw [<-List.append_assoc,List.nodup_append]
            refine⟨h4,by simp,fun x hx y hy z=>?_⟩
            rw [List.mem_singleton.mp hy] at z
            exact hm0 (z ▸ hx)
          · intro k hk
            rw [<-List.append_assoc] at hk
            rcases List.mem_append.mp hk with hk | hk
            · exact h5 k hk
            · rw [List.mem_singleton.mp hk];exact hk0b
          · intro k hk
            rcases List.mem_append.mp hk with hk | hk
            · exact h6 k hk
            · rw [List.mem_singleton.mp hk];exact .step (sk.CK at_ hak) hps hk0m
          · intro k hk
            rw [htk] at hk
            rw [<-List.append_assoc]
            rcases List.mem_append.mp hk with hk | hk
            · exact List.mem_append_left _ (h7 k hk)
            · exact List.mem_append_right _ hk
      · rintro σ H6 ⟨ks',add,u2,rfl,h1,h2,rfl,h4,h5,h6,h7,h8⟩
        rw [show (vN (bu e)).length=(bu e).length from List.length_map ..,List.take_length] at h7
        have hfew:=gW h4 h5
        refine⟨ks++add,ws' ++ add,_,_,rfl,h1,h2,⟨h4,h5,fun k hk=>?_,List.mem_append_left _ sk.zero,fun k hk=>?_,fun k hk=>?_⟩,?_,?_,fun c o h=>?_⟩
        · rcases List.mem_append.mp hk with hk | hk
          · exact sk.CK k hk
          · exact h6 k hk
        · rcases List.mem_append.mp hk with hk | hk
          · exact List.mem_append_left _ (sk.sub k (List.mem_append_left _ hk))
          · exact List.mem_append_right _ hk
        · rcases List.mem_append.mp hk with hk | hk
          · by_cases hka:k=at_
            · subst hka
              refine .inr fun ds' e' he' j hj=>?_
              rw [hps] at he'
              cases he'
              exact h7 j hj
            · rcases sk.done k hk with hw | hd
              · rcases List.mem_append.mp hw with hw | hw
                · exact .inl (List.mem_append_left _ hw)
                · exact absurd (List.mem_singleton.mp hw) hka
              · exact .inr fun ds' e' he' j hj=>List.mem_append_left _ (hd ds' e' he' j hj)
          · exact .inl (List.mem_append_right _ hk)
        · rw [List.length_append] at hfew ⊢
          rw [List.length_append] at ⊢
          rw [hwl] at hm
          omega
        · rw [List.length_append,List.length_append]
          omega
        · exact h8 c o (s5 _ _ (s4 _ _ h)) (aw h nfs) (aw h nwH)
theorem z6 {f:Addr} {fd:FuncData} (F:bQ K "heads" "heads" je f fd) (Z:Bl mg) (O_reached:Own P w K mg base "reached" 4 ["plan"] mn) (O_ways_on:Own P w K mg base "ways_on" 3 ["end"] jA):bc P w K mg base bO 5 f fd ["plan"] qv:=by
  refine F.ok (k:=4) kR (fun vs H Q E h=>?_) (fun cdv A outer s H vs Q E hr h=>?_)
  · obtain⟨plv,ps,rfl,_⟩:=h
    rfl
  · obtain⟨plv,ps,rfl,hp,hin,hn0,hn,q⟩:=h
    refine⟨_,(ah (aQ (i:=1) kR.nd rfl (Or.inl rfl) (vM yh rfl Z.set yg))
      (ah (gK PassesOwn.never rfl (fB (aB O_reached (hr.mono (by decide)) rfl (aa (pv 0) af))) (aG (i:=2) kR.nd rfl (Or.inl rfl))
      (av (gK PassesOwn.never rfl (fB (aB O_ways_on (hr.mono (by decide)) rfl (aa (aC aM (aC aM (pv 0) (pv 2) (fun _ _=>rfl)) ao (fun _ _=>rfl)) af))) (aG (i:=3) kR.nd rfl (Or.inl rfl))
      (av (bp (aH vI (pv 3) (pv 2) (aO _))
      (av (cE (yk PySem.F.slot_set_add PySem.F.type_set_add vn (pv 1) (aa (pv 3) af))))
      aX)))))
      (av (aF (bg bf rfl Z.tuple bZ (aa (bC (kX rfl) rfl Z.sorted jN (aa (pv 1) af)) af)))))),?_⟩
    obtain⟨pp,vs,rfl,e1,r1⟩:=aS.cx hp
    have hvl:=r1.len
    rw [List.length_map] at hvl
    refine⟨rfl,fun fs nfs=>?_⟩
    change (_:Hp->Prop) (upd H fs (cD P w fs []))
    have s1:=au.new (o:=cD P w fs []) nfs
    have hf1:(upd H fs (cD P w fs [])) fs=some (cD P w fs (kI [])):=ae
    generalize (upd H fs (cD P w fs []))=H1 at s1 hf1
    refine⟨_,rfl,_,ps,rfl,hp.same s1 (cw ps),hin,hn0,hn,fun t ks H2 ht hks hlt hkl s2=>?_⟩
    have hf2:=s2 _ _ hf1
    have s12:=s1.trans s2
    refine⟨t,rfl,⟨_,ay.of ht⟩,i7 (K:=K) (a:=t) (xs:=vN ks) (fun i σ H'=>∃ (hs:List Nat) (u1 u2:Option V),σ = [some (.ref pp),some (.ref fs),u1,u2]/\H' fs=some (cD P w fs (kI hs))/\hs.Nodup/\(∀ k ∈ hs,k < ps.length)/\(∀ k,k ∈ hs ↔ ∃ j ∈ ks.take i,∃ ds e,ps[j]? = some (ds,e)/\k ∈ bu e/\k<=j)/\(∀ c o,H2 c=some o->c ≠ fs->H' c=some o)) ?_ ?_ ?_ ?_⟩
    · exact⟨[],_,_,rfl,hf2,List.nodup_nil,(fun _ h=>nomatch h),fun k=>⟨fun h=>(nomatch h),fun ⟨j,hj,_⟩=>(by simp at hj)⟩,fun c o h _=>h⟩
    · rintro i σ H3 hi ⟨hs,u1,u2,rfl,h1,h2,h3,h4,h5⟩
      exact ay.of (h5 _ _ ht (bA ht hf2 (by intro z;cases z)))
    · rintro i y σ H3 hi ⟨hs,u1,u2,rfl,h1,h2,h3,h4,h5⟩
      obtain⟨at_,hat,rfl⟩:∃ k,ks[i]? = some k/\y=V.int (k:Nat):=by
        rw [List.getElem?_map] at hi
        cases z:ks[i]? with
        | none=>rw [z] at hi;cases hi
        | some k=>rw [z] at hi;exact⟨k,rfl,(Option.some.inj hi).symm⟩
      have hatl:=hlt at_ (List.mem_of_getElem? hat)
      have hps:ps[at_]? = some ps[at_]:=by simp [hatl]
      generalize ps[at_] = pce at hps
      obtain⟨ds,e⟩:=pce
      obtain⟨p',xs',pc,da,ea,wsv,ep,e1',el',hx',e2,e3,r3,e4⟩:=fT hp hps
      cases ep
      rw [e1] at e1'
      cases e1'
      have k3:∀ p zs,H p=some (.tup zs)->H3 p=some (.tup zs):=fun p zs h=>h5 _ _ (s12 _ _ h) (bA (s12 _ _ h) hf2 (by intro z;cases z))
      refine dC ?_
      refine⟨_,rfl,_,rfl,pp,_,_,_,rfl,rfl,ay.of (k3 _ _ e1),bw hx',pc,_,1,_,rfl,rfl,ay.of (k3 _ _ e2),dB,ea,e,rfl,k3 _ _ e4,fun wt H5 hwt s5=>?_⟩
      refine⟨wt,rfl,⟨_,ay.of hwt⟩,i7 (K:=K) (a:=wt) (xs:=vN (bu e)) (fun j σ H'=>∃ (hs':List Nat) (u2:Option V),σ = [some (.ref pp),some (.ref fs),some (.int (at_:Nat)),u2]/\H' fs=some (cD P w fs (kI hs'))/\hs'.Nodup/\(∀ k ∈ hs',k < ps.length)/\(∀ k,k ∈ hs' ↔ k ∈ hs\/(k ∈ (bu e).take j/\k<=at_))/\(∀ c o,H5 c=some o->c ≠ fs->H' c=some o)) ?_ ?_ ?_ ?_⟩
      · exact⟨hs,_,rfl,s5 _ _ h1,h2,h3,fun k=>⟨.inl,fun h=>h.elim id fun ⟨z,_⟩=>by simp at z⟩,fun c o h _=>h⟩
      · rintro j σ H6 hj ⟨hs',u2,rfl,g1,g2,g3,g4,g5⟩
        exact ay.of (g5 _ _ hwt (bA hwt (s5 _ _ h1) (by intro z;cases z)))
      · rintro j y σ H6 hj ⟨hs',u2,rfl,g1,g2,g3,g4,g5⟩
        obtain⟨k0,hk0,rfl⟩:∃ k,(bu e)[j]? = some k/\y=V.int (k:Nat):=by
          rw [List.getElem?_map] at hj
          cases z:(bu e)[j]? with
          | none=>rw [z] at hj;cases hj
          | some k=>rw [z] at hj;exact⟨k,rfl,(Option.some.inj hj).symm⟩
        have hk0m:=List.mem_of_getElem? hk0
        have hk0b:=vw hin hps k0 hk0m
        have htk:(bu e).take (j+1)=(bu e).take j ++ [k0]:=by rw [List.take_add_one,hk0];rfl
        refine dC ?_
        refine⟨_,rfl,_,rfl,_,_,rfl,rfl,_,rfl,?_⟩
        refine dX (fun hc=>?_) (fun hc=>?_)
        · have hle:k0<=at_:=by have:=of_decide_eq_true hc;omega
          have hfew:=gW g2 g3
          refine⟨_,rfl,⟨fs,_,rfl,g1⟩,_,rfl,fs,_,Sum.inl (k0:Int),rfl,rfl,g1,(by rw [List.length_map];exact Nat.lt_of_le_of_lt (show hs'.length+1<=1002 by omega) (by decide)),?_⟩
          rw [yx]
          change (_:Hp->Prop) (upd H6 fs (cD P w fs (kI (LS.putIn hs' k0))))
          refine⟨LS.putIn hs' k0,_,rfl,ae,zL g2,fun k hk=>?_,fun k=>?_,fun c o h c1=>by rw [ai c1];exact g5 c o h c1⟩
          · rcases LS.iN.mp hk with hk | hk
            · exact g3 k hk
            · rw [hk];exact hk0b
          · rw [LS.iN,g4,htk]
            constructor
            · rintro ((h | ⟨h,h'⟩) | rfl)
              · exact .inl h
              · exact .inr ⟨List.mem_append_left _ h,h'⟩
              · exact .inr ⟨List.mem_append_right _ (List.mem_singleton.mpr rfl),hle⟩
            · rintro (h | ⟨h,h'⟩)
              · exact .inl (.inl h)
              · rcases List.mem_append.mp h with h | h
                · exact .inl (.inr ⟨h,h'⟩)
                · exact .inr (List.mem_singleton.mp h)
        · have hle:¬ k0<=at_:=fun z=>hc (decide_eq_true (by omega))
          refine⟨hs',_,rfl,g1,g2,g3,fun k=>?_,g5⟩
          rw [g4,htk]
          constructor
          · rintro (h | ⟨h,h'⟩)
            · exact .inl h
            · exact .inr ⟨List.mem_append_left _ h,h'⟩
          · rintro (h | ⟨h,h'⟩)
            · exact .inl h
            · rcases List.mem_append.mp h with h | h
              · exact .inr ⟨h,h'⟩
              · rw [List.mem_singleton.mp h] at h';exact absurd h' hle
      · rintro σ H6 ⟨hs',u2,rfl,g1,g2,g3,g4,g5⟩
        rw [show (vN (bu e)).length=(bu e).length from List.length_map ..,List.take_length] at g4
        refine⟨hs',_,_,rfl,g1,g2,g3,fun k=>?_,fun c o h c1=>g5 c o (s5 _ _ (h5 c o h c1)) c1⟩
        rw [g4,h4,List.take_add_one,hat]
        constructor
        · rintro (⟨j,hj,r⟩ | ⟨h,h'⟩)
          · exact⟨j,List.mem_append_left _ hj,r⟩
          · exact⟨at_,List.mem_append_right _ (List.mem_singleton.mpr rfl),ds,e,hps,h,h'⟩
        · rintro⟨j,hj,ds',e',hp',h,h'⟩
          rcases List.mem_append.mp hj with hj | hj
          · exact .inl ⟨j,hj,ds',e',hp',h,h'⟩
          · have hj:j=at_:=List.mem_singleton.mp hj
            subst hj
            rw [hps] at hp'
            cases hp'
            exact .inr ⟨h,h'⟩
    · rintro σ H3 ⟨hs,u1,u2,rfl,h1,h2,h3,h4,h5⟩
      rw [show (vN ks).length=ks.length from List.length_map ..,List.take_length] at h4
      have hfew:=gW h2 h3
      refine⟨_,rfl,fs,hs.map (fun k:Nat=>(k:Int)),rfl,(by rw [h1,vv];rfl),(by rw [List.length_map];omega),fun l ss hperm _ nl=>?_⟩
      obtain⟨ms,rfl,hms⟩:=mq hperm
      refine⟨l,_,rfl,.inl ⟨aU.of ae,?_⟩⟩
      rw [<-yr]
      intro t' nt
      have s3:au H H3:=fun c o h=>h5 c o (s12 c o h) (aw h nfs)
      refine q t' ms _ ae (fun k=>(hms.mem_iff).trans ((h4 k).trans ?_)) (by rw [hms.length_eq];omega) ((s3.trans (au.new nl)).trans (au.new nt))
      constructor
      · rintro⟨j,hj,ds,e,r1,r2,r3⟩
        exact⟨j,ds,e,(hks j).mp hj,r1,r2,r3⟩
      · rintro⟨j,ds,e,hj,r1,r2,r3⟩
        exact⟨j,(hks j).mpr hj,ds,e,r1,r2,r3⟩
theorem uD {f:Addr} {fd:FuncData} (F:bQ K "copy_for" "copy_for" gu f fd) (Z:Bl mg)  : bc P w K mg base bO 1 f fd ["lead", "tops", "places", "most"] (mr P w):=by
  refine F.ok (k:=0) nj (fun vs H Q E h=>?_) (fun cdv A outer s H vs Q E hr h=>?_)
  · obtain⟨la,tp,d,most,k,T,dl,hs,fv,ms,cs,tops,rfl,_⟩:=h
    rfl
  · obtain⟨la,tp,d,most,k,T,dl,hs,fv,ms,cs,tops,rfl,hla,rl,cd,lay,htp,hts,hd,j2,cc,q⟩:=h
    refine⟨_,(ah (aQ (i:=4) nj.nd rfl (Or.inl rfl) (aC aM (pv 0) ao (fun _ _=>rfl)))
      (ah (bp (aH qN (pv 4) (pv 1) (by with_unfolding_all rfl))
      (av (aF (bB (aa (pv 4) (aa (bB af) af)))))
      aX)
      (ah (bp (PW.pt (vD (aH (Bh (tW hr)) (pv 0) (pv 2) (by with_unfolding_all rfl)) (sC (aH gQ (bC wG rfl Z.len cK (aa (pv 2) af)) (pv 3) (aO _)))))
      (av (aF (pv 0)))
      aX)
      (av (aF (bB (aa (pv 4) (aa (bB af) af)))))))),?_⟩
    refine⟨_,rfl,la,_,0,_,rfl,rfl,ay.of hla,bH,?_⟩
    have out:bE tops most cs (k,T)=(k,T0)->∀ t1 t2,H t1=none->(upd H t1 (.tup [])) t2=none->Q (.ref t2) (upd (upd H t1 (.tup [])) t2 (.tup [.int (k:Nat),.ref t1])):=fun e t1 t2 n1 n2=>by
      rw [e] at q
      have q2:=au.new (o:=.tup [.int (k:Nat),.ref t1]) n2
      exact q t2 (.tuple [.int (k:Nat),.tuple []]) _ (.tup ae (.cons (.int _) (.cons (.tup (q2 _ _ ae) .nil) .nil))) ⟨_,FD.zero,rfl⟩ ((au.new n1).trans q2)
    refine⟨_,rfl,_,rfl,tp,_,rfl,.inr (ay.of htp),rfl,vq _,_,rfl,?_⟩
    rw [show (if false=true then !qM (.int (k:Nat)) (vN hs) else qM (.int (k:Nat)) (vN hs))=decide (k ∈ hs) from qp k hs]
    by_cases hk:k ∈ hs
    · refine bW (decide_eq_true hk) ?_
      exact⟨_,rfl,(by show 0<=sizeLine;decide),fun t1 n1=>⟨ln2,fun t2 n2=>out (by unfold bE;rw [if_pos ((hts k).mp hk)]) t1 t2 n1 n2⟩⟩
    · refine aN (decide_eq_false hk) ?_
      have hnt:¬ tops k:=fun z=>hk ((hts k).mpr z)
      obtain⟨hmem,_⟩:=cd.mem cc
      have hcl:(ms.map (·.1)).length=cs.length:=Paired.length cc
      have hml:ms.length=cs.length:=by rw [<-hcl,List.length_map]
      have hv:=kK dl 0 ms
      refine⟨_,rfl,_,rfl,la,d,dl,de 0 ms,rfl,rfl,⟨hd,j2,cd.key lay,rl⟩,_,rfl,?_⟩
      by_cases hin:(k,T) ∈ cs
      · rw [if_pos (hmem.mpr hin)] at hv
        refine bW (by rw [hv];rfl) (cm ?_)
        exact⟨_,rfl,q la dl H rl (by unfold bE;rw [if_neg hnt,if_pos (.inl hin)];exact cd) (au.refl H)⟩
      · rw [if_neg (fun z=>hin (hmem.mp z))] at hv
        refine aN (by rw [hv];rfl) ?_
        refine⟨_,rfl,d,de 0 ms,rfl,hd,_,rfl,_,_,rfl,rfl,_,rfl,?_⟩
        rw [nS]
        refine dX (fun hc=>?_) (fun hc=>?_)
        · have hlt:cs.length < most:=by have:=of_decide_eq_true hc;omega
          exact⟨_,rfl,q la dl H rl (by unfold bE;rw [if_neg hnt,if_pos (.inr hlt)];exact cd) (au.refl H)⟩
        · have hlt:¬ cs.length < most:=fun z=>hc (decide_eq_true (by omega))
          exact⟨_,rfl,(by show 0<=sizeLine;decide),fun t1 n1=>⟨ln2,fun t2 n2=>out (by unfold bE;rw [if_neg hnt,if_neg (fun z=>z.elim hin hlt)]) t1 t2 n1 n2⟩⟩
theorem yE {f:Addr} {fd:FuncData} (F:bQ K "end_to" "end_to" iD f fd) (Z:Bl mg) (O_without_ways:Own P w K mg base "without_ways" 4 ["end"] mf):bc P w K mg base bO 5 f fd ["end", "ways"] qw:=by
 refine F.ok (k:=4) yC (fun vs H Q E h=>?_) (fun cdv A outer s H vs Q E hr h=>?_)
 ·obtain⟨ea,l,e,ns,rfl,_⟩:=h
  rfl
 ·obtain⟨ea,l,e,ns,rfl,he,hl,hns,hn2,q⟩:=h
  refine⟨_,(ah (bp (aH bR (bC bx rfl Z.len cK (aa (pv 1) af)) ao (aO _))
   (av (aF (bB (aa aW (aa (aC bY (pv 1) ao (fun _ _=>rfl)) af)))))
   aX)
   (av (aF (br AY (aB O_without_ways (hr.mono (by decide)) rfl (aa (pv 0) af)) (bg bf rfl Z.tuple bZ (aa (pv 1) af)))))),?_⟩
  refine⟨_,rfl,l,_,rfl,.inl (aU.of hl),rfl,_,rfl,?_⟩
  have hlen:(vN ns).length=ns.length:=List.length_map ..
  by_cases h1:ns.length=1
  ·obtain⟨a,rfl⟩:∃ a,ns = [a]:=List.length_eq_one_iff.mp h1
   refine bW (decide_eq_true rfl) ?_
   exact⟨_,rfl,l,_,0,_,rfl,rfl,aU.of hl,bH,ln2,fun t nt=>q t _ ae (au.new nt)⟩
  ·refine aN (decide_eq_false fun z=>h1 (by have:=V.int.inj z;omega)) ?_
   have hns:=hns.resolve_left h1
   refine⟨_,rfl,ea,e,rfl,he,fun t H1 ht s1=>⟨_,rfl,l,_,rfl,.inl ⟨aU.of (s1 _ _ hl),fun t2 nt2=>?_⟩⟩⟩
   have q2:=au.new (o:=.tup (vN ns)) nt2
   have hhl:(kJ e).length<=3:=by cases e <;> simp [kJ]
   refine⟨t,t2,_,_,rfl,rfl,q2 _ _ ht,ae,Nat.le_of_lt (bL (by omega)),fun t3 H3 ht3 s3=>?_⟩
   refine q t3 H3 ?_ ((s1.trans q2).trans s3)
   have e1:kO e ns=zJ e ns:=by
    match ns,h1 with
    | [],_=>rfl
    | [a],h=>exact absurd rfl h
    | _ :: _ :: _,_=>rfl
   rw [e1,zK hns]
   exact ht3
theorem uE {f:Addr} {fd:FuncData} (F:bQ K "led_past" "led_past" gx f fd) (Z:Bl mg) {tk_MOST_TO_LEAD:Tok} (G_MOST_TO_LEAD:mg "MOST_TO_LEAD" = some (.int 60 tk_MOST_TO_LEAD)) {CR:Addr} (TR:tU K CR) (O_heads:Own P w K mg base "heads" 5 ["plan"] qv) (O_start:Own P w K mg base "start" 4 ["plan"] qu) (O_Row___init__:pY P w K mg base CR "Row" 1 ["self", "first"] (kM P w CR)) (O_Row_place_of:eG P w K mg base CR "place_of" 1 ["self", "thing"] (kN P w CR)) (O_behind:Own P w K mg base "behind" 3 ["facts", "deeds"] nP) (O_leads:Own P w K mg base "leads" 5 ["facts", "end"] (qt aA)) (O_copy_for:Own P w K mg base "copy_for" 1 ["lead", "tops", "places", "most"] (mr P w)) (O_end_to:Own P w K mg base "end_to" 5 ["end", "ways"] qw):bc P w K mg base bO 7 f fd ["plan", "most"] (mx P w CR):=by
  refine F.ok (k:=6) cU (fun vs H Q E h=>?_) (fun cdv A outer s H vs Q E hr h=>?_)
  · obtain⟨plv,ps,xs,most,rfl,_⟩:=h
    rfl
  · obtain⟨plv,ps,xs,most,rfl,hp,pok,nok,hx10,hn0,hn,hm1,hm3,q⟩:=h
    refine⟨_,(ah (bp (aH rW (bC bx rfl Z.len cK (aa (pv 0) af)) (gU (v:=.int 60) rfl G_MOST_TO_LEAD ⟨_,rfl⟩) (aO _))
      (av yJ)
      aX)
      (ah (aQ (i:=2) cU.nd rfl (Or.inr rfl) (aB O_heads (hr.mono (by decide)) rfl (aa (pv 0) af)))
      (ah (cL (aQ (i:=3) cU.nd rfl (Or.inr rfl) (pZ O_Row___init__ (hr.mono (by decide)) rfl (aa (bB (aa ao (aa (dW (aH qN ao (pv 2) (by with_unfolding_all rfl)) (bB af) (aB O_start (hr.mono (by decide)) rfl (aa (pv 0) af))) af))) af))))
      (ah (aQ (i:=4) cU.nd rfl (Or.inl rfl) (cP af))
      (ah (nu PassesOwn.never (aH gQ (bC bx rfl Z.len cK (aa (pv 4) af)) (bC bx rfl Z.len cK (aa (bK (pv 3) rfl) af)) (aO _))
      (ah (dh (aC bY (bK (pv 3) rfl) (bC bx rfl Z.len cK (aa (pv 4) af)) (fun _ _=>rfl)) (dz rfl (aR (aG (i:=5) cU.nd rfl (Or.inl rfl)) (aR (aG (i:=6) cU.nd rfl (Or.inl rfl)) cO))))
      (ah (dh (aC aM (pv 0) (pv 5) (fun _ _=>rfl)) (dz rfl (aR (aG (i:=7) cU.nd rfl (Or.inl rfl)) (aR (aG (i:=8) cU.nd rfl (Or.inl rfl)) cO))))
      (ah (aQ (i:=9) cU.nd rfl (Or.inl rfl) (aB O_leads (hr.mono (by decide)) rfl (aa (aB O_behind (hr.mono (by decide)) rfl (aa (pv 6) (aa (pv 7) af))) (aa (pv 8) af))))
      (ah (nB (i:=10) ["lead"] ["copies", "tops", "most"] [3,2,1] rfl cU.nd rfl rfl rfl (fB (pv 9)) rfl (by decide +kernel) (by decide +kernel) (by decide +kernel) ⟨⟨rfl,.inl rfl,rfl⟩,⟨⟨rfl,.inl rfl,rfl⟩,⟨⟨rfl,.inl rfl,rfl⟩,True.intro⟩⟩⟩ (fun _ _ _ _=>(aG (i:=0) (show ((["lead"]:List Str)++(["copies", "tops", "most"]:List Str)).Nodup by decide +kernel) rfl (Or.inl rfl) (hf:=Or.inr rfl))) (fun _ _ _ _=>fb) (fun _ _ _ _=>(gd O_Row_place_of (pv 1) (hr.mono (by decide)) (aa (aB O_copy_for (hr.mono (by decide)) rfl (aa (pv 0) (aa (pv 2) (aa (Bs (K:=K) rfl (pv 1) rfl) (aa (pv 3) af))))) af))))
      (av (cE (fY PySem.F.plainAttrs_list PySem.F.slot_list_append PySem.F.type_list_append d9 (pv 4) (aa (bB (aa (pv 7) (aa (aB O_end_to (hr.mono (by decide)) rfl (aa (pv 8) (aa (pv 10) af))) af))) af)))))))))
      (av (aF (bB (aa (bg bf rfl Z.tuple bZ (aa (pv 4) af)) (aa (bg bf rfl Z.tuple bZ (aa (bK (pv 3) rfl) af)) af)))))))))),?_⟩
    obtain⟨pp,vs,rfl,e1,r1⟩:=aS.cx hp
    have hvl:=r1.len
    rw [List.length_map] at hvl
    have hin:=pok.sX
    refine⟨_,rfl,pp,_,rfl,.inr (ay.of e1),_,_,rfl,rfl,_,rfl,?_⟩
    refine aN (decide_eq_false (by omega)) ?_
    refine⟨_,rfl,_,ps,rfl,hp,hin,hn0,hn,fun tp hs H1 htp hhs hsl s1=>?_⟩
    have hp1:=hp.same s1 (cw ps)
    have hal:(bJ ps).length<=4000:=by
      have h1:=Bn pok
      have h2:ps.length * (2 * 6+1)<=60 * 13:=Nat.mul_le_mul hn (Nat.le_refl 13)
      omega
    refine⟨fun σ' H'=>∃ (r m d ka:Addr) (d0:PyData),σ' = [some (.ref pp),some (.int (most:Nat)),some (.ref tp),some (.ref r),none,none,none,none,none,none,none]/\ij P w CR H' r m d [(d0,ka)]/\CD (iq ps) d0/\H m=none/\H d=none/\H r=none/\au H1 H',?_,?_⟩
    · have layc:tV (iq ps).2:=by
        unfold iq
        split
        · exact dn.zero.lay nok
        · exact (nT pok).lay nok
      refine⟨_,rfl,tp,_,rfl,.inr (ay.of htp),rfl,vq _,_,rfl,?_⟩
      rw [show (if false=true then !qM (.int 0) (vN hs) else qM (.int 0) (vN hs))=decide (0 ∈ hs) from qp 0 hs]
      by_cases h0':0 ∈ hs
      · have h0:=(hhs 0).mp h0'
        refine bW (decide_eq_true h0') ?_
        refine⟨(by show 0<=sizeLine;decide),fun t1 n1=>⟨ln2,fun ka nka=>fun r dx nx ndx nex=>?_⟩⟩
        have cd:=(show CD (iq ps) (.tuple [.int ((0:Nat):Int),.tuple []]) from by unfold iq;rw [if_pos h0];exact⟨_,FD.zero,rfl⟩)
        have nl:=cd.jR
        have q2:=au.new (o:=.tup [.int 0,.ref t1]) nka
        have s3:=(au.new (o:=.tup []) n1).trans q2
        have rd3:aS (upd (upd H1 t1 (.tup [])) ka (.tup [.int 0,.ref t1])) (.ref ka) (.tuple [.int ((0:Nat):Int),.tuple []]):=.tup ae (.cons (.int _) (.cons (.tup (q2 _ _ ae) .nil) .nil))
        generalize (upd (upd H1 t1 (.tup [])) ka (.tup [.int 0,.ref t1]))=H3 at q2 s3 rd3 nx ndx
        have s0:au H3 (upd (upd H3 dx (.own r)) r (.ins CR dx [])):=fun b o e=>by
          rw [ai (aw e nx),ai (aw e ndx)]
          exact e
        refine⟨r,dx,ka,_,rfl,ae,cd.key layc,rd3.same s0 nl,nl,fun m d H4 A4 k4 nm nd=>⟨rfl,?_⟩⟩
        exact⟨r,m,d,ka,_,rfl,A4,cd,s1.free (s3.free (s0.free nm)),s1.free (s3.free (s0.free nd)),s1.free (s3.free nx),fun c o e=>k4 c o (s0 c o (s3 c o e)) (aw (s3 c o e) nx)⟩
      · have h0:¬ cX ps 0:=fun z=>h0' ((hhs 0).mpr z)
        refine aN (decide_eq_false h0') ?_
        refine⟨_,rfl,_,ps,xs,6,rfl,hp1,pok,(by omega),hal,fun v ss H2 rv hperm hsort s3'=>⟨ln2,fun ka nka=>fun r dx nx ndx nex=>?_⟩⟩
        have cd:=(show CD (iq ps) (.tuple [.int ((0:Nat):Int),mi ss]) from by unfold iq;rw [if_neg h0];exact⟨_,zR hperm hsort,rfl⟩)
        have nl:=cd.jR
        have q2:=au.new (o:=.tup [.int 0,v]) nka
        have s3:=s3'.trans q2
        have rd3:aS (upd H2 ka (.tup [.int 0,v])) (.ref ka) (.tuple [.int ((0:Nat):Int),mi ss]):=.tup ae (.cons (.int _) (.cons (rv.same q2 (gX ss)) .nil))
        generalize (upd H2 ka (.tup [.int 0,v]))=H3 at q2 s3 rd3 nx ndx
        have s0:au H3 (upd (upd H3 dx (.own r)) r (.ins CR dx [])):=fun b o e=>by
          rw [ai (aw e nx),ai (aw e ndx)]
          exact e
        refine⟨r,dx,ka,_,rfl,ae,cd.key layc,rd3.same s0 nl,nl,fun m d H4 A4 k4 nm nd=>⟨rfl,?_⟩⟩
        exact⟨r,m,d,ka,_,rfl,A4,cd,s1.free (s3.free (s0.free nm)),s1.free (s3.free (s0.free nd)),s1.free (s3.free nx),fun c o e=>k4 c o (s0 c o (s3 c o e)) (aw (s3 c o e) nx)⟩
    rintro σ' H2 ⟨r,m,d,ka,d0,rfl,A2,cd0,nm,nd,nr,s2⟩
    have s12:=s1.trans s2
    have htp2:=s2 _ _ htp
    have cc2:nh [(d0,ka)] [iq ps]:=.cons cd0 .nil
    refine⟨(by show 0<=sizeLine;decide),fun pz npz=>?_⟩
    have npzH:H pz=none:=s12.free npz
    have q3:=au.new (o:=.lst []) npz
    have s3:=s12.trans q3
    have A3:=A2.mv cc2.jR (fun c o h _=>q3 c o h) (fun p zs h=>q3 _ _ h)
    have htp3:=q3 _ _ htp2
    have hz3:(upd H2 pz (.lst [])) pz=some (.lst []):=ae
    have npm:pz ≠ m:=(aw A2.mem npz).symm
    have npd:pz ≠ d:=(aw A2.mj npz).symm
    have npr:pz ≠ r:=by obtain⟨dx,h⟩:=A2.ob;exact (aw h npz).symm
    generalize (upd H2 pz (.lst []))=H3 at q3 s3 A3 hz3 htp3
    have c0ok:(iq ps).1 < ps.length/\dn xs (iq ps).2:=by
      unfold iq
      split
      · exact⟨hn0,dn.zero⟩
      · exact⟨hn0,nT pok⟩
    refine⟨fun fu σ H'=>∃ (ms:List (PyData × Addr)) (cs:List Cp) (outs:List Piece) (zs:List V) (u1 u2 u3 u4 u5 u6:Option V),σ = [some (.ref pp),some (.int (most:Nat)),some (.ref tp),some (.ref r),some (.ref pz),u1,u2,u3,u4,u5,u6]/\ij P w CR H' r m d ms/\nh ms cs/\jD ps.length most cs/\(∀ c ∈ cs,c.1 < ps.length/\dn xs c.2)/\H' pz=some (.lst zs)/\bh H' zs (outs.map fc)/\gm (cX ps) most ps fu cs outs=fO ps most/\fu+outs.length=most+ps.length/\outs.length<=cs.length/\H' tp=some (.tup (vN hs))/\au H H',⟨most+ps.length,[(d0,ka)],[iq ps],[],[],_,_,_,_,_,_,rfl,A3,cc2,⟨by simp,Nat.le_trans (List.length_filter_le _ _) hm1⟩,(fun c hc=>by rw [List.mem_singleton.mp hc];exact c0ok),hz3,.nil,rfl,rfl,Nat.zero_le _,htp3,s3⟩,?_⟩
    clear A2 A3 hz3 s3 q3 htp3 cc2 cd0 npz htp2 s2
    rintro fu σ H4 ⟨ms,cs,outs,zs,u1,u2,u3,u4,u5,u6,rfl,A4,cc4,rE,hcs,hz4,rz4,hloop,hfu,hoc,htp4,s4⟩
    obtain⟨dx4,hob4⟩:=A4.ob
    have hzl:zs.length=outs.length:=by have:=rz4.len;rw [List.length_map] at this;exact this
    have hml:ms.length=cs.length:=by have:=Paired.length cc4;rw [List.length_map] at this;exact this
    have hml':(ms.map fun p=>V.ref p.2).length=ms.length:=List.length_map ..
    have hcn:=rE.len fun c hc=>(hcs c hc).1
    refine⟨_,rfl,pz,_,rfl,.inl (aU.of hz4),_,rfl,r,CR,dx4,_,_,rfl,hob4,TR.cl,TR.members,ig,m,_,rfl,.inl (aU.of A4.mem),_,_,rfl,rfl,_,rfl,?_⟩
    refine dX (fun hc=>?_) (fun hc=>?_)
    · have hlt:outs.length < ms.length:=by have:=of_decide_eq_true hc;omega
      obtain⟨fu,rfl⟩:∃ f',fu=f' + 1:=⟨fu - 1,by omega⟩
      have hmsi:ms[outs.length]? = some ms[outs.length]:=by simp [hlt]
      generalize ms[outs.length] = pm at hmsi
      obtain⟨c,hci,cd⟩:=iP cc4 (i:=outs.length) (x:=pm.1) (by rw [List.getElem?_map,hmsi];rfl)
      have hcm:=List.mem_of_getElem? hci
      obtain⟨hcl,hct⟩:=hcs c hcm
      have hps:ps[c.1]? = some ps[c.1]:=by simp [hcl]
      generalize ps[c.1] = pce at hps
      rw [pf hci hps] at hloop
      obtain⟨ds,e⟩:=pce
      obtain⟨p',xs',pc,da,ea,ws,ep,e1',el',hx',e2,e3,r3,e4⟩:=fT hp hps
      cases ep
      rw [e1] at e1'
      cases e1'
      have dok:=pok.iX _ (List.mem_of_getElem? hps)
      have eok:=pok.ends _ (List.mem_of_getElem? hps)
      obtain⟨fd,hfd,epm⟩:=id cd
      have rdm:=(A4.keys pm (List.mem_of_getElem? hmsi)).2
      rw [epm] at rdm
      obtain⟨pa,pvs,ere,hpm,rpv⟩:=aS.cx rdm
      cases ere
      obtain⟨y1,t1,rfl,q1,rpv⟩:=rpv.cons_inv
      obtain⟨y2,t2,rfl,q2,rpv⟩:=rpv.cons_inv
      have z:=rpv.nil_inv
      subst z
      rw [q1.int_inv] at hpm
      have fv2:FV H4 y2 c.2:=hfd.fv q2
      refine⟨_,fun σ' H' h=>⟨fu,Nat.lt_succ_self fu,h⟩,?_⟩
      refine⟨_,rfl,r,CR,dx4,_,_,rfl,hob4,TR.cl,TR.members,ig,_,rfl,pz,_,rfl,.inl (aU.of hz4),m,_,_,_,rfl,rfl,aU.of A4.mem,bw (j:=zs.length) (by rw [hzl,List.getElem?_map,hmsi];rfl),pm.2,_,rfl,ay.of hpm,rfl,_,_,rfl,_,_,rfl,rfl,?_⟩
      refine⟨_,rfl,_,rfl,pp,_,_,_,rfl,rfl,ay.of (s4 _ _ e1),bw hx',pc,_,rfl,ay.of (s4 _ _ e2),rfl,_,_,rfl,_,_,rfl,rfl,?_⟩
      have bok:=hct.wI dok.2
      refine⟨_,rfl,_,rfl,y2,da,ws,ds,c.2,10,rfl,fv2,s4 _ _ e3,r3.same s4 (bX ds),(fun ss hs nd=>Nat.le_trans (hct.bG ss hs nd) hx10),(by have:ds.length<=6:=dok.1;omega),fun gv H5 g5 s5=>⟨_,rfl,gv,ea,cA c.2 ds,e,rfl,g5,s5 _ _ (s4 _ _ e4),(fun ss hs nd=>Nat.le_trans (bok.bG ss hs nd) (by omega)),fun at_ vs2 H6 hat pv s6=>?_⟩⟩
      have lok:=vy bok eok
      obtain⟨hll,hl2⟩:=t9 (e:=e) bok
      have s46:=s5.trans s6
      have A6:=A4.mv cc4.jR (fun c o h _=>s46 c o h) (fun p zs h=>s46 _ _ h)
      have hz6:=s46 _ _ hz4
      have htp6:=s46 _ _ htp4
      have hvl:vs2.length=(cS (cA c.2 ds) e).length:=Paired.length pv
      generalize hls:cS (cA c.2 ds) e=ls at hloop lok hll hl2 pv hvl
      refine⟨_,rfl,at_,rfl,⟨_,ay.of hat⟩,fun acc na=>?_⟩
      have nam:acc ≠ m:=(aw A6.mem na).symm
      have nad:acc ≠ d:=(aw A6.mj na).symm
      have nar:acc ≠ r:=by obtain⟨dx,h⟩:=A6.ob;exact (aw h na).symm
      have kb:∀ {H':Hp},kH m d H6 H'->∀ p zs,H6 p=some (.tup zs)->H' p=some (.tup zs):=fun b p zs h=>b p _ h (bA h A6.mem (by intro z;cases z)) (bA h A6.mj (by intro z;cases z))
      refine j7 (K:=K) (a:=at_) (xs:=vs2) (fun i ys τ H'=>∃ (cv:Option V) (ms':List (PyData × Addr)),τ = [cv,some (.ref r),some (.ref tp),some (.int (most:Nat))]/\ij P w CR H' r m d ms'/\nh ms' (bU (cX ps) most cs (ls.take i)).1/\ys=vN (bU (cX ps) most cs (ls.take i)).2/\H' acc=some (.lst ys)/\kH m d H6 H') ?_ ?_ ?_ ?_
      · have qn:=au.new (o:=.lst []) na
        exact⟨none,ms,rfl,A6.mv cc4.jR (fun c o h _=>qn c o h) (fun p zs h=>qn _ _ h),cc4,rfl,ae,kH.of_same qn⟩
      · rintro i ys τ H7 hi ⟨cv,ms',rfl,A7,cc7,rfl,ha,b7⟩
        refine⟨ay.of (kb b7 _ _ hat),ha,bL ?_⟩
        obtain⟨_,_,hlen,_⟩:=iQ (tops:=cX ps) (ls:=ls.take i) (ns:=[]) rE hcs fun c hc=>lok c (List.mem_of_mem_take hc)
        rw [List.length_map]
        unfold bU
        rw [hlen,List.length_take]
        show 0+_<=_
        omega
      · rintro i y ys τ H7 hi ⟨cv,ms',rfl,A7,cc7,rfl,ha,b7⟩
        obtain⟨pr,hpr,qa,u,rfl,hq,fvu⟩:=iP pv hi
        obtain⟨k,U⟩:=pr
        obtain⟨hkl,hUok⟩:=lok _ (List.mem_of_getElem? hpr)
        obtain⟨cok7,hcs7,_,_⟩:=iQ (tops:=cX ps) (ls:=ls.take i) (ns:=[]) rE hcs fun c hc=>lok c (List.mem_of_mem_take hc)
        have hcn7:=jD.len cok7 fun c hc=>(hcs7 c hc).1
        have hml7:ms'.length=(bU (cX ps) most cs (ls.take i)).1.length:=by have:=Paired.length cc7;rw [List.length_map] at this;exact this
        have hnx:=uz (cX ps) most (cs:=cs) hpr
        have fvu7:=fvu.bb (kb b7)
        obtain⟨fdu,hfdu,ru⟩:=fvu7.fd
        have hq7:=kb b7 _ _ hq
        have cdl:CD (k,U) (.tuple [.int (k:Nat),fdu]):=⟨fdu,hfdu,rfl⟩
        obtain⟨dx7,hob7⟩:=A7.ob
        have htp7:=kb b7 _ _ htp6
        refine dC ?_
        refine jv ?_
        refine cm ?_
        refine⟨_,rfl,r,dx7,_,rfl,hob7,tT,_,rfl,_,rfl,_,rfl,r,CR,dx7,_,_,rfl,hob7,TR.cl,TR.places,iO,_,rfl,qa,tp,d,most,k,U,_,hs,u,ms',_,cX ps,rfl,hq7,.tup hq7 (.cons (.int _) (.cons ru .nil)),cdl,hUok.lay nok,htp7,hhs,A7.mj,A7.j2,cc7,fun a d' H8 rd' cd' s8=>?_⟩
        have A8:=A7.mv cc7.jR (fun c o h _=>s8 c o h) (fun p zs h=>s8 _ _ h)
        have hcpok:dn xs (bE (cX ps) most (bU (cX ps) most cs (ls.take i)).1 (k,U)).2:=by
          unfold bE
          split
          · exact dn.zero
          · split
            · exact hUok
            · exact dn.zero
        refine⟨r,m,d,a,d',ms',rfl,A8,(by rw [hml7];unfold bU;omega),cd'.key (hcpok.lay nok),rd',cd'.jR,cc7.jR,fun H9 A9 b9=>?_⟩
        have ha9:=b9 _ _ (s8 _ _ ha) nam nad
        have cc9:=nh.put (a:=a) cc7 cd'
        have eix:=(cd'.mem cc9).2
        rw [eix]
        refine⟨ha9,_,kL ms' d' a,rfl,?_,?_,?_,ae,fun c' o h c1 c2=>?_⟩
        · refine A9.mv cc9.jR (fun x o h z=>?_) (fun p zs h=>by rw [ai (bA h ha9 (by intro z;cases z))];exact h)
          rw [ai ?_]
          · exact h
          · rcases z with rfl | rfl | rfl
            · exact nar.symm
            · exact nam.symm
            · exact nad.symm
        · rw [hnx];exact cc9
        · rw [hnx]
          show _=((bU (cX ps) most cs (ls.take i)).2 ++ [_]).map _
          rw [List.map_append]
          rfl
        · rw [ai (aw h na)]
          exact b9 c' o (s8 _ _ (b7 c' o h c1 c2)) c1 c2
      rintro ys τ H7 ⟨cv,ms',rfl,A7,cc7,rfl,ha,b7⟩
      rw [hvl,List.take_length] at cc7 ha
      obtain⟨cok7,hcs7,hlen7,more,emore⟩:=iQ (tops:=cX ps) (ls:=ls) (ns:=[]) rE hcs lok
      have hcn7:=jD.len cok7 fun c hc=>(hcs7 c hc).1
      have s7:au H H7:=fun c o h=>b7 c o (s46 c o (s4 c o h)) (aw h nm) (aw h nd)
      have hz7:H7 pz=some (.lst zs):=b7 _ _ hz6 npm npd
      have hlen7':(bU (cX ps) most cs ls).2.length=ls.length:=by unfold bU;rw [hlen7];show 0+_=_;omega
      refine⟨_,rfl,.inl ⟨rfl,_,aU.of hz7⟩,_,rfl,_,rfl,_,rfl,ea,acc,e,(bU (cX ps) most cs ls).2,rfl,s7 _ _ e4,ha,(by rw [hlen7'];exact hll),(by rw [hlen7'];exact hl2),fun t3 H8 ht3 s8=>⟨ln2,fun t4 nt4=>?_⟩⟩
      have q4:=au.new (o:=.tup [.ref da,.ref t3]) nt4
      have s79:=s8.trans q4
      have ht9:=q4 _ _ ht3
      have h49:(upd H8 t4 (.tup [.ref da,.ref t3])) t4=some (.tup [.ref da,.ref t3]):=ae
      generalize (upd H8 t4 (.tup [.ref da,.ref t3]))=H9 at q4 s79 ht9 h49
      have hz9:=s79 _ _ hz7
      refine⟨pz,_,_,rfl,rfl,hz9,bL (by omega),?_⟩
      have kt:∀ p xs,H9 p=some (.tup xs)->(upd H9 pz (.lst (zs ++ [.ref t4]))) p=some (.tup xs):=fun p xs h=>by rw [ai (bA h hz9 (by intro z;cases z))];exact h
      have s9:=s7.trans s79
      have kt49:∀ p xs,H4 p=some (.tup xs)->(upd H9 pz (.lst (zs ++ [.ref t4]))) p=some (.tup xs):=fun p xs h=>kt _ _ (s79 _ _ (kb b7 _ _ (s46 _ _ h)))
      refine⟨ms',(bU (cX ps) most cs ls).1,outs ++ [(ds,kO e (bU (cX ps) most cs ls).2)],_,_,_,_,_,_,_,rfl,A7.mv cc7.jR (fun x o h z=>?_) (fun p zs h=>kt _ _ (s79 _ _ h)),cc7,cok7,hcs7,ae,?_,hloop,(by rw [List.length_append];show fu+(_+1)=_;omega),?_,kt49 _ _ htp4,s9.put npzH⟩
      · rw [ai ?_]
        · exact s79 _ _ h
        · rcases z with rfl | rfl | rfl
          · exact npr.symm
          · exact npm.symm
          · exact npd.symm
      · rw [List.map_append]
        have rd4:aS H9 (.ref t4) (fc (ds,kO e (bU (cX ps) most cs ls).2)):=.tup h49 (.cons (.tup (s9 _ _ e3) (r3.same s9 (bX ds))) (.cons (CI ht9) .nil))
        exact bh.app (rz4.bb kt49 (cb outs)) (rd4.bb kt (jt _))
      · have:(bU (cX ps) most cs ls).1.length=cs.length+more.length:=by unfold bU;rw [emore,List.length_append]
        rw [this,List.length_append]
        show _+1<=_
        omega
    · have hnl:¬ outs.length < ms.length:=fun z=>hc (decide_eq_true (by omega))
      rw [rD (List.getElem?_eq_none (by omega))] at hloop
      rw [<-hloop] at q
      refine⟨_,rfl,pz,_,rfl,.inl ⟨aU.of hz4,fun t1 n1=>?_⟩⟩
      have q1:=au.new (o:=.tup zs) n1
      refine⟨_,rfl,r,CR,dx4,_,_,rfl,q1 _ _ hob4,TR.cl,TR.members,ig,m,_,rfl,.inl ⟨aU.of (q1 _ _ A4.mem),fun t2 n2=>⟨ln2,fun t3 n3=>?_⟩⟩⟩
      have q2:=au.new (o:=.tup (ms.map fun p=>V.ref p.2)) n2
      have q3:=au.new (o:=.tup [.ref t1,.ref t2]) n3
      have q13:=(q1.trans q2).trans q3
      refine q (.ref t3) (ms.map (·.1)) _ cc4 (.tup ae (.cons (.tup (q3 _ _ (q2 _ _ ae)) (rz4.same q13 (cb outs))) (.cons (.tup (q3 _ _ ae) (vz fun p hp=>(A4.keys p hp).2.same q13 (cc4.jR p hp))) .nil))) (s4.trans q13)
theorem ug {f:Addr} {fd:FuncData} (F:bQ K "answer_of" "answer_of" fH f fd) (Z:Bl mg) (O_part_of:Own P w K mg base "part_of" 3 ["stretch", "word", "number", "side"] (mN K)):bc P w K mg base bO 4 f fd ["stretch", "word", "number"] vZ:=by
  refine F.ok (k:=3) ud (fun vs H Q E h=>?_) (fun cdv A outer s H vs Q E hr h=>?_)
  · obtain⟨p,w,n,lo,hi,rfl,_⟩:=h
    rfl
  · obtain⟨p,w,n,lo,hi,rfl,hp,q⟩:=h
    refine⟨_,(ah (bp (gJ (hX (aB O_part_of (hr.mono (by decide)) rfl (aa (pv 0) (aa (pv 1) (aa (pv 2) (aa hV af)))))))
      (av (aF aW))
      aX)
      (ah (bp (gJ (hX (aB O_part_of (hr.mono (by decide)) rfl (aa (pv 0) (aa (pv 1) (aa (pv 2) (aa hV af)))))))
      (av (aF aW))
      aX)
      (av (aF aW)))),?_⟩
    refine⟨_,rfl,_,rfl,_,rfl,p,w,n,false,lo,hi,rfl,ay.of hp,fun v H1 r s1=>⟨_,rfl,?_⟩⟩
    cases e:cR w lo hi n false with
    | none =>
      rw [e] at r
      cases (show v=V.bI from r)
      exact cm (by have q':=q H1 s1;rw [e] at q';exact q')
    | some ab =>
      rw [e] at r
      obtain⟨a,b⟩:=ab
      obtain⟨l,rfl,hl⟩:=r
      refine cB ?_
      refine⟨_,rfl,_,rfl,_,rfl,p,w,n,true,lo,hi,rfl,ay.of (s1 _ _ hp),fun v2 H2 r2 s2=>⟨_,rfl,?_⟩⟩
      cases e2:cR w lo hi n true with
      | none =>
        rw [e2] at r2
        cases (show v2=V.bI from r2)
        exact cm (by have q':=q H2 (s1.trans s2);rw [e,e2] at q';exact q')
      | some cd =>
        rw [e2] at r2
        obtain⟨c,d⟩:=cd
        obtain⟨l2,rfl,hl2⟩:=r2
        exact cB (by have q':=q H2 (s1.trans s2);rw [e,e2] at q';exact q')
theorem qC {f:Addr} {fd:FuncData} (F:bQ K "worth" "Stand.worth" eT f fd) (Z:Bl mg) {C:Addr} (T:jL K C)  : bc P w K mg base bO 1 f fd ["self", "name"] (mE C):=by
 refine F.ok (k:=0) qA (fun vs H Q E h=>?_) (fun cdv A outer s H vs Q E hr h=>?_)
 ·obtain⟨p,pl,d,nl,sl,plv,nums,S,m,x,rfl,_⟩:=h
  rfl
 ·obtain⟨p,pl,d,nl,sl,plv,nums,S,m,x,rfl,A,q⟩:=h
  refine⟨_,(av (aF (fo (dH hr) (bK (pv 0) rfl) (pv 1) ao ⟨rfl,rfl,rfl,rfl⟩))),?_⟩
  obtain⟨dx,hob⟩:=A.ob
  obtain⟨kvs,hd,dw,hk⟩:=A.dict
  exact⟨_,rfl,p,C,dx,_,_,rfl,hob,T.cl,T.fU,iM,d,rfl,.inl ⟨kvs,.inl hd⟩,_,rfl,_,_,eX.k (k:=Sum.inr x) hd,dw x,q⟩
theorem pI {f:Addr} {fd:FuncData} (F:bQ K "coming" "Stand.coming" eu f fd) (Z:Bl mg) {C:Addr} (T:jL K C)  : bc P w K mg base bO 1 f fd ["self"] (nI C):=by
 refine F.ok (k:=0) ip (fun vs H Q E h=>?_) (fun cdv A outer s H vs Q E hr h=>?_)
 ·obtain⟨p,pl,d,nl,sl,plv,nums,S,m,ps,ds,e,rfl,_⟩:=h
  rfl
 ·obtain⟨p,pl,d,nl,sl,plv,nums,S,m,ps,ds,e,rfl,A,hp,hx,q⟩:=h
  refine⟨_,(ah (cL (dh (aC aM (bK (pv 0) rfl) (aC bY (bK (pv 0) rfl) (Ae xj ao) (fun _ _=>rfl)) (fun _ _=>rfl)) (dz rfl (aR (aG (i:=1) ip.nd rfl (Or.inl rfl)) (aR (aG (i:=2) ip.nd rfl (Or.inl rfl)) cO)))))
   (av (aF (dW (aH gQ (bK (pv 0) rfl) (bC bx rfl Z.len cK (aa (pv 1) af)) (aO _)) (aC aM (pv 1) (bK (pv 0) rfl) (fun _ _=>rfl)) (pv 2))))),?_⟩
  obtain⟨dx,hob⟩:=A.ob
  obtain⟨pp,xs,pc,da,ea,vs,rfl,e1,el,hx',e2,e3,r3,e4⟩:=fT hp hx
  have hvl:vs.length=ds.length:=by rw [r3.len,List.length_map]
  refine⟨fun σ' H'=>σ' = [some (.ref p),some (.ref da),some (.ref ea)]/\H=H',⟨_,rfl,p,C,dx,_,_,rfl,hob,T.cl,T.pieces,qS,_,rfl,p,C,dx,_,_,rfl,hob,T.cl,T.dE,jK,_,rfl,pl,_,_,_,rfl,rfl,aU.of A.dE,A.vc,pp,xs,_,_,rfl,rfl,ay.of e1,bw hx',pc,_,rfl,ay.of e2,rfl,_,_,rfl,_,_,rfl,rfl,rfl,rfl⟩,?_⟩
  rintro σ' H' ⟨rfl,rfl⟩
  refine⟨_,rfl,p,C,dx,_,_,rfl,hob,T.cl,T.place,fq,_,rfl,da,_,rfl,.inr (ay.of e3),_,_,rfl,rfl,_,rfl,?_⟩
  refine dX (fun hc=>?_) (fun hc=>?_)
  ·have hlt:S.place < vs.length:=by have:=of_decide_eq_true hc;omega
   have hdd:ds[S.place]? = some (ds[S.place]'(by omega)):=by simp [show S.place < ds.length by omega]
   generalize hde:ds[S.place]'(by omega)=dd at hdd
   obtain⟨v,hv,rd⟩:=r3.get (i:=S.place) (d:=cq dd) (by rw [List.getElem?_map,hdd];rfl)
   obtain⟨dp,rfl,hdp⟩:=j8 rd
   exact⟨_,rfl,_,rfl,p,C,dx,_,_,rfl,hob,T.cl,T.place,fq,da,_,_,_,rfl,rfl,ay.of e3,bw hv,q _ (.lT dd dp hdd rfl hdp)⟩
  ·have hge:¬ S.place < vs.length:=fun z=>hc (decide_eq_true (by omega))
   exact⟨_,rfl,q _ (.end_ ea (by simp;omega) rfl e4)⟩
theorem kn {f:Addr} {fd:FuncData} (F:bQ K "lacks_number" "Stand.lacks_number" cG f fd) (Z:Bl mg) {C:Addr} (T:jL K C) (O_Stand_coming:eG P w K mg base C "coming" 1 ["self"] (nI C)):bc P w K mg base bO 2 f fd ["self"] (p6 C):=by
 refine F.ok (k:=1) kj (fun vs H Q E h=>?_) (fun cdv A outer s H vs Q E hr h=>?_)
 ·obtain⟨p,pl,d,nl,sl,plv,nums,S,m,ps,rfl,_⟩:=h
  rfl
 ·obtain⟨p,pl,d,nl,sl,plv,nums,S,m,ps,rfl,A,hp,hpc,q⟩:=h
  refine⟨_,(av (aF (xc (ir bR (aC aM (jx O_Stand_coming (pv 0) (hr.mono (by decide))) ao (fun _ _=>rfl)) aW (aO _)) (lB (ir bR (bK (pv 0) rfl) (bC bx rfl Z.len cK (aa (bK (pv 0) rfl) af)) (aO _)))))),?_⟩
  obtain⟨dx,hob⟩:=A.ob
  have hx:ps[S.aY]? = some ps[S.aY]:=by simp [hpc]
  generalize hpe:ps[S.aY] = pe at hx
  obtain⟨ds,e⟩:=pe
  unfold gf at q
  rw [hx] at q
  dsimp only at q
  refine⟨_,rfl,p,dx,_,rfl,hob,xI,p,pl,d,nl,sl,plv,nums,S,m,ps,ds,e,rfl,A,hp,hx,fun v hv=>?_⟩
  cases hv with
  | lT dd w h hv hw =>
   subst hv
   rw [h] at q
   dsimp only at q
   cases dd
   case read x =>
    refine⟨w,_,0,_,rfl,rfl,ay.of hw,bH,rfl,_,rfl,?_⟩
    refine bW (show decide (V.str "read" = V.str "read")=true by decide +kernel) ?_
    refine⟨_,rfl,p,C,dx,_,_,rfl,hob,T.cl,T.taken,nH,_,rfl,p,C,dx,_,_,rfl,hob,T.cl,T.p5,oN,nl,_,rfl,.inl (aU.of A.nums),rfl,?_⟩
    have ez:decide (V.int (S.taken:Int)=V.int ((nums.map V.int).length:Nat))=(j9 (.read x) && decide (S.taken=nums.length)):=by
     rw [uQ,List.length_map]
     show _=decide (S.taken=nums.length)
     by_cases hh:S.taken=nums.length
     ·rw [hh];simp
     ·rw [decide_eq_false hh]
      exact beq_false_of_ne fun z=>hh (by omega)
    rw [ez]
    exact q
   case put x n =>
    refine⟨w,_,0,_,rfl,rfl,ay.of hw,bH,rfl,_,rfl,?_⟩
    exact aN (show decide (V.str "put" = V.str "read")=false by decide +kernel) q
   case copy x n =>
    refine⟨w,_,0,_,rfl,rfl,ay.of hw,bH,rfl,_,rfl,?_⟩
    exact aN (show decide (V.str "copy" = V.str "read")=false by decide +kernel) q
   case add x n =>
    refine⟨w,_,0,_,rfl,rfl,ay.of hw,bH,rfl,_,rfl,?_⟩
    exact aN (show decide (V.str "add" = V.str "read")=false by decide +kernel) q
   case tell x =>
    refine⟨w,_,0,_,rfl,rfl,ay.of hw,bH,rfl,_,rfl,?_⟩
    exact aN (show decide (V.str "tell" = V.str "read")=false by decide +kernel) q
  | end_ w h hv hw =>
   subst hv
   rw [h] at q
   dsimp only at q
   cases e
   case stop =>
    refine⟨w,_,0,_,rfl,rfl,ay.of hw,bH,rfl,_,rfl,?_⟩
    exact aN (show decide (V.str "stop" = V.str "read")=false by decide +kernel) q
   case go x =>
    refine⟨w,_,0,_,rfl,rfl,ay.of hw,bH,rfl,_,rfl,?_⟩
    exact aN (show decide (V.str "go" = V.str "read")=false by decide +kernel) q
   case cC b x n u v =>
    refine⟨w,_,0,_,rfl,rfl,ay.of hw,bH,rfl,_,rfl,?_⟩
    refine aN ?_ q
    cases b
    ·show decide (V.str "is" = V.str "read")=false
     decide +kernel
    ·show decide (V.str "less" = V.str "read")=false
     decide +kernel
theorem oa {f:Addr} {fd:FuncData} (F:bQ K "is_held" "Stand.is_held" dN f fd) (Z:Bl mg) {C:Addr} (T:jL K C) (O_Stand_lacks_number:eG P w K mg base C "lacks_number" 2 ["self"] (p6 C)):bc P w K mg base bO 3 f fd ["self"] (tq C):=by
 refine F.ok (k:=2) nX (fun vs H Q E h=>?_) (fun cdv A outer s H vs Q E hr h=>?_)
 ·obtain⟨p,pl,d,nl,sl,plv,nums,S,m,ps,rfl,_⟩:=h
  rfl
 ·obtain⟨p,pl,d,nl,sl,plv,nums,S,m,ps,rfl,A,hp,hpc,q⟩:=h
  refine⟨_,(av (aF (vE (bK (pv 0) rfl) (lB (jx O_Stand_lacks_number (pv 0) (hr.mono (by decide))))))),?_⟩
  obtain⟨dx,hob⟩:=A.ob
  unfold eN at q
  refine⟨_,rfl,p,C,dx,_,_,rfl,hob,T.cl,T.over,va,_,rfl,?_⟩
  cases ho:decide (S.word=("stop" : Str)) with
  | true =>
   refine bW rfl ?_
   rw [ho] at q
   exact q
  | false =>
   refine aN rfl ?_
   rw [ho] at q
   exact⟨_,rfl,p,dx,_,rfl,hob,oO,p,pl,d,nl,sl,plv,nums,S,m,ps,rfl,A,hp,hpc,q⟩
theorem kU {f:Addr} {fd:FuncData} (F:bQ K "take_number" "Stand.take_number" cI f fd) (Z:Bl mg) {C:Addr} (T:jL K C)  : bc P w K mg base bO 1 f fd ["self"] (p7 C):=by
 refine F.ok (k:=0) kS (fun vs H Q E h=>?_) (fun cdv A outer s H vs Q E hr h=>?_)
 ·obtain⟨p,pl,d,nl,sl,plv,nums,S,m,n,rfl,_⟩:=h
  rfl
 ·obtain⟨p,pl,d,nl,sl,plv,nums,S,m,n,rfl,A,hn,q⟩:=h
  refine⟨_,(ah (qG (pv 0) ao xn)
   (av (aF (aC bY (bK (pv 0) rfl) (br gM (bK (pv 0) rfl) ao) (fun _ _=>rfl))))),?_⟩
  obtain⟨dx,hob⟩:=A.ob
  refine⟨_,rfl,p,C,dx,_,_,rfl,hob,T.cl,T.taken,nH,_,_,rfl,rfl,dx,_,hob,(by show 8 < 1000;decide),?_⟩
  have A1:bo C (upd H p (.ins C dx (cu "taken" (.int ((S.taken:Int)+1)) (eV plv (.ref pl) (.int S.place) (.ref d) (.ref nl) (.int S.taken) (.ref sl) (.bl (decide (S.word = "stop"))))))) p pl d nl sl plv nums { S with taken:=S.taken+1 } m :=
   A.obj (by rw [zd];rfl) rfl rfl rfl rfl
  have q1:=q _ A1 bV.jM
  clear q
  revert A1 q1
  generalize (upd H p (.ins C dx (cu "taken" (.int ((S.taken:Int)+1)) (eV plv (.ref pl) (.int S.place) (.ref d) (.ref nl) (.int S.taken) (.ref sl) (.bl (decide (S.word = "stop")))))))=H1
  intro A1 q1
  obtain⟨dx1,hob1⟩:=A1.ob
  refine⟨_,rfl,p,C,dx1,_,_,rfl,hob1,T.cl,T.p5,oN,_,rfl,p,C,dx1,_,_,rfl,hob1,T.cl,T.taken,nH,_,_,rfl,rfl,nl,_,_,_,rfl,rfl,aU.of A1.nums,?_,q1⟩
  have e1:(((S.taken+1:Nat):Int) - 1)=(S.taken:Nat):=by omega
  show fD (nums.map V.int) (((S.taken+1:Nat):Int) - 1)=some (V.int n)
  rw [e1]
  exact bw (by rw [List.getElem?_map,hn];rfl)
theorem og {f:Addr} {fd:FuncData} (F:bQ K "do_deed" "Stand.do_deed" dP f fd) (Z:Bl mg) {C:Addr} (T:jL K C) (O_Stand_worth:eG P w K mg base C "worth" 1 ["self", "name"] (mE C)) (O_Stand_take_number:eG P w K mg base C "take_number" 1 ["self"] (p7 C)):bc P w K mg base bO 2 f fd ["self", "deed"] (nJ C):=by
  refine F.ok (k:=1) jF (fun vs H Q E h=>?_) (fun cdv A outer s H vs Q E hr h=>?_)
  · obtain⟨p,pl,d,nl,sl,w,plv,nums,S,m,dd,rfl,_⟩:=h
    rfl
  · obtain⟨p,pl,d,nl,sl,w,plv,nums,S,m,dd,rfl,A,hw,hrd,hm,q⟩:=h
    refine⟨_,(ah (cL (xf (i:=2) (j:=3) rfl jF.nd rfl rfl (by decide) rfl rfl (aa (aC aM (pv 1) ao (fun _ _=>rfl)) (aa (aC aM (pv 1) ao (fun _ _=>rfl)) af)) rfl))
      (ah (bp (aH bR (pv 2) aW (aO _))
      (av (fE (dH hr) (bK (pv 0) rfl) (pv 3) (aC aM (pv 1) ao (fun _ _=>rfl)) rfl))
      (av (bp (aH bR (pv 2) aW (aO _))
      (av (fE (dH hr) (bK (pv 0) rfl) (pv 3) (gd O_Stand_worth (pv 0) (hr.mono (by decide)) (aa (aC aM (pv 1) ao (fun _ _=>rfl)) af)) rfl))
      (av (bp (aH bR (pv 2) aW (aO _))
      (av (fE (dH hr) (bK (pv 0) rfl) (pv 3) (br cV (gd O_Stand_worth (pv 0) (hr.mono (by decide)) (aa (pv 3) af)) (aC aM (pv 1) ao (fun _ _=>rfl))) rfl))
      (av (bp (aH bR (pv 2) aW (aO _))
      (av (fE (dH hr) (bK (pv 0) rfl) (pv 3) (jx O_Stand_take_number (pv 0) (hr.mono (by decide))) rfl))
      (av (cE (fY PySem.F.plainAttrs_list PySem.F.slot_list_append PySem.F.type_list_append d9 (bK (pv 0) rfl) (aa (gd O_Stand_worth (pv 0) (hr.mono (by decide)) (aa (pv 3) af)) af)))))))))))
      (av (qG (pv 0) ao xn)))),?_⟩
    obtain⟨dx,hob⟩:=A.ob
    obtain⟨kvs,hd,dw,hk⟩:=A.dict
    cases dd
    case put x n =>
        refine⟨fun σ' H'=>σ' = [some (.ref p),some (.ref w),some (.str "put"),some (.str x)]/\H=H',⟨_,rfl,w,_,0,_,rfl,rfl,ay.of hw,bH,_,rfl,w,_,1,_,rfl,rfl,ay.of hw,dB,_,_,rfl,rfl,rfl⟩,?_⟩
        rintro σ' H' ⟨rfl,rfl⟩
        refine⟨_,rfl,rfl,_,rfl,?_⟩
        refine bW (show decide (V.str "put" = V.str "put")=true by decide +kernel) ?_
        refine⟨_,rfl,w,_,2,_,rfl,rfl,ay.of hw,at2,_,rfl,p,C,dx,_,_,rfl,hob,T.cl,T.fU,iM,_,rfl,d,_,rfl,ib.k (k:=Sum.inr x) hd (cy (by omega)),?_⟩
        have A1:=A.fU (x:=x) (n:=n) hd dw hk
        obtain⟨dx1,hob1⟩:=A1.ob
        refine⟨_,rfl,p,C,dx1,_,_,rfl,hob1,T.cl,T.place,fq,_,_,rfl,rfl,dx1,_,hob1,(by show 8 < 1000;decide),?_⟩
        exact q _ (A1.obj (by rw [ix];rfl) rfl rfl rfl rfl) (bV.iZ.trans bV.jM)
    case copy x y =>
        refine⟨fun σ' H'=>σ' = [some (.ref p),some (.ref w),some (.str "copy"),some (.str x)]/\H=H',⟨_,rfl,w,_,0,_,rfl,rfl,ay.of hw,bH,_,rfl,w,_,1,_,rfl,rfl,ay.of hw,dB,_,_,rfl,rfl,rfl⟩,?_⟩
        rintro σ' H' ⟨rfl,rfl⟩
        refine⟨_,rfl,rfl,_,rfl,?_⟩
        refine aN (show decide (V.str "copy" = V.str "put")=false by decide +kernel) ?_
        refine⟨_,rfl,rfl,_,rfl,?_⟩
        refine bW (show decide (V.str "copy" = V.str "copy")=true by decide +kernel) ?_
        refine⟨_,rfl,p,dx,_,rfl,hob,kB,_,rfl,w,_,2,_,rfl,rfl,ay.of hw,at2,p,pl,d,nl,sl,plv,nums,S,m,y,rfl,A,_,rfl,p,C,dx,_,_,rfl,hob,T.cl,T.fU,iM,_,rfl,d,_,rfl,ib.k (k:=Sum.inr x) hd (cy (by omega)),?_⟩
        have A1:=A.fU (x:=x) (n:=S.w y) hd dw hk
        obtain⟨dx1,hob1⟩:=A1.ob
        refine⟨_,rfl,p,C,dx1,_,_,rfl,hob1,T.cl,T.place,fq,_,_,rfl,rfl,dx1,_,hob1,(by show 8 < 1000;decide),?_⟩
        exact q _ (A1.obj (by rw [ix];rfl) rfl rfl rfl rfl) (bV.iZ.trans bV.jM)
    case add x n =>
        refine⟨fun σ' H'=>σ' = [some (.ref p),some (.ref w),some (.str "add"),some (.str x)]/\H=H',⟨_,rfl,w,_,0,_,rfl,rfl,ay.of hw,bH,_,rfl,w,_,1,_,rfl,rfl,ay.of hw,dB,_,_,rfl,rfl,rfl⟩,?_⟩
        rintro σ' H' ⟨rfl,rfl⟩
        refine⟨_,rfl,rfl,_,rfl,?_⟩
        refine aN (show decide (V.str "add" = V.str "put")=false by decide +kernel) ?_
        refine⟨_,rfl,rfl,_,rfl,?_⟩
        refine aN (show decide (V.str "add" = V.str "copy")=false by decide +kernel) ?_
        refine⟨_,rfl,rfl,_,rfl,?_⟩
        refine bW (show decide (V.str "add" = V.str "add")=true by decide +kernel) ?_
        refine⟨_,rfl,p,dx,_,rfl,hob,kB,_,rfl,p,pl,d,nl,sl,plv,nums,S,m,x,rfl,A,_,rfl,w,_,2,_,rfl,rfl,ay.of hw,at2,_,_,rfl,rfl,_,rfl,p,C,dx,_,_,rfl,hob,T.cl,T.fU,iM,_,rfl,d,_,rfl,ib.k (k:=Sum.inr x) hd (cy (by omega)),?_⟩
        have A1:=A.fU (x:=x) (n:=S.w x+n) hd dw hk
        obtain⟨dx1,hob1⟩:=A1.ob
        refine⟨_,rfl,p,C,dx1,_,_,rfl,hob1,T.cl,T.place,fq,_,_,rfl,rfl,dx1,_,hob1,(by show 8 < 1000;decide),?_⟩
        exact q _ (A1.obj (by rw [ix];rfl) rfl rfl rfl rfl) (bV.iZ.trans bV.jM)
    case read x =>
        refine⟨fun σ' H'=>σ' = [some (.ref p),some (.ref w),some (.str "read"),some (.str x)]/\H=H',⟨_,rfl,w,_,0,_,rfl,rfl,ay.of hw,bH,_,rfl,w,_,1,_,rfl,rfl,ay.of hw,dB,_,_,rfl,rfl,rfl⟩,?_⟩
        rintro σ' H' ⟨rfl,rfl⟩
        have hlt:=hrd rfl
        have hn:nums[S.taken]? = some nums[S.taken]:=by simp [hlt]
        generalize nums[S.taken] = n at hn
        have es:gc nums S (.read x) = { S with w:=cT S.w x n,taken:=S.taken+1,place:=S.place+1 }:=by
          unfold gc
          rw [hn]
        rw [es] at q
        refine⟨_,rfl,rfl,_,rfl,?_⟩
        refine aN (show decide (V.str "read" = V.str "put")=false by decide +kernel) ?_
        refine⟨_,rfl,rfl,_,rfl,?_⟩
        refine aN (show decide (V.str "read" = V.str "copy")=false by decide +kernel) ?_
        refine⟨_,rfl,rfl,_,rfl,?_⟩
        refine aN (show decide (V.str "read" = V.str "add")=false by decide +kernel) ?_
        refine⟨_,rfl,rfl,_,rfl,?_⟩
        refine bW (show decide (V.str "read" = V.str "read")=true by decide +kernel) ?_
        refine⟨_,rfl,p,dx,_,rfl,hob,p4,p,pl,d,nl,sl,plv,nums,S,m,n,rfl,A,hn,fun H1 A1 b1=>?_⟩
        obtain⟨dx1,hob1⟩:=A1.ob
        obtain⟨kvs1,hd1,dw1,hk1⟩:=A1.dict
        refine⟨_,rfl,p,C,dx1,_,_,rfl,hob1,T.cl,T.fU,iM,_,rfl,d,_,rfl,ib.k (k:=Sum.inr x) hd1 (cy (by omega)),?_⟩
        have A2:=A1.fU (x:=x) (n:=n) hd1 dw1 hk1
        obtain⟨dx2,hob2⟩:=A2.ob
        refine⟨_,rfl,p,C,dx2,_,_,rfl,hob2,T.cl,T.place,fq,_,_,rfl,rfl,dx2,_,hob2,(by show 8 < 1000;decide),?_⟩
        exact q _ (A2.obj (by rw [ix];rfl) rfl rfl rfl rfl) ((b1.trans bV.iZ).trans bV.jM)
    case tell x =>
        refine⟨fun σ' H'=>σ' = [some (.ref p),some (.ref w),some (.str "tell"),some (.str x)]/\H=H',⟨_,rfl,w,_,0,_,rfl,rfl,ay.of hw,bH,_,rfl,w,_,1,_,rfl,rfl,ay.of hw,dB,_,_,rfl,rfl,rfl⟩,?_⟩
        rintro σ' H' ⟨rfl,rfl⟩
        refine⟨_,rfl,rfl,_,rfl,?_⟩
        refine aN (show decide (V.str "tell" = V.str "put")=false by decide +kernel) ?_
        refine⟨_,rfl,rfl,_,rfl,?_⟩
        refine aN (show decide (V.str "tell" = V.str "copy")=false by decide +kernel) ?_
        refine⟨_,rfl,rfl,_,rfl,?_⟩
        refine aN (show decide (V.str "tell" = V.str "add")=false by decide +kernel) ?_
        refine⟨_,rfl,rfl,_,rfl,?_⟩
        refine aN (show decide (V.str "tell" = V.str "read")=false by decide +kernel) ?_
        refine⟨_,rfl,p,C,dx,_,_,rfl,hob,T.cl,T.eI,lS,.inl ⟨rfl,_,aU.of A.eI⟩,_,rfl,p,dx,_,rfl,hob,kB,_,rfl,p,pl,d,nl,sl,plv,nums,S,m,x,rfl,A,sl,_,_,rfl,rfl,A.eI,(by rw [List.length_map];exact cy (by have:=A.bG.1;omega)),?_⟩
        have A1:=A.Dc (n:=S.w x)
        obtain⟨dx1,hob1⟩:=A1.ob
        refine⟨_,rfl,p,C,dx1,_,_,rfl,hob1,T.cl,T.place,fq,_,_,rfl,rfl,dx1,_,hob1,(by show 8 < 1000;decide),?_⟩
        exact q _ (A1.obj (by rw [ix];rfl) rfl rfl rfl rfl) (bV.Cu.trans bV.jM)
theorem oh {f:Addr} {fd:FuncData} (F:bQ K "come_to" "Stand.come_to" dQ f fd) (Z:Bl mg) {C:Addr} (T:jL K C)  : bc P w K mg base bO 1 f fd ["self", "piece"] (tm C):=by
 refine F.ok (k:=0) nY (fun vs H Q E h=>?_) (fun cdv A outer s H vs Q E hr h=>?_)
 ·obtain⟨p,pl,d,nl,sl,plv,nums,S,m,n,rfl,_⟩:=h
  rfl
 ·obtain⟨p,pl,d,nl,sl,plv,nums,S,m,n,rfl,A,hm,q⟩:=h
  refine⟨_,(ah (cE (fY PySem.F.plainAttrs_list PySem.F.slot_list_append PySem.F.type_list_append d9 (bK (pv 0) rfl) (aa (pv 1) af)))
   (av (fC (pv 0) ao rfl))),?_⟩
  obtain⟨dx,hob⟩:=A.ob
  refine⟨_,rfl,p,C,dx,_,_,rfl,hob,T.cl,T.dE,jK,.inl ⟨rfl,_,aU.of A.dE⟩,_,rfl,pl,_,_,rfl,rfl,A.dE,(by rw [List.length_map];exact cy (by have:=A.bG.2;omega)),?_⟩
  have A1:=A.DX (q:=n)
  obtain⟨dx1,hob1⟩:=A1.ob
  refine⟨_,rfl,p,C,dx1,_,rfl,hob1,T.cl,T.place,(by show 8 < 1000;decide),?_⟩
  exact q _ (A1.obj (by rw [ix];rfl) rfl rfl rfl rfl) (bV.Ct.trans bV.jM)
theorem pJ {f:Addr} {fd:FuncData} (F:bQ K "do_end" "Stand.do_end" eB f fd) (Z:Bl mg) {C:Addr} (T:jL K C) (O_Stand_worth:eG P w K mg base C "worth" 1 ["self", "name"] (mE C)) (O_Stand_come_to:eG P w K mg base C "come_to" 1 ["self", "piece"] (tm C)) (O_answer_of:Own P w K mg base "answer_of" 4 ["stretch", "word", "number"] vZ):bc P w K mg base bO 5 f fd ["self", "end"] (p8 C):=by
  refine F.ok (k:=4) cZ (fun vs H Q E h=>?_) (fun cdv A outer s H vs Q E hr h=>?_)
  · obtain⟨p,pl,d,nl,sl,w,plv,nums,S,m,e,rfl,_⟩:=h
    rfl
  · obtain⟨p,pl,d,nl,sl,w,plv,nums,S,m,e,rfl,A,hw,hm,q⟩:=h
    refine⟨_,(av (bp (aH bR (aC aM (pv 1) ao (fun _ _=>rfl)) aW (aO _))
      (av (fC (pv 0) hV rfl))
      (av (bp (aH bR (aC aM (pv 1) ao (fun _ _=>rfl)) aW (aO _))
      (av (cE (gd O_Stand_come_to (pv 0) (hr.mono (by decide)) (aa (aC aM (pv 1) ao (fun _ _=>rfl)) af))))
      (ah (cL (dh (pv 1) (dz rfl (aR (aG (i:=2) cZ.nd rfl (Or.inl rfl)) (aR (aG (i:=3) cZ.nd rfl (Or.inl rfl)) (aR (aG (i:=4) cZ.nd rfl (Or.inl rfl)) (aR (aG (i:=5) cZ.nd rfl (Or.inl rfl)) (aR (aG (i:=6) cZ.nd rfl (Or.inl rfl)) cO))))))))
      (ah (aQ (i:=7) cZ.nd rfl (Or.inl rfl) (gd O_Stand_worth (pv 0) (hr.mono (by decide)) (aa (pv 3) af)))
      (av (cE (gd O_Stand_come_to (pv 0) (hr.mono (by decide)) (aa (dW (aH bR (aB O_answer_of (hr.mono (by decide)) rfl (aa (bB (aa (pv 7) (aa (pv 7) af))) (aa (pv 2) (aa (pv 4) af)))) aW (aO _)) (pv 5) (pv 6)) af)))))))))),?_⟩
    obtain⟨dx,hob⟩:=A.ob
    cases e
    case stop =>
      refine⟨_,rfl,w,_,0,_,rfl,rfl,ay.of hw,bH,rfl,_,rfl,?_⟩
      refine bW (show decide (V.str "stop" = V.str "stop")=true by decide +kernel) ?_
      refine⟨_,rfl,p,C,dx,_,rfl,hob,T.cl,T.over,(by show 8 < 1000;decide),?_⟩
      refine q _ (bo.mono (m:=m) (A.obj ?_ rfl rfl rfl rfl) (Nat.le_succ m)) bV.jM
      rw [AU]
      exact congrArg (fun b=>eV plv (.ref pl) (.int S.place) (.ref d) (.ref nl) (.int S.taken) (.ref sl) (V.bl b)) (show true=decide (("stop" : Str) = "stop") by decide +kernel)
    case go n =>
      refine⟨_,rfl,w,_,0,_,rfl,rfl,ay.of hw,bH,rfl,_,rfl,?_⟩
      refine aN (show decide (V.str "go" = V.str "stop")=false by decide +kernel) ?_
      refine⟨_,rfl,w,_,0,_,rfl,rfl,ay.of hw,bH,rfl,_,rfl,?_⟩
      refine bW (show decide (V.str "go" = V.str "go")=true by decide +kernel) ?_
      exact⟨_,rfl,p,dx,_,rfl,hob,oP,_,rfl,w,_,1,_,rfl,rfl,ay.of hw,dB,p,pl,d,nl,sl,plv,nums,S,m,n,rfl,A,hm,fun H1 A1 b1=>q _ A1 b1⟩
    case cC b x n u v =>
      refine⟨_,rfl,w,_,0,_,rfl,rfl,ay.of hw,bH,rfl,_,rfl,?_⟩
      refine aN (by cases b;(show decide (V.str "is" = V.str "stop")=false;decide +kernel);(show decide (V.str "less" = V.str "stop")=false;decide +kernel)) ?_
      refine⟨_,rfl,w,_,0,_,rfl,rfl,ay.of hw,bH,rfl,_,rfl,?_⟩
      refine aN (by cases b;(show decide (V.str "is" = V.str "go")=false;decide +kernel);(show decide (V.str "less" = V.str "go")=false;decide +kernel)) ?_
      refine⟨fun σ' H'=>σ' = [some (.ref p),some (.ref w),some (.str (wT b)),some (.str x),some (.int n),some (.int u),some (.int v),none]/\H=H',⟨_,rfl,w,_,rfl,ay.of hw,rfl,_,_,rfl,_,_,rfl,_,_,rfl,_,_,rfl,_,_,rfl,rfl,rfl,rfl⟩,?_⟩
      rintro σ' H' ⟨rfl,rfl⟩
      refine⟨_,rfl,p,dx,_,rfl,hob,kB,_,rfl,p,pl,d,nl,sl,plv,nums,S,m,x,rfl,A,?_⟩
      refine⟨_,rfl,p,dx,_,rfl,hob,oP,_,rfl,_,rfl,ln2,fun t ht=>⟨_,rfl,_,rfl,t,wT b,n,some (S.w x),some (S.w x),rfl,ae,fun H1 s1=>⟨rfl,_,rfl,?_⟩⟩⟩
      have s2:au H H1:=(au.new ht).trans s1
      have A1:=A.same s2
      cases hc:dD b (S.w x) n with
      | true =>
        refine bW (by rw [xQ,if_pos hc];decide +kernel) ?_
        refine⟨_,rfl,p,pl,d,nl,sl,plv,nums,S,m,u,rfl,A1,hm,fun H2 A2 b2=>q _ ?_ ((bV.of_same s2).trans b2)⟩
        simp only [iY,hc,if_true]
        exact A2
      | false =>
        refine aN (by rw [xQ,hc];decide +kernel) ?_
        refine⟨_,rfl,p,pl,d,nl,sl,plv,nums,S,m,v,rfl,A1,hm,fun H2 A2 b2=>q _ ?_ ((bV.of_same s2).trans b2)⟩
        simp only [iY,hc,Bool.false_eq_true,if_false]
        exact A2
theorem oi {f:Addr} {fd:FuncData} (F:bQ K "do_step" "Stand.do_step" dU f fd) (Z:Bl mg) {C:Addr} (T:jL K C) (O_Stand_do_deed:eG P w K mg base C "do_deed" 2 ["self", "deed"] (nJ C)) (O_Stand_do_end:eG P w K mg base C "do_end" 5 ["self", "end"] (p8 C)):bc P w K mg base bO 6 f fd ["self"] (nK C):=by
 refine F.ok (k:=5) gS (fun vs H Q E h=>?_) (fun cdv A outer s H vs Q E hr h=>?_)
 ·obtain⟨p,pl,d,nl,sl,plv,nums,S,m,ps,rfl,_⟩:=h
  rfl
 ·obtain⟨p,pl,d,nl,sl,plv,nums,S,m,ps,rfl,A,hp,hpc,htk,hlk,hm,q⟩:=h
  refine⟨_,(ah (cL (dh (aC aM (bK (pv 0) rfl) (aC bY (bK (pv 0) rfl) (Ae xj ao) (fun _ _=>rfl)) (fun _ _=>rfl)) (dz rfl (aR (aG (i:=1) gS.nd rfl (Or.inl rfl)) (aR (aG (i:=2) gS.nd rfl (Or.inl rfl)) cO)))))
   (av (bp (aH gQ (bK (pv 0) rfl) (bC bx rfl Z.len cK (aa (pv 1) af)) (aO _))
   (av (cE (gd O_Stand_do_deed (pv 0) (hr.mono (by decide)) (aa (aC aM (pv 1) (bK (pv 0) rfl) (fun _ _=>rfl)) af))))
   (av (cE (gd O_Stand_do_end (pv 0) (hr.mono (by decide)) (aa (pv 2) af))))))),?_⟩
  obtain⟨dx,hob⟩:=A.ob
  have hx:ps[S.aY]? = some ps[S.aY]:=by simp [hpc]
  generalize hpe:ps[S.aY] = pe at hx
  obtain⟨ds,e⟩:=pe
  obtain⟨pp,xs,pc,da,ea,vs,rfl,e1,el,hx',e2,e3,r3,e4⟩:=fT hp hx
  have hvl:vs.length=ds.length:=by rw [r3.len,List.length_map]
  refine⟨fun σ' H'=>σ' = [some (.ref p),some (.ref da),some (.ref ea)]/\H=H',⟨_,rfl,p,C,dx,_,_,rfl,hob,T.cl,T.pieces,qS,_,rfl,p,C,dx,_,_,rfl,hob,T.cl,T.dE,jK,_,rfl,pl,_,_,_,rfl,rfl,aU.of A.dE,A.vc,pp,xs,_,_,rfl,rfl,ay.of e1,bw hx',pc,_,rfl,ay.of e2,rfl,_,_,rfl,_,_,rfl,rfl,rfl,rfl⟩,?_⟩
  rintro σ' H' ⟨rfl,rfl⟩
  refine⟨_,rfl,p,C,dx,_,_,rfl,hob,T.cl,T.place,fq,_,rfl,da,_,rfl,.inr (ay.of e3),_,_,rfl,rfl,_,rfl,?_⟩
  refine dX (fun hc=>?_) (fun hc=>?_)
  ·have hlt:S.place < vs.length:=by have:=of_decide_eq_true hc;omega
   have hdd:ds[S.place]? = some (ds[S.place]'(by omega)):=by simp [show S.place < ds.length by omega]
   generalize hde:ds[S.place]'(by omega)=dd at hdd
   obtain⟨v,hv,rd⟩:=r3.get (i:=S.place) (d:=cq dd) (by rw [List.getElem?_map,hdd];rfl)
   obtain⟨dp,rfl,hdp⟩:=j8 rd
   rw [iL hx hdd] at q
   have hrd:j9 dd=true->S.taken < nums.length:=fun hr=>by
    unfold gf at hlk
    rw [hx] at hlk
    dsimp only at hlk
    rw [hdd] at hlk
    dsimp only at hlk
    rw [hr] at hlk
    have:¬ S.taken=nums.length:=of_decide_eq_false (by simpa using hlk)
    omega
   exact⟨_,rfl,p,dx,_,rfl,hob,v7,_,rfl,_,rfl,p,C,dx,_,_,rfl,hob,T.cl,T.place,fq,da,_,_,_,rfl,rfl,ay.of e3,bw hv,p,pl,d,nl,sl,dp,_,nums,S,m,dd,rfl,A,hdp,hrd,hm,q⟩
  ·have hge:¬ S.place < vs.length:=fun z=>hc (decide_eq_true (by omega))
   rw [jw hx (by simp;omega)] at q
   exact⟨_,rfl,p,dx,_,rfl,hob,xJ,_,rfl,p,pl,d,nl,sl,ea,_,nums,S,m,e,rfl,A,e4,hm,q⟩
theorem mU {f:Addr} {fd:FuncData} (F:bQ K "__init__" "Stand.__init__" dt f fd) (Z:Bl mg) {C:Addr} (T:jL K C)  : bc P w K mg base bO 1 f fd ["self", "pieces", "begin", "worths", "numbers"] (mG C):=by
 refine F.ok (k:=0) mS (fun vs H Q E h=>?_) (fun cdv A outer s H vs Q E hr h=>?_)
 ·obtain⟨p,dx,d0,np,plv,pc,kvs,w,nums,rfl,_⟩:=h
  rfl
 ·obtain⟨p,dx,d0,np,plv,pc,kvs,w,nums,rfl,hp,hd0,dw,hnp,q⟩:=h
  refine⟨_,(ah (cL (fC (pv 0) (pv 1) rfl))
   (ah (cL (fC (pv 0) (cP (aa (pv 2) af)) rfl))
   (ah (cL (fC (pv 0) ao rfl))
   (ah (cL (fC (pv 0) (bg tj rfl Z.dict mD (aa (pv 3) af)) rfl))
   (ah (cL (fC (pv 0) (bg lJ rfl Z.list uV (aa (pv 4) af)) rfl))
   (ah (cL (fC (pv 0) ao rfl))
   (ah (cL (fC (pv 0) (cP af) rfl))
   (av (cL (fC (pv 0) hV rfl)))))))))),?_⟩
  have h0:=hp
  have k0:∀ c o,H c=some o->c ≠ p->H c=some o:=fun _ _ e _=>e
  refine⟨fun σ' H1=>σ' = [some (.ref p),some plv,some (.int pc),some (.ref d0),some (.ref np)]/\H1 p=some (.ins C dx [("pieces",plv)])/\(∀ c o,H c=some o->c ≠ p->H1 c=some o),⟨_,rfl,_,rfl,p,C,dx,_,rfl,h0,T.cl,T.pieces,(by show 0 < 1000;decide),rfl,(by rw [ae,xK]),fun c o e n=>by rw [ai n];exact k0 c o e n⟩,?_⟩
  clear k0 h0
  rintro σ' H1 ⟨rfl,h0,k0⟩
  refine⟨fun σ' H1=>σ' = [some (.ref p),some plv,some (.int pc),some (.ref d0),some (.ref np)]/\∃ (pl:Addr),H1 p=some (.ins C dx [("pieces",plv),("passed",V.ref pl)])/\(∀ c o,H c=some o->c ≠ p->H1 c=some o)/\H pl=none/\pl ≠ p/\H1 pl=some (.lst [.int pc]),⟨_,rfl,xA,fun pl hn=>⟨_,rfl,p,C,dx,_,rfl,(by rw [ai (aw h0 hn)];exact h0),T.cl,T.dE,(by show 1 < 1000;decide),rfl,pl,(by rw [ae,xM]),fun c o e n=>eY (k0 c o e n) n hn,(d5 k0 h0 hn).1,(d5 k0 h0 hn).2,(by rw [ai (d5 k0 h0 hn).2,ae])⟩⟩,?_⟩
  clear k0 h0
  rintro σ' H1 ⟨rfl,pl,h0,k0,n_pl,m_pl,h_pl⟩
  refine⟨fun σ' H1=>σ' = [some (.ref p),some plv,some (.int pc),some (.ref d0),some (.ref np)]/\∃ (pl:Addr),H1 p=some (.ins C dx [("pieces",plv),("passed",V.ref pl),("place",V.int 0)])/\(∀ c o,H c=some o->c ≠ p->H1 c=some o)/\H pl=none/\pl ≠ p/\H1 pl=some (.lst [.int pc]),⟨_,rfl,p,C,dx,_,rfl,h0,T.cl,T.place,(by show 2 < 1000;decide),rfl,pl,(by rw [ae,ze]),fun c o e n=>by rw [ai n];exact k0 c o e n,n_pl,m_pl,(by rw [ai m_pl];exact h_pl)⟩,?_⟩
  clear k0 h0 n_pl m_pl h_pl
  rintro σ' H1 ⟨rfl,pl,h0,k0,n_pl,m_pl,h_pl⟩
  refine⟨fun σ' H1=>σ' = [some (.ref p),some plv,some (.int pc),some (.ref d0),some (.ref np)]/\∃ (pl d:Addr),H1 p=some (.ins C dx [("pieces",plv),("passed",V.ref pl),("place",V.int 0),("worths",V.ref d)])/\(∀ c o,H c=some o->c ≠ p->H1 c=some o)/\H pl=none/\pl ≠ p/\H1 pl=some (.lst [.int pc])/\H d=none/\d ≠ p/\H1 d=some (.dK kvs),⟨_,rfl,d0,kvs,rfl,k0 d0 _ hd0 (bA hd0 hp (by intro z;cases z)),fun d hn=>⟨_,rfl,p,C,dx,_,rfl,(by rw [ai (aw h0 hn)];exact h0),T.cl,T.fU,(by show 3 < 1000;decide),rfl,pl,d,(by rw [ae,xN]),fun c o e n=>eY (k0 c o e n) n hn,n_pl,m_pl,eY h_pl m_pl hn,(d5 k0 h0 hn).1,(d5 k0 h0 hn).2,(by rw [ai (d5 k0 h0 hn).2,ae])⟩⟩,?_⟩
  clear k0 h0 n_pl m_pl h_pl
  rintro σ' H1 ⟨rfl,pl,d,h0,k0,n_pl,m_pl,h_pl,n_d,m_d,h_d⟩
  refine⟨fun σ' H1=>σ' = [some (.ref p),some plv,some (.int pc),some (.ref d0),some (.ref np)]/\∃ (pl d nl:Addr),H1 p=some (.ins C dx [("pieces",plv),("passed",V.ref pl),("place",V.int 0),("worths",V.ref d),("numbers",V.ref nl)])/\(∀ c o,H c=some o->c ≠ p->H1 c=some o)/\H pl=none/\pl ≠ p/\H1 pl=some (.lst [.int pc])/\H d=none/\d ≠ p/\H1 d=some (.dK kvs)/\H nl=none/\nl ≠ p/\H1 nl=some (.lst (nums.map V.int))/\pl ≠ nl,⟨_,rfl,np,_,rfl,.inr (ay.of (k0 np _ hnp (bA hnp hp (by intro z;cases z)))),fun nl hn=>⟨_,rfl,p,C,dx,_,rfl,(by rw [ai (aw h0 hn)];exact h0),T.cl,T.p5,(by show 4 < 1000;decide),rfl,pl,d,nl,(by rw [ae,v9]),fun c o e n=>eY (k0 c o e n) n hn,n_pl,m_pl,eY h_pl m_pl hn,n_d,m_d,eY h_d m_d hn,(d5 k0 h0 hn).1,(d5 k0 h0 hn).2,(by rw [ai (d5 k0 h0 hn).2,ae]),aw h_pl hn⟩⟩,?_⟩
  clear k0 h0 n_pl m_pl h_pl n_d m_d h_d
  rintro σ' H1 ⟨rfl,pl,d,nl,h0,k0,n_pl,m_pl,h_pl,n_d,m_d,h_d,n_nl,m_nl,h_nl,x1⟩
  refine⟨fun σ' H1=>σ' = [some (.ref p),some plv,some (.int pc),some (.ref d0),some (.ref np)]/\∃ (pl d nl:Addr),H1 p=some (.ins C dx [("pieces",plv),("passed",V.ref pl),("place",V.int 0),("worths",V.ref d),("numbers",V.ref nl),("taken",V.int 0)])/\(∀ c o,H c=some o->c ≠ p->H1 c=some o)/\H pl=none/\pl ≠ p/\H1 pl=some (.lst [.int pc])/\H d=none/\d ≠ p/\H1 d=some (.dK kvs)/\H nl=none/\nl ≠ p/\H1 nl=some (.lst (nums.map V.int))/\pl ≠ nl,⟨_,rfl,p,C,dx,_,rfl,h0,T.cl,T.taken,(by show 5 < 1000;decide),rfl,pl,d,nl,(by rw [ae,zf]),fun c o e n=>by rw [ai n];exact k0 c o e n,n_pl,m_pl,(by rw [ai m_pl];exact h_pl),n_d,m_d,(by rw [ai m_d];exact h_d),n_nl,m_nl,(by rw [ai m_nl];exact h_nl),x1⟩,?_⟩
  clear k0 h0 n_pl m_pl h_pl n_d m_d h_d n_nl m_nl h_nl x1
  rintro σ' H1 ⟨rfl,pl,d,nl,h0,k0,n_pl,m_pl,h_pl,n_d,m_d,h_d,n_nl,m_nl,h_nl,x1⟩
  refine⟨fun σ' H1=>σ' = [some (.ref p),some plv,some (.int pc),some (.ref d0),some (.ref np)]/\∃ (pl d nl sl:Addr),H1 p=some (.ins C dx [("pieces",plv),("passed",V.ref pl),("place",V.int 0),("worths",V.ref d),("numbers",V.ref nl),("taken",V.int 0),("spoken",V.ref sl)])/\(∀ c o,H c=some o->c ≠ p->H1 c=some o)/\H pl=none/\pl ≠ p/\H1 pl=some (.lst [.int pc])/\H d=none/\d ≠ p/\H1 d=some (.dK kvs)/\H nl=none/\nl ≠ p/\H1 nl=some (.lst (nums.map V.int))/\H sl=none/\sl ≠ p/\H1 sl=some (.lst [])/\pl ≠ nl/\pl ≠ sl/\nl ≠ sl,⟨(by show 0<=sizeLine;decide),fun sl hn=>⟨_,rfl,p,C,dx,_,rfl,(by rw [ai (aw h0 hn)];exact h0),T.cl,T.eI,(by show 6 < 1000;decide),rfl,pl,d,nl,sl,(by rw [ae,xO]),fun c o e n=>eY (k0 c o e n) n hn,n_pl,m_pl,eY h_pl m_pl hn,n_d,m_d,eY h_d m_d hn,n_nl,m_nl,eY h_nl m_nl hn,(d5 k0 h0 hn).1,(d5 k0 h0 hn).2,(by rw [ai (d5 k0 h0 hn).2,ae]),x1,aw h_pl hn,aw h_nl hn⟩⟩,?_⟩
  clear k0 h0 n_pl m_pl h_pl n_d m_d h_d n_nl m_nl h_nl x1
  rintro σ' H1 ⟨rfl,pl,d,nl,sl,h0,k0,n_pl,m_pl,h_pl,n_d,m_d,h_d,n_nl,m_nl,h_nl,n_sl,m_sl,h_sl,x1,x2,x3⟩
  refine⟨fun σ' H1=>σ' = [some (.ref p),some plv,some (.int pc),some (.ref d0),some (.ref np)]/\∃ (pl d nl sl:Addr),H1 p=some (.ins C dx [("pieces",plv),("passed",V.ref pl),("place",V.int 0),("worths",V.ref d),("numbers",V.ref nl),("taken",V.int 0),("spoken",V.ref sl),("over",V.bl false)])/\(∀ c o,H c=some o->c ≠ p->H1 c=some o)/\H pl=none/\pl ≠ p/\H1 pl=some (.lst [.int pc])/\H d=none/\d ≠ p/\H1 d=some (.dK kvs)/\H nl=none/\nl ≠ p/\H1 nl=some (.lst (nums.map V.int))/\H sl=none/\sl ≠ p/\H1 sl=some (.lst [])/\pl ≠ nl/\pl ≠ sl/\nl ≠ sl,⟨_,rfl,p,C,dx,_,rfl,h0,T.cl,T.over,(by show 7 < 1000;decide),rfl,pl,d,nl,sl,(by rw [ae,AV]),fun c o e n=>by rw [ai n];exact k0 c o e n,n_pl,m_pl,(by rw [ai m_pl];exact h_pl),n_d,m_d,(by rw [ai m_d];exact h_d),n_nl,m_nl,(by rw [ai m_nl];exact h_nl),n_sl,m_sl,(by rw [ai m_sl];exact h_sl),x1,x2,x3⟩,?_⟩
  clear k0 h0 n_pl m_pl h_pl n_d m_d h_d n_nl m_nl h_nl n_sl m_sl h_sl x1 x2 x3
  rintro σ' H1 ⟨rfl,pl,d,nl,sl,h0,k0,n_pl,m_pl,h_pl,n_d,m_d,h_d,n_nl,m_nl,h_nl,n_sl,m_sl,h_sl,x1,x2,x3⟩
  refine q pl d nl sl H1 ⟨⟨dx,?_⟩,h_pl,⟨[],rfl⟩,⟨kvs,h_d,dw,Nat.le_refl _⟩,h_nl,h_sl,⟨x1,x2,x3⟩,⟨Nat.zero_le _,Nat.le_add_left _ _⟩⟩ k0 n_pl n_d n_nl n_sl
  rw [h0]
  exact congrArg (fun b=>some (HO.ins C dx (eV plv (.ref pl) (.int 0) (.ref d) (.ref nl) (.int 0) (.ref sl) (V.bl b)))) (show false=decide (("on" : Str) = "stop") by decide +kernel)
theorem z7 {f:Addr} {fd:FuncData} (F:bQ K "go_on" "go_on" jf f fd) (Z:Bl mg) {C:Addr} (T:jL K C) (O_Stand_is_held:eG P w K mg base C "is_held" 3 ["self"] (tq C)) (O_Stand_do_step:eG P w K mg base C "do_step" 6 ["self"] (nK C)):bc P w K mg base bO 7 f fd ["stand", "steps"] (oQ C):=by
  refine F.ok (k:=6) nZ (fun vs H Q E h=>?_) (fun cdv A outer s H vs Q E hr h=>?_)
  · obtain⟨p,pl,d,nl,sl,plv,nums,S,m,n,ps,rfl,_⟩:=h
    rfl
  · obtain⟨p,pl,d,nl,sl,plv,nums,S,m,n,ps,rfl,A,hp,hin,hpc,htk,hm,q⟩:=h
    refine⟨_,(ah (aQ (i:=2) nZ.nd rfl (Or.inl rfl) ao)
      (ah (nu PassesOwn.never (PW.pt (oq (aH gQ (pv 2) (pv 1) (aO _)) (mB (BG (lu (jx O_Stand_is_held (pv 0) (hr.mono (by decide))))))))
      (ah (cE (jx O_Stand_do_step (pv 0) (hr.mono (by decide))))
      (av (BI (i:=2) nZ.nd rfl (Or.inl rfl) ao BJ))))
      (av (aF (pv 2))))),?_⟩
    refine⟨fun μ σ' H'=>∃ i:Nat,i + μ = n/\σ' = [some (.ref p),some (.int n),some (.int i)]/\bo C H' p pl d nl sl plv nums (du ps nums i S) (m+i)/\iy ps nums i S=i/\aS H' plv (df ps)/\bV p pl d sl H H',⟨n,0,by omega,rfl,A,rfl,hp,bV.refl _ _ _ _ _⟩,?_⟩
    rintro μ σ' H1 ⟨i,hi,rfl,A1,c1,p1,b1⟩
    have wi:=wa (ps:=ps) (nums:=nums) (S:=S) hin hpc htk i
    refine⟨_,rfl,_,rfl,_,_,rfl,rfl,_,rfl,?_⟩
    refine dX (fun hc=>?_) (fun hc=>?_)
    · have hlt:i < n:=by have:=of_decide_eq_true hc;omega
      obtain⟨dx,hob⟩:=A1.ob
      refine⟨_,rfl,p,dx,_,rfl,hob,v5,p,pl,d,nl,sl,plv,nums,_,_,ps,rfl,A1,p1,wi.1,_,rfl,?_⟩
      cases hh:eN ps nums (du ps nums i S) with
      | true =>
        refine aN rfl ?_
        have g:=kd hh (n - i)
        rw [show i+(n - i)=n by omega] at g
        have q':=q H1 (by rw [g.1,g.2,c1];exact A1) b1
        rw [g.2,c1] at q'
        exact⟨_,rfl,q'⟩
      | false =>
        refine bW rfl ?_
        have g:=xP hh
        have hl:gf ps nums (du ps nums i S)=false:=by
          unfold eN at hh
          cases hz:gf ps nums (du ps nums i S) with
          | false=>rfl
          | true=>rw [hz] at hh;simp at hh
        refine⟨_,fun σ2 H2 z=>⟨n - (i+1),by omega,z⟩,?_⟩
        refine⟨_,rfl,p,dx,_,rfl,hob,v8,p,pl,d,nl,sl,plv,nums,_,_,ps,rfl,A1,p1,wi.1,wi.2,hl,(by omega),fun H2 A2 b2=>?_⟩
        rw [<-g.1] at A2
        refine⟨_,rfl,_,_,rfl,rfl,?_⟩
        refine⟨i+1,by omega,rfl,A2,?_,A1.rd b2 p1 (cw ps),b1.trans b2⟩
        rw [g.2,c1]
    · have hge:i=n:=by
        have:¬ (i:Int) < (n:Int):=fun z=>hc (decide_eq_true z)
        omega
      subst hge
      refine aN rfl ?_
      have q':=q H1 (by rw [c1];exact A1) b1
      rw [c1] at q'
      exact⟨_,rfl,q'⟩
theorem yF {f:Addr} {fd:FuncData} (F:bQ K "run_at" "run_at" iE f fd) (Z:Bl mg) {C:Addr} (T:jL K C) (O_Stand___init__:pY P w K mg base C "Stand" 1 ["self", "pieces", "begin", "worths", "numbers"] (mG C)) (O_go_on:Own P w K mg base "go_on" 7 ["stand", "steps"] (oQ C)):bc P w K mg base bO 8 f fd ["plan", "piece", "worths", "numbers", "steps"] qd:=by
  refine F.ok (k:=7) jS (fun vs H Q E h=>?_) (fun cdv A outer s H vs Q E hr h=>?_)
  · obtain⟨d0,np,plv,pc,n,kvs,w,nums,ps,rfl,_⟩:=h
    rfl
  · obtain⟨d0,np,plv,pc,n,kvs,w,nums,ps,rfl,hp,hin,hpc,hd0,dw,hnp,hkl,hn,q⟩:=h
    refine⟨_,(ah (aQ (i:=5) jS.nd rfl (Or.inl rfl) (pZ O_Stand___init__ (hr.mono (by decide)) rfl (aa (pv 0) (aa (pv 1) (aa (pv 2) (aa (pv 3) af))))))
      (ah (aQ (i:=6) jS.nd rfl (Or.inl rfl) (aB O_go_on (hr.mono (by decide)) rfl (aa (pv 5) (aa (pv 4) af))))
      (ah (cL (aQ (i:=7) jS.nd rfl (Or.inl rfl) (dW (aH gQ (pv 6) (pv 4) (aO _)) aW aW)))
      (av (aF (bB (aa (dW (lu (bK (pv 5) rfl)) aW (pv 7)) (aa (bg bf rfl Z.tuple bZ (aa (bK (pv 5) rfl) af)) af)))))))),?_⟩
    refine⟨_,rfl,_,rfl,_,rfl,_,rfl,fun p dx nx ndx nex=>?_⟩
    have s0:au H (upd (upd H dx (.own p)) p (.ins C dx [])):=fun b o e=>by
      rw [ai (aw e nx),ai (aw e ndx)]
      exact e
    refine⟨p,dx,d0,np,plv,pc,kvs,w,nums,rfl,ae,s0 _ _ hd0,dw,s0 _ _ hnp,fun pl d nl sl H1 A1 k1 n1 n2 n3 n4=>⟨rfl,?_⟩⟩
    have s1:au H H1:=fun b o e=>k1 b o (s0 b o e) (aw e nx)
    have f1:∀ a,(upd (upd H dx (.own p)) p (.ins C dx [])) a=none->H a=none:=fun a z=>by
      cases hz:H a with
      | none=>rfl
      | some o=>rw [s0 a o hz] at z;cases z
    refine⟨_,rfl,_,rfl,p,pl,d,nl,sl,plv,nums,bF pc w,kvs.length,n,ps,rfl,A1,hp.same s1 (cw ps),hin,hpc,Nat.zero_le _,(by omega),fun H2 A2 b2=>?_⟩
    have s2:au H H2:=fun b o e=>b2 b o (s1 b o e) (aw e nx) (aw e (f1 _ n1)) (aw e (f1 _ n2)) (aw e (f1 _ n4))
    have gw:=qc (ps:=ps) (nums:=nums) (S:=bF pc w) hin hpc (Nat.zero_le _) rfl n
    have q2:∀ v H',aS H' v (.tuple [.str (if (du ps nums n (bF pc w)).word = "stop" then "stop" else if iy ps nums n (bF pc w) < n then "dry" else "on"),.tuple ((du ps nums n (bF pc w)).told.map PyData.int)])->au H H'->Q v H':=by
      intro v H' r s
      refine q v H' ?_ s
      unfold fV
      rcases gw with ⟨g1,g2,g3⟩ | ⟨g1,g2⟩ | ⟨g1,g2,g3,g4⟩
      · rw [g2,g3,if_neg (by rw [g1];decide +kernel),if_neg (Nat.lt_irrefl _)] at r
        rw [g1]
        exact r
      · rw [g2,if_pos g1] at r
        rw [g1]
        exact r
      · rw [g2,if_neg (by decide +kernel),if_pos g4] at r
        rw [g1]
        exact r
    clear q gw
    generalize du ps nums n (bF pc w)=G at A2 q2
    generalize iy ps nums n (bF pc w)=cn at A2 q2
    obtain⟨dx2,hob2⟩:=A2.ob
    refine⟨fun σ' H'=>σ' = [some plv,some (.int pc),some (.ref d0),some (.ref np),some (.int n),some (.ref p),some (.int cn),some (.str (if cn < n then "dry" else "on"))]/\H2=H',⟨_,rfl,_,rfl,_,_,rfl,rfl,_,rfl,dX (fun hc=>⟨?_,rfl⟩) (fun hc=>⟨?_,rfl⟩)⟩,?_⟩
    · have hlt:cn < n:=by have:=of_decide_eq_true hc;omega
      rw [if_pos hlt]
      rfl
    · have hge:¬ cn < n:=fun z=>hc (decide_eq_true (by omega))
      rw [if_neg hge]
      rfl
    rintro σ' H' ⟨rfl,rfl⟩
    refine⟨_,rfl,p,C,dx2,_,_,rfl,hob2,T.cl,T.over,va,_,rfl,?_⟩
    cases ho:decide (G.word=("stop" : Str)) with
    | true =>
      refine bW rfl ?_
      refine⟨_,rfl,p,C,dx2,_,_,rfl,hob2,T.cl,T.eI,lS,sl,_,rfl,.inl ⟨aU.of A2.eI,fun t ht=>⟨ln2,fun t2 ht2=>?_⟩⟩⟩
      rw [if_pos (of_decide_eq_true ho)] at q2
      exact q2 _ _ (.tup ae (.cons (.str _) (.cons (.tup (au.new ht2 _ _ ae) (ke _)) .nil))) (s2.trans ((au.new ht).trans (au.new ht2)))
    | false =>
      refine aN rfl ?_
      refine⟨_,rfl,_,rfl,p,C,dx2,_,_,rfl,hob2,T.cl,T.eI,lS,sl,_,rfl,.inl ⟨aU.of A2.eI,fun t ht=>⟨ln2,fun t2 ht2=>?_⟩⟩⟩
      rw [if_neg (of_decide_eq_false ho)] at q2
      exact q2 _ _ (.tup ae (.cons (.str _) (.cons (.tup (au.new ht2 _ _ ae) (ke _)) .nil))) (s2.trans ((au.new ht).trans (au.new ht2)))
theorem CO {f:Addr} {fd:FuncData} (F:bQ K "run" "run" mP f fd) (Z:Bl mg) (O_run_at:Own P w K mg base "run_at" 8 ["plan", "piece", "worths", "numbers", "steps"] qd):bc P w K mg base bO 9 f fd ["plan", "numbers", "steps"] wb:=by
 refine F.ok (k:=8) CN (fun vs H Q E h=>?_) (fun cdv A outer s H vs Q E hr h=>?_)
 ·obtain⟨np,plv,n,nums,ps,rfl,_⟩:=h
  rfl
 ·obtain⟨np,plv,n,nums,ps,rfl,hp,hin,hpc,hnp,hn,q⟩:=h
  refine⟨_,(av (aF (aB O_run_at (hr.mono (by decide)) rfl (aa (pv 0) (aa ao (aa nG (aa (pv 1) (aa (pv 2) af)))))))),?_⟩
  refine⟨_,rfl,fun d hd=>⟨_,rfl,_,rfl,d,np,plv,0,n,[],fun _=>0,nums,ps,rfl,hp.same (au.new hd) (cw ps),hin,hpc,ae,(fun x=>rfl),au.new hd _ _ hnp,Nat.zero_le _,hn,fun v H1 r s1=>?_⟩⟩
  exact q v H1 r ((au.new hd).trans s1)
theorem By {f:Addr} {fd:FuncData} (F:bQ K "seen" "seen" km f fd) (Z:Bl mg) {C:Addr} (T:jL K C) (O_Stand___init__:pY P w K mg base C "Stand" 1 ["self", "pieces", "begin", "worths", "numbers"] (mG C)) (O_go_on:Own P w K mg base "go_on" 7 ["stand", "steps"] (oQ C)):bc P w K mg base bO 8 f fd ["plan", "numbers", "steps"] tu:=by
  refine F.ok (k:=7) vB (fun vs H Q E h=>?_) (fun cdv A outer s H vs Q E hr h=>?_)
  · obtain⟨np,plv,n,nums,ps,rfl,_⟩:=h
    rfl
  · obtain⟨np,plv,n,nums,ps,rfl,hp,hin,hpc,hnp,hn,q⟩:=h
    refine⟨_,(ah (aQ (i:=3) vB.nd rfl (Or.inl rfl) (pZ O_Stand___init__ (hr.mono (by decide)) rfl (aa (pv 0) (aa ao (aa nG (aa (pv 1) af))))))
      (ah (cE (aB O_go_on (hr.mono (by decide)) rfl (aa (pv 3) (aa (pv 2) af))))
      (av (aF (bg bf rfl Z.tuple bZ (aa (bK (pv 3) rfl) af)))))),?_⟩
    refine⟨_,rfl,fun d0 hd0=>⟨_,rfl,fun p dx nx ndx nex=>?_⟩⟩
    have s0:au H (upd (upd (upd H d0 (.dK [])) dx (.own p)) p (.ins C dx [])):=fun b o e=>by
      have e1:=au.new (o:=.dK []) hd0 b o e
      rw [ai (aw e1 nx),ai (aw e1 ndx)]
      exact e1
    have hd1:(upd (upd (upd H d0 (.dK [])) dx (.own p)) p (.ins C dx [])) d0=some (.dK []):=by
      have e1:(upd H d0 (.dK [])) d0=some (.dK []):=ae
      rw [ai (aw e1 nx),ai (aw e1 ndx)]
      exact e1
    have nxH:H p=none:=by
      cases hz:H p with
      | none=>rfl
      | some o=>rw [au.new (o:=.dK []) hd0 p o hz] at nx;cases nx
    refine⟨p,dx,d0,np,plv,0,[],fun _=>0,nums,rfl,ae,hd1,(fun x=>rfl),s0 _ _ hnp,fun pl d nl sl H1 A1 k1 n1 n2 n3 n4=>⟨rfl,?_⟩⟩
    have s1:au H H1:=fun b o e=>k1 b o (s0 b o e) (aw e nxH)
    have f1:∀ a,(upd (upd (upd H d0 (.dK [])) dx (.own p)) p (.ins C dx [])) a=none->H a=none:=fun a z=>by
      cases hz:H a with
      | none=>rfl
      | some o=>rw [s0 a o hz] at z;cases z
    refine⟨_,rfl,_,rfl,p,pl,d,nl,sl,plv,nums,bF 0 (fun _=>0),0,n,ps,rfl,A1,hp.same s1 (cw ps),hin,hpc,Nat.zero_le _,(by omega),fun H2 A2 b2=>?_⟩
    have s2:au H H2:=fun b o e=>b2 b o (s1 b o e) (aw e nxH) (aw e (f1 _ n1)) (aw e (f1 _ n2)) (aw e (f1 _ n4))
    have eb:(du ps nums n (bF 0 fun _=>0)).aZ=(bD ps nums n (bF 0 fun _=>0)).aZ:=by
      rcases qc (ps:=ps) (nums:=nums) (S:=bF 0 fun _=>0) hin hpc (Nat.zero_le _) rfl n with ⟨g1,g2,g3⟩ | ⟨g1,g2⟩ | ⟨g1,g2,g3,g4⟩
      · rw [g2]
      · rw [g2]
      · rw [g1]
    obtain⟨dx2,hob2⟩:=A2.ob
    refine⟨_,rfl,p,C,dx2,_,_,rfl,hob2,T.cl,T.dE,jK,pl,_,rfl,.inl ⟨aU.of A2.dE,fun t ht=>?_⟩⟩
    refine q _ _ (.tup ae ?_) (s2.trans (au.new ht))
    rw [eb]
    exact vd _
theorem wW {f:Addr} {fd:FuncData} (F:bQ K "_law_bag" "_law_bag" hR f fd) (Z:Bl mg)  : bc P w K mg base bO 1 f fd ["script", "k"] (vV K):=by
 refine F.ok (k:=0) kT (fun vs H Q E h=>?_) (fun cdv A outer s H vs Q E hr h=>?_)
 ·obtain⟨a,ns,k,rfl,_⟩:=h
  rfl
 ·obtain⟨a,ns,k,rfl,hS,hk,q⟩:=h
  refine⟨_,(ah (aQ (i:=2) kT.nd rfl (Or.inl rfl) ao)
   (ah (bp (aH gQ (pv 1) (bC bx rfl Z.len cK (aa (pv 0) af)) (aO _))
   (av (aQ (i:=2) kT.nd rfl (Or.inl rfl) (br jl (aC bY (pv 0) (pv 1) (fun _ _=>rfl)) (br AQ (br ow ao ao) (br ow ao ao)))))
   aX)
   (ah (bp (aH gQ (pv 2) (br ow ao ao) (aO _))
   (av (aF (cP (aa ao (aa (br cV ao (br jl (br cV (br j3 (pv 2) ao) (br j3 ao (pv 1))) ao)) af)))))
   aX)
   (av (aF (cP (aa (pv 2) (aa (br cV ao (br jl (br cV (pv 2) (pv 1)) ao)) af)))))))),?_⟩
  refine⟨_,rfl,_,rfl,_,_,rfl,.inl hS,_,_,rfl,rfl,_,rfl,?_⟩
  refine dX (fun hc=>?_) (fun hc=>?_)
  ·have hl:k < ((ns.map V.int).length:Nat):=of_decide_eq_true hc
   obtain⟨v,hv,hm⟩:=vU hk hl
   obtain⟨z,_,rfl⟩:=List.mem_map.mp hm
   refine⟨_,rfl,_,rfl,_,_,_,_,rfl,rfl,hS,hv,10,60,rfl,rfl,⟨by decide,by decide,by decide⟩,10,60,rfl,rfl,⟨by decide,by decide,by decide⟩,_,_,rfl,rfl,(by unfold IntMulOk;decide +kernel),_,_,rfl,rfl,(show (0:Int) < 10 ^ (60:Int).toNat * 10 ^ (60:Int).toNat by decide +kernel),?_⟩
   refine⟨_,rfl,10,18,rfl,rfl,⟨by decide,by decide,by decide⟩,_,_,rfl,rfl,_,rfl,?_⟩
   refine dX (fun hd=>?_) (fun hd=>?_)
   ·refine⟨_,rfl,_,_,rfl,rfl,.inr ⟨by decide,by decide⟩,_,rfl,_,_,rfl,rfl,.inl ⟨by decide,by decide⟩,_,_,rfl,rfl,_,_,rfl,rfl,(show (0:Int) < 2147483646 by decide),_,_,rfl,rfl,ln2,fun p hp=>?_⟩
    exact q p _ hp ⟨_,_,ae,by omega,by omega⟩ (au.new hp)
   ·refine⟨_,rfl,_,rfl,_,rfl,_,_,rfl,rfl,_,_,rfl,rfl,(show (0:Int) < 2147483646 by decide),_,_,rfl,rfl,ln2,fun p hp=>?_⟩
    exact q p _ hp ⟨_,_,ae,by omega,by omega⟩ (au.new hp)
  ·refine⟨_,rfl,10,18,rfl,rfl,⟨by decide,by decide,by decide⟩,_,_,rfl,rfl,_,rfl,?_⟩
   refine dX (fun hd=>?_) (fun hd=>?_)
   ·refine⟨_,rfl,_,_,rfl,rfl,.inr ⟨by decide,by decide⟩,_,rfl,_,_,rfl,rfl,.inl ⟨by decide,by decide⟩,_,_,rfl,rfl,_,_,rfl,rfl,(show (0:Int) < 2147483646 by decide),_,_,rfl,rfl,ln2,fun p hp=>?_⟩
    exact q p _ hp ⟨_,_,ae,by omega,by omega⟩ (au.new hp)
   ·refine⟨_,rfl,_,rfl,_,rfl,_,_,rfl,rfl,_,_,rfl,rfl,(show (0:Int) < 2147483646 by decide),_,_,rfl,rfl,ln2,fun p hp=>?_⟩
    exact q p _ hp ⟨_,_,ae,by omega,by omega⟩ (au.new hp)
theorem uF {f:Addr} {fd:FuncData} (F:bQ K "_law_take" "_law_take" gy f fd) (Z:Bl mg)  : bc P w K mg base bO 1 f fd ["bag", "many"] gN:=by
 refine F.ok (k:=0) nq (fun vs H Q E h=>?_) (fun cdv A outer s H vs Q E hr h=>?_)
 ·obtain⟨b,m,rfl,_⟩:=h
  rfl
 ·obtain⟨b,m,rfl,⟨x,y,hb,h0,h1⟩,hm,q⟩:=h
  refine⟨_,(ah (bp (aH rW (aC bY (pv 0) ao (fun _ _=>rfl)) ao (aO _))
   (ah (aQ (i:=2) nq.nd rfl (Or.inl rfl) (br jl (aC bY (pv 0) ao (fun _ _=>rfl)) (pv 1)))
   (ah (dh (br y6 (aC bY (pv 0) ao (fun _ _=>rfl)) (pv 1)) (ou (pv 0) ao set_list))
   (av (aF (pv 2)))))
   aX)
   (ah (dh (br jl (br j3 (aC bY (pv 0) ao (fun _ _=>rfl)) ao) ao) (ou (pv 0) ao set_list))
   (av (aF (br jl (br uP (br jl (br j3 (aC bY (pv 0) ao (fun _ _=>rfl)) (aC bY (pv 0) ao (fun _ _=>rfl))) ao) ao) (pv 1)))))),?_⟩
  refine⟨_,rfl,b,_,0,_,rfl,rfl,aU.of hb,bH,_,_,rfl,rfl,_,rfl,?_⟩
  refine dX (fun hc=>?_) (fun hc=>?_)
  ·refine⟨_,rfl,b,_,0,_,rfl,rfl,aU.of hb,bH,_,rfl,_,_,rfl,rfl,hm.1,?_⟩
   refine⟨_,rfl,b,_,0,_,rfl,rfl,aU.of hb,bH,_,rfl,_,_,rfl,rfl,hm,_,rfl,b,_,0,0,rfl,rfl,hb,rfl,?_⟩
   refine⟨_,rfl,?_⟩
   exact q _ _ (Int.emod_nonneg _ (by have:=hm.1;omega)) (Int.emod_lt_of_pos _ hm.1) ⟨_,_,ae,h0,h1⟩ Fix.Ai
  ·refine⟨_,rfl,b,_,1,_,rfl,rfl,aU.of hb,dB,_,_,rfl,rfl,.inr ⟨by decide,by decide⟩,_,_,rfl,rfl,(show (0:Int) < 2147483647 by decide),_,rfl,b,_,1,1,rfl,rfl,hb,rfl,?_⟩
   refine⟨_,rfl,b,_,1,_,rfl,rfl,aU.of ae,dB,_,rfl,b,_,1,_,rfl,rfl,aU.of ae,dB,_,_,rfl,rfl,.inl ⟨by omega,by omega⟩,_,_,rfl,rfl,(show (0:Int) < 2147483629 by decide),_,_,rfl,rfl,⟨by decide,by decide⟩,_,rfl,_,_,rfl,rfl,hm.1,?_⟩
   exact q _ _ (Int.emod_nonneg _ (by have:=hm.1;omega)) (Int.emod_lt_of_pos _ hm.1) ⟨_,_,ae,by omega,by omega⟩ Fix.Ai
theorem uh {f:Addr} {fd:FuncData} (F:bQ K "_law_names" "_law_names" fI f fd) (Z:Bl mg) (O_law_take:Own P w K mg base "_law_take" 1 ["bag", "many"] gN):bc P w K mg base bO 2 f fd ["bag"] pV:=by
  refine F.ok (k:=1) dG (fun vs H Q E h=>?_) (fun cdv A outer s H vs Q E hr h=>?_)
  · obtain⟨b,rfl,_⟩:=h
    rfl
  · obtain⟨b,rfl,hB,q⟩:=h
    refine⟨_,(ah (aQ (i:=1) dG.nd rfl (Or.inr rfl) aW)
      (ah (aQ (i:=2) dG.nd rfl (Or.inl rfl) (br cV ao (aB O_law_take (hr.mono (by decide)) rfl (aa (pv 0) (aa ao af)))))
      (ah (nB (i:=3) ["k"] ["letters", "bag"] [1,0] rfl dG.nd rfl rfl rfl (fQ rfl Z.range (aa (br cV ao (aB O_law_take (hr.mono (by decide)) rfl (aa (pv 0) (aa ao af)))) af)) rfl (by decide +kernel) (by decide +kernel) (by decide +kernel) ⟨⟨rfl,.inl rfl,rfl⟩,⟨⟨rfl,.inl rfl,rfl⟩,True.intro⟩⟩ (fun _ _ _ _=>(aG (i:=0) (show ((["k"]:List Str)++(["letters", "bag"]:List Str)).Nodup by decide +kernel) rfl (Or.inl rfl) (hf:=Or.inr rfl))) (fun _ _ _ _=>fb) (fun _ _ _ _=>(aC xq (pv 1) (aB O_law_take (hr.mono (by decide)) rfl (aa (pv 2) (aa ao af))) (fun _ _=>rfl))))
      (ah (aQ (i:=4) dG.nd rfl (Or.inl rfl) (aB O_law_take (hr.mono (by decide)) rfl (aa (pv 0) (aa (bC bx rfl Z.len cK (aa (pv 3) af)) af))))
      (ah (aQ (i:=5) dG.nd rfl (Or.inl rfl) (cP af))
      (ah (gK PassesOwn.never rfl (fQ rfl Z.range (aa (pv 2) af)) (aG (i:=6) dG.nd rfl (Or.inl rfl))
      (ah (aQ (i:=7) dG.nd rfl (Or.inl rfl) (bg lJ rfl Z.list uV (aa (pv 3) af)))
      (ah (dh (aC xq (pv 1) (aB O_law_take (hr.mono (by decide)) rfl (aa (pv 0) (aa ao af))) (fun _ _=>rfl)) (ou (pv 7) (pv 4) set_list))
      (av (bp (aH sJ (fY PySem.F.plainAttrs_str PySem.F.slot_str_join PySem.F.type_str_join uZ aW (aa (pv 7) af)) (pv 5) (by with_unfolding_all rfl))
      (av (cE (fY PySem.F.plainAttrs_list PySem.F.slot_list_append PySem.F.type_list_append d9 (pv 5) (aa (fY PySem.F.plainAttrs_str PySem.F.slot_str_join PySem.F.type_str_join uZ aW (aa (pv 7) af)) af))))
      aX)))))
      (av (aF (pv 5))))))))),?_⟩
    refine⟨_,rfl,b,4,rfl,hB,⟨by decide,by decide +kernel⟩,fun m H1 m0 m1 B1 X1=>⟨_,_,rfl,rfl,?_⟩⟩
    refine⟨_,rfl,b,8,rfl,B1,⟨by decide,by decide +kernel⟩,fun k H2 k0 k1 B2 X2=>⟨_,_,rfl,rfl,_,rfl,(by omega),(by omega),fun acc na=>?_⟩⟩
    refine nE (lo:=0) (fun i ys τ H'=>∃ (v:Option V) (cs:List Nat),τ = [v,some (.str oG),some (.ref b)]/\ys=(cs.map one).map V.str/\cs.length=i/\(∀ c ∈ cs,97<=c/\c<=122)/\H' acc=some (.lst ys)/\di H' b/\Fix b H2 H') ?_ ?_ ?_ ?_
    · exact⟨none,[],rfl,rfl,rfl,(fun _ h=>nomatch h),ae,B2.new na,Fix.new na⟩
    · rintro i ys τ H' hi ⟨v,cs,rfl,rfl,hl,_,ha,_⟩
      refine⟨ha,?_⟩
      rw [List.length_map,List.length_map]
      exact bL (by omega)
    · rintro i ys τ H' hi ⟨v,cs,rfl,rfl,hl,hc,ha,B',X'⟩
      refine dC ?_
      refine jv ?_
      refine cm ?_
      refine⟨_,rfl,_,rfl,b,26,rfl,B',⟨by decide,by decide +kernel⟩,fun r H3 r0 r1 B3 X3=>?_⟩
      obtain⟨c,hat,c0,c1⟩:=xD r0 r1
      have hab:acc ≠ b:=B2.eE na
      have ha3:=X3 acc _ ha hab
      refine⟨oG,r,c,rfl,rfl,u0,hat,ha3,_,cs ++ [c],rfl,?_,?_,?_,ae,?_,?_⟩
      · rw [List.map_append,List.map_append];rfl
      · rw [List.length_append,hl];rfl
      · intro d hd
        rcases List.mem_append.mp hd with hd | hd
        · exact hc d hd
        · rw [List.mem_singleton.mp hd];exact⟨c0,c1⟩
      · obtain⟨x,y,e,z⟩:=B3
        exact⟨x,y,by rw [ai hab.symm];exact e,z⟩
      · intro d o hd nd
        rw [ai (aw hd na)]
        exact (X'.trans X3) d o hd nd
    · rintro ys τ H3 ⟨v,cs,rfl,rfl,hl,hc,ha,B3,X3⟩
      have hab:acc ≠ b:=B2.eE na
      have hl1:1<=cs.length:=by omega
      have hl8:cs.length<=8:=by omega
      have F3:Fix b H H3:=(X1.trans X2).trans X3
      have el:(((cs.map one).map V.str).length:Int)=cs.length:=by simp
      refine⟨_,rfl,_,rfl,acc,_,rfl,.inl (aU.of ha),b,_,rfl,B3,⟨by omega,ia (by omega) (by omega)⟩,fun at_ H4 t0 t1 B4 X4=>?_⟩
      refine⟨(by show 0<=sizeLine;decide),fun nl nn=>?_⟩
      have hnb:nl ≠ b:=B4.eE nn
      have ha4:H4 acc=some (.lst ((cs.map one).map V.str)):=X4 acc _ ha hab
      have hna:nl ≠ acc:=fun z=>by rw [z,ha4] at nn;cases nn
      have F4:Fix b H H4:=F3.trans X4
      refine⟨_,rfl,_,rfl,(by omega),(by omega),jH (lo:=0) (fun i σ H'=>∃ (u1 u2:Option V) (xs:List Str),σ = [some (.ref b),some (.str oG),some (.int (1+m)),some (.ref acc),some (.int at_),some (.ref nl),u1,u2] /\
        H' nl=some (.lst (xs.map V.str))/\xs.length<=i/\(0 < i->xs ≠ [])/\(∀ x ∈ xs,fR x)/\H' acc=some (.lst ((cs.map one).map V.str))/\di H' b/\Fix b H H') ?_ ?_ ?_⟩
      · exact⟨_,_,[],rfl,ae,Nat.le_refl _,(fun h=>absurd h (Nat.lt_irrefl _)),(fun _ h=>nomatch h),(by rw [ai hna.symm];exact ha4),B4.new nn,F4.trans (Fix.new nn)⟩
      · rintro i σ H' hi ⟨u1,u2,xs,rfl,hn,hx,hx0,aT,ha',B',X'⟩
        refine⟨_,rfl,acc,_,rfl,.inl (aU.of ha'),fun nm mm=>?_⟩
        have nmb:nm ≠ b:=B'.eE mm
        have nma:nm ≠ acc:=fun z=>by rw [z,ha'] at mm;cases mm
        have nmn:nm ≠ nl:=fun z=>by rw [z,hn] at mm;cases mm
        refine⟨_,rfl,_,rfl,b,26,rfl,B'.new mm,⟨by decide,by decide +kernel⟩,fun r H5 r0 r1 B5 X5=>?_⟩
        obtain⟨c,hat,c0,c1⟩:=xD r0 r1
        have h5:H5 nm=some (.lst ((cs.map one).map V.str)):=X5 nm _ ae nmb
        have hn5:H5 nl=some (.lst (xs.map V.str)):=X5 nl _ (by rw [ai nmn.symm];exact hn) hnb
        have ha5:H5 acc=some (.lst ((cs.map one).map V.str)):=X5 acc _ (by rw [ai nma.symm];exact ha') hab
        obtain⟨j,rfl⟩:∃ j:Nat,at_=j:=⟨at_.toNat,by omega⟩
        have hj:j < cs.length:=by omega
        have hix:m3 ((cs.map one).map V.str).length (j:Int)=some j:=by
          unfold m3
          rw [if_pos (by omega),if_pos (by rw [el];omega)]
          simp
        refine⟨oG,r,c,rfl,rfl,u0,hat,_,rfl,_,rfl,nm,_,(j:Int),j,rfl,rfl,h5,hix,?_⟩
        have eset:((cs.map one).map V.str).set j (.str ⟨#[c]⟩)=((cs.set j c).map one).map V.str:=by
          rw [List.map_set,List.map_set];rfl
        rw [eset]
        have hc':∀ d ∈ cs.set j c,97<=d/\d<=122:=fun d hd=>by
          rcases List.mem_or_eq_of_mem_set hd with hd | hd
          · exact hc d hd
          · rw [hd];exact⟨c0,c1⟩
        have hjl:(((cs.set j c).map one).map (·.length)).sum+((cs.set j c).map one).length * (Str.ofString "").length<=16777216:=by
          have e1:(Str.ofString "").length=0:=by decide +kernel
          have e2:∀ l:List Nat,((l.map one).map (·.length)).sum=l.length:=by
            intro l
            induction l with
            | nil=>rfl
            | cons a l ih=>simp only [List.map_cons,List.sum_cons,ih,List.length_cons];show 1+l.length=_;omega
          rw [e1,e2,List.length_set]
          omega
        have nk:fR (Txt.join (Str.ofString "") ((cs.set j c).map one)):=by
          rw [y7]
          have ej:=L2.join_ones (cs.set j c)
          have eL:(Txt.join Str.empty ((cs.set j c).map one)).length=(cs.set j c).length:=by
            have:=congrArg List.length ej
            rw [Array.length_toList] at this
            exact this
          refine⟨?_,?_,?_⟩
          · rw [eL,List.length_set];exact hl1
          · rw [eL,List.length_set];exact hl8
          · rw [ej];exact hc'
        have n6:upd H5 nm (.lst (((cs.set j c).map one).map V.str)) nl=some (.lst (xs.map V.str)):=by rw [ai nmn.symm];exact hn5
        have a6:upd H5 nm (.lst (((cs.set j c).map one).map V.str)) acc=some (.lst ((cs.map one).map V.str)):=by rw [ai nma.symm];exact ha5
        have B6:di (upd H5 nm (.lst (((cs.set j c).map one).map V.str))) b:=by
          obtain⟨x,y,e,z⟩:=B5
          exact⟨x,y,by rw [ai nmb.symm];exact e,z⟩
        have F6:Fix b H (upd H5 nm (.lst (((cs.set j c).map one).map V.str))):=fun d o hd nd=>by
          have h1:=X' d o hd nd
          have nd':d ≠ nm:=fun z=>by rw [z,mm] at h1;cases h1
          rw [ai nd']
          exact X5 d o (by rw [ai nd'];exact h1) nd
        have flat:(xs.map V.str).all iG=true:=by
          rw [List.all_eq_true]
          intro v hv
          obtain⟨x,_,rfl⟩:=List.mem_map.mp hv
          rfl
        refine⟨rfl,_,rfl,_,nm,_,rfl,rfl,aU.of ae,hjl,_,rfl,nl,_,rfl,.inl (aU.of n6),rfl,flat,_,rfl,?_⟩
        refine dX (fun hin=>?_) (fun hin=>?_)
        · refine⟨_,rfl,.inl ⟨rfl,_,aU.of n6⟩,rfl,_,rfl,_,nm,_,rfl,rfl,aU.of ae,hjl,nl,_,_,rfl,rfl,n6,?_,?_⟩
          · rw [List.length_map]
            have:i < 4:=by omega
            exact bL (by omega)
          · refine⟨_,_,xs ++ [_],rfl,(by rw [ae,List.map_append];rfl),(by rw [List.length_append];exact Nat.succ_le_succ hx),(fun _=>by simp),?_,(by rw [ai hna.symm];exact a6),?_,?_⟩
            · intro x hxm
              rcases List.mem_append.mp hxm with hxm | hxm
              · exact aT x hxm
              · rw [List.mem_singleton.mp hxm];exact nk
            · obtain⟨x,y,e,z⟩:=B6
              exact⟨x,y,by rw [ai hnb.symm];exact e,z⟩
            · intro d o hd nd
              have h1:=F6 d o hd nd
              have nd':d ≠ nl:=fun z=>by
                have h2:=F4 d o hd nd
                rw [z,nn] at h2
                cases h2
              rw [ai nd']
              exact h1
        · have hx':xs ≠ []:=by
            intro e
            subst e
            exact hin rfl
          exact⟨_,_,xs,rfl,n6,Nat.le_succ_of_le hx,fun _=>hx',aT,a6,B6,F6⟩
      · rintro σ H' ⟨u1,u2,xs,rfl,hn,hx,hx0,aT,ha',B',X'⟩
        refine⟨_,rfl,?_⟩
        have hm:(1+m).toNat<=4:=by omega
        have hm0:0 < (1+m).toNat:=by omega
        exact q nl xs H' ⟨hn,hnb,hx0 hm0,by omega,aT⟩ (Nat.le_trans hx hm) B' X'
theorem rT {f:Addr} {fd:FuncData} (F:bQ K "_law_number" "_law_number" fj f fd) (Z:Bl mg) (O_law_take:Own P w K mg base "_law_take" 1 ["bag", "many"] gN):bc P w K mg base bO 2 f fd ["bag"] ju:=by
  refine F.ok (k:=1) rQ (fun vs H Q E h=>?_) (fun cdv A outer s H vs Q E hr h=>?_)
  · obtain⟨b,rfl,_⟩:=h
    rfl
  · obtain⟨b,rfl,hB,q⟩:=h
    refine⟨_,(ah (bp (aH bR (aB O_law_take (hr.mono (by decide)) rfl (aa (pv 0) (aa ao af))) ao (aO _))
      (av (aF (br j3 (br gM (br gM (br ow ao ao) ao) (aB O_law_take (hr.mono (by decide)) rfl (aa (pv 0) (aa ao af)))) (br gM ao (br j3 ao (aB O_law_take (hr.mono (by decide)) rfl (aa (pv 0) (aa ao af))))))))
      aX)
      (av (aF (br gM (aB O_law_take (hr.mono (by decide)) rfl (aa (pv 0) (aa ao af))) ao)))),?_⟩
    refine⟨_,rfl,b,8,rfl,hB,⟨by decide,by decide +kernel⟩,fun r H1 r0 r1 B1 X1=>⟨rfl,_,rfl,?_⟩⟩
    refine dX (fun hc=>?_) (fun hc=>?_)
    · refine⟨10,40,rfl,rfl,⟨by decide,by decide,by decide⟩,_,_,rfl,rfl,?_⟩
      refine⟨_,rfl,b,3,rfl,B1,⟨by decide,by decide +kernel⟩,fun r2 H2 r20 r21 B2 X2=>⟨_,_,rfl,rfl,?_⟩⟩
      refine⟨_,rfl,b,2,rfl,B2,⟨by decide,by decide +kernel⟩,fun r3 H3 r30 r31 B3 X3=>?_⟩
      refine⟨_,_,rfl,rfl,.inl ⟨by decide,by decide⟩,_,_,rfl,rfl,_,_,rfl,rfl,.inr ⟨by omega,by omega⟩,?_⟩
      refine q _ H3 ?_ B3 ((X1.trans X2).trans X3)
      have e:(10:Int) ^ (40:Int).toNat=10 ^ 40:=by decide +kernel
      rw [e]
      obtain rfl | rfl:r3=0\/r3=1:=by omega
      · rw [show (1:Int) - 2 * 0=1 by decide,Int.mul_one];unfold ku;omega
      · rw [show (1:Int) - 2 * 1 = -1 by decide,Int.mul_neg,Int.mul_one];unfold ku;omega
    · refine⟨_,rfl,b,8,rfl,B1,⟨by decide,by decide +kernel⟩,fun r2 H2 r20 r21 B2 X2=>⟨_,_,rfl,rfl,?_⟩⟩
      exact q _ H2 (by unfold ku;omega) B2 (X1.trans X2)
theorem uG {f:Addr} {fd:FuncData} (F:bQ K "_law_deed" "_law_deed" gB f fd) (Z:Bl mg) (O_law_take:Own P w K mg base "_law_take" 1 ["bag", "many"] gN) (O_law_number:Own P w K mg base "_law_number" 2 ["bag"] ju):bc P w K mg base bO 3 f fd ["bag", "names"] sO:=by
  refine F.ok (k:=2) j0 (fun vs H Q E h=>?_) (fun cdv A outer s H vs Q E hr h=>?_)
  · obtain⟨b,l,xs,rfl,_⟩:=h
    rfl
  · obtain⟨b,l,xs,rfl,hB,hN,q⟩:=h
    refine⟨_,(ah (aQ (i:=2) j0.nd rfl (Or.inl rfl) (aC bY (cP (iA aW aW aW aW aW aW aW)) (aB O_law_take (hr.mono (by decide)) rfl (aa (pv 0) (aa ao af))) (fun _ _=>rfl)))
      (ah (aQ (i:=3) j0.nd rfl (Or.inl rfl) (aC bY (pv 1) (aB O_law_take (hr.mono (by decide)) rfl (aa (pv 0) (aa (bC bx rfl Z.len cK (aa (pv 1) af)) af))) (fun _ _=>rfl)))
      (ah (bp (aH bR (pv 2) aW (aO _))
      (av (aF (bB (aa (pv 2) (aa (pv 3) (aa (aC bY (pv 1) (aB O_law_take (hr.mono (by decide)) rfl (aa (pv 0) (aa (bC bx rfl Z.len cK (aa (pv 1) af)) af))) (fun _ _=>rfl)) af))))))
      aX)
      (ah (bp (PW.pt (vD (aH bR (pv 2) aW (aO _)) (sC (aH bR (pv 2) aW (aO _)))))
      (av (aF (bB (aa (pv 2) (aa (pv 3) (aa (aB O_law_number (hr.mono (by decide)) rfl (aa (pv 0) af)) af))))))
      aX)
      (av (aF (bB (aa (pv 2) (aa (pv 3) af))))))))),?_⟩
    refine⟨lL,fun l0 m0=>?_⟩
    refine⟨_,rfl,b,7,rfl,hB.new m0,⟨by decide,by decide +kernel⟩,fun r H1 r0 r1 B1 X1=>?_⟩
    have h0:H1 l0=some (.lst [.str "put",.str "copy",.str "add",.str "read",.str "tell",.str "tell",.str "add"]):=X1 l0 _ ae (hB.eE m0)
    have F1:Fix b H H1:=(Fix.new m0).trans X1
    have N1:=hN.fix F1
    have hw:∃ w:Str,(w = "put" \/ w = "copy" \/ w = "add" \/ w = "read" \/ w = "tell")/\fD [V.str "put",.str "copy",.str "add",.str "read",.str "tell",.str "tell",.str "add"] r=some (V.str w):=by
      obtain rfl | rfl | rfl | rfl | rfl | rfl | rfl:r=0\/r=1\/r=2\/r=3\/r=4\/r=5\/r=6:=by omega
      · exact⟨_,.inl rfl,bw (j:=0) rfl⟩
      · exact⟨_,.inr (.inl rfl),bw (j:=1) rfl⟩
      · exact⟨_,.inr (.inr (.inl rfl)),bw (j:=2) rfl⟩
      · exact⟨_,.inr (.inr (.inr (.inl rfl))),bw (j:=3) rfl⟩
      · exact⟨_,.inr (.inr (.inr (.inr rfl))),bw (j:=4) rfl⟩
      · exact⟨_,.inr (.inr (.inr (.inr rfl))),bw (j:=5) rfl⟩
      · exact⟨_,.inr (.inr (.inl rfl)),bw (j:=6) rfl⟩
    obtain⟨w,hw,hat⟩:=hw
    refine⟨l0,_,r,_,rfl,rfl,aU.of h0,hat,?_⟩
    obtain⟨p0,p1⟩:=N1.pos
    refine⟨_,rfl,_,rfl,_,rfl,l,_,rfl,.inl (aU.of N1.at_),b,_,rfl,B1,⟨p0,ia p0 p1⟩,fun r2 H2 r20 r21 B2 X2=>?_⟩
    have N2:=N1.fix X2
    obtain⟨x,hx,hxm⟩:=nF r20 r21
    refine⟨l,_,r2,_,rfl,rfl,aU.of N2.at_,hx,?_⟩
    refine⟨_,rfl,rfl,_,rfl,?_⟩
    rcases hw with rfl | rfl | rfl | rfl | rfl
    ·
      rw [show decide (V.str "put" = V.str "copy")=false by decide +kernel]
      refine cB ⟨_,rfl,rfl,_,rfl,?_⟩
      rw [show decide (V.str "put" = V.str "put")=true by decide +kernel]
      refine cm (cm ⟨_,rfl,_,rfl,_,rfl,b,rfl,B2,fun n H3 nk B3 X3=>⟨qP,fun t mt=>?_⟩⟩)
      exact q _ (.put x n) _ (.tup ae (.cons (.str _) (.cons (.str _) (.cons (.int _) .nil)))) ⟨hxm,nk⟩ (B3.new mt) (((F1.trans X2).trans X3).trans (Fix.new mt))
    ·
      rw [show decide (V.str "copy" = V.str "copy")=true by decide +kernel]
      obtain⟨p0,p1⟩:=N2.pos
      refine cm ⟨_,rfl,_,rfl,_,rfl,_,rfl,_,rfl,l,_,rfl,.inl (aU.of N2.at_),b,_,rfl,B2,⟨p0,ia p0 p1⟩,fun r3 H3 r30 r31 B3 X3=>?_⟩
      have N3:=N2.fix X3
      obtain⟨y,hy,hym⟩:=nF r30 r31
      refine⟨l,_,r3,_,rfl,rfl,aU.of N3.at_,hy,qP,fun t mt=>?_⟩
      exact q _ (.copy x y) _ (.tup ae (.cons (.str _) (.cons (.str _) (.cons (.str _) .nil)))) ⟨hxm,hym⟩ (B3.new mt) (((F1.trans X2).trans X3).trans (Fix.new mt))
    ·
      rw [show decide (V.str "add" = V.str "copy")=false by decide +kernel]
      refine cB ⟨_,rfl,rfl,_,rfl,?_⟩
      rw [show decide (V.str "add" = V.str "put")=false by decide +kernel]
      refine cB ⟨_,rfl,rfl,_,rfl,?_⟩
      rw [show decide (V.str "add" = V.str "add")=true by decide +kernel]
      refine cm ⟨_,rfl,_,rfl,_,rfl,b,rfl,B2,fun n H3 nk B3 X3=>⟨qP,fun t mt=>?_⟩⟩
      exact q _ (.add x n) _ (.tup ae (.cons (.str _) (.cons (.str _) (.cons (.int _) .nil)))) ⟨hxm,nk⟩ (B3.new mt) (((F1.trans X2).trans X3).trans (Fix.new mt))
    ·
      rw [show decide (V.str "read" = V.str "copy")=false by decide +kernel]
      refine cB ⟨_,rfl,rfl,_,rfl,?_⟩
      rw [show decide (V.str "read" = V.str "put")=false by decide +kernel]
      refine cB ⟨_,rfl,rfl,_,rfl,?_⟩
      rw [show decide (V.str "read" = V.str "add")=false by decide +kernel]
      refine cB ⟨_,rfl,_,rfl,ln2,fun t mt=>?_⟩
      exact q _ (.read x) _ (.tup ae (.cons (.str _) (.cons (.str _) .nil))) hxm (B2.new mt) ((F1.trans X2).trans (Fix.new mt))
    ·
      rw [show decide (V.str "tell" = V.str "copy")=false by decide +kernel]
      refine cB ⟨_,rfl,rfl,_,rfl,?_⟩
      rw [show decide (V.str "tell" = V.str "put")=false by decide +kernel]
      refine cB ⟨_,rfl,rfl,_,rfl,?_⟩
      rw [show decide (V.str "tell" = V.str "add")=false by decide +kernel]
      refine cB ⟨_,rfl,_,rfl,ln2,fun t mt=>?_⟩
      exact q _ (.tell x) _ (.tup ae (.cons (.str _) (.cons (.str _) .nil))) hxm (B2.new mt) ((F1.trans X2).trans (Fix.new mt))
theorem wX {f:Addr} {fd:FuncData} (F:bQ K "_law_end" "_law_end" hU f fd) (Z:Bl mg) (O_law_take:Own P w K mg base "_law_take" 1 ["bag", "many"] gN) (O_law_number:Own P w K mg base "_law_number" 2 ["bag"] ju):bc P w K mg base bO 3 f fd ["bag", "names", "count"] sP:=by
  refine F.ok (k:=2) i5 (fun vs H Q E h=>?_) (fun cdv A outer s H vs Q E hr h=>?_)
  · obtain⟨b,l,xs,c,rfl,_⟩:=h
    rfl
  · obtain⟨b,l,xs,c,rfl,hB,hN,c0,c1,q⟩:=h
    refine⟨_,(ah (aQ (i:=3) i5.nd rfl (Or.inl rfl) (aB O_law_take (hr.mono (by decide)) rfl (aa (pv 0) (aa ao af))))
      (ah (bp (aH bR (pv 3) ao (aO _))
      (av (aF (bB (aa aW af))))
      aX)
      (ah (bp (aH gQ (pv 3) ao (aO _))
      (av (aF (bB (aa aW (aa (aB O_law_take (hr.mono (by decide)) rfl (aa (pv 0) (aa (pv 2) af))) af)))))
      aX)
      (ah (aQ (i:=4) i5.nd rfl (Or.inl rfl) (aC bY (cP (aa aW (aa aW af))) (br uP (aB O_law_take (hr.mono (by decide)) rfl (aa (pv 0) (aa ao af))) ao) (fun _ _=>rfl)))
      (ah (aQ (i:=5) i5.nd rfl (Or.inl rfl) (aC bY (pv 1) (aB O_law_take (hr.mono (by decide)) rfl (aa (pv 0) (aa (bC bx rfl Z.len cK (aa (pv 1) af)) af))) (fun _ _=>rfl)))
      (av (aF (bB (aa (pv 4) (aa (pv 5) (aa (aB O_law_number (hr.mono (by decide)) rfl (aa (pv 0) af)) (aa (aB O_law_take (hr.mono (by decide)) rfl (aa (pv 0) (aa (pv 2) af))) (aa (aB O_law_take (hr.mono (by decide)) rfl (aa (pv 0) (aa (pv 2) af))) af))))))))))))),?_⟩
    have ck:(0:Int) < (c:Int)/\(c:Int).natAbs.log2 < 9000:=⟨by omega,ia (by omega) (by omega)⟩
    refine⟨_,rfl,b,9,rfl,hB,⟨by decide,by decide +kernel⟩,fun r H1 r0 r1 B1 X1=>?_⟩
    refine⟨_,rfl,rfl,_,rfl,?_⟩
    refine dX (fun hc=>?_) (fun hc=>?_)
    · refine⟨xA,fun t mt=>?_⟩
      exact q _ .stop _ (.tup ae (.cons (.str _) .nil)) True.intro (B1.new mt) (X1.trans (Fix.new mt))
    refine⟨_,rfl,_,_,rfl,rfl,_,rfl,?_⟩
    refine dX (fun hd=>?_) (fun hd=>?_)
    · refine⟨_,rfl,_,rfl,b,_,rfl,B1,ck,fun p H2 p0 p1 B2 X2=>⟨ln2,fun t mt=>?_⟩⟩
      obtain⟨k,rfl⟩:∃ k:Nat,p=k:=⟨p.toNat,by omega⟩
      exact q _ (.go k) _ (.tup ae (.cons (.str _) (.cons (.int _) .nil))) (show k < c by omega) (B2.new mt) ((X1.trans X2).trans (Fix.new mt))
    · refine⟨ln2,fun l0 m0=>?_⟩
      refine⟨_,rfl,b,3,rfl,B1.new m0,⟨by decide,by decide +kernel⟩,fun z H2 z0 z1 B2 X2=>⟨_,_,rfl,rfl,⟨by decide,by decide⟩,?_⟩⟩
      have h0:H2 l0=some (.lst [.str "less",.str "is"]):=X2 l0 _ ae (B1.eE m0)
      have hw:∃ w:Bool,fD [V.str "less",V.str "is"] (z / 2)=some (V.str (wT w)):=by
        obtain h | h:z / 2=0\/z / 2=1:=by omega
        · rw [h];exact⟨true,bH⟩
        · rw [h];exact⟨false,dB⟩
      obtain⟨w,hat⟩:=hw
      refine⟨l0,_,_,_,rfl,rfl,aU.of h0,hat,?_⟩
      have F2:Fix b H H2:=(X1.trans (Fix.new m0)).trans X2
      have N2:=hN.fix F2
      obtain⟨p0,p1⟩:=N2.pos
      refine⟨_,rfl,_,rfl,_,rfl,l,_,rfl,.inl (aU.of N2.at_),b,_,rfl,B2,⟨p0,ia p0 p1⟩,fun r3 H3 r30 r31 B3 X3=>?_⟩
      have N3:=N2.fix X3
      obtain⟨x,hx,hxm⟩:=nF r30 r31
      refine⟨l,_,r3,_,rfl,rfl,aU.of N3.at_,hx,?_⟩
      refine⟨_,rfl,_,rfl,_,rfl,b,rfl,B3,fun n H4 nk B4 X4=>?_⟩
      refine⟨_,rfl,_,rfl,b,_,rfl,B4,ck,fun p H5 p0 p1 B5 X5=>?_⟩
      refine⟨_,rfl,_,rfl,b,_,rfl,B5,ck,fun p' H6 p0' p1' B6 X6=>⟨Eb,fun t mt=>?_⟩⟩
      obtain⟨k,rfl⟩:∃ k:Nat,p=k:=⟨p.toNat,by omega⟩
      obtain⟨k',rfl⟩:∃ k:Nat,p' = k:=⟨p'.toNat,by omega⟩
      exact q _ (.cC w x n k k') _ (.tup ae (.cons (.str _) (.cons (.str _) (.cons (.int _) (.cons (.int _) (.cons (.int _) .nil)))))) ⟨hxm,nk,by omega,by omega⟩ (B6.new mt) ((((F2.trans X3).trans X4).trans (X5.trans X6)).trans (Fix.new mt))
theorem uH {f:Addr} {fd:FuncData} (F:bQ K "_law_plan" "_law_plan" gC f fd) (Z:Bl mg) (O_law_take:Own P w K mg base "_law_take" 1 ["bag", "many"] gN) (O_law_names:Own P w K mg base "_law_names" 2 ["bag"] pV) (O_law_deed:Own P w K mg base "_law_deed" 3 ["bag", "names"] sO) (O_law_end:Own P w K mg base "_law_end" 3 ["bag", "names", "count"] sP):bc P w K mg base bO 4 f fd ["bag", "count", "most"] sQ:=by
  refine F.ok (k:=3) fJ (fun vs H Q E h=>?_) (fun cdv A outer s H vs Q E hr h=>?_)
  · obtain⟨b,c,m,rfl,_⟩:=h
    rfl
  · obtain⟨b,c,m,rfl,hB,c0,c1,hm,q⟩:=h
    refine⟨_,(ah (aQ (i:=3) fJ.nd rfl (Or.inr rfl) (aB O_law_names (hr.mono (by decide)) rfl (aa (pv 0) af)))
      (ah (aQ (i:=4) fJ.nd rfl (Or.inl rfl) (cP af))
      (ah (gK PassesOwn.never rfl (fQ rfl Z.range (aa (pv 1) af)) (aG (i:=5) fJ.nd rfl (Or.inl rfl))
      (ah (aQ (i:=6) fJ.nd rfl (Or.inl rfl) (aB O_law_take (hr.mono (by decide)) rfl (aa (pv 0) (aa (br cV (pv 2) ao) af))))
      (ah (aQ (i:=7) fJ.nd rfl (Or.inl rfl) (aB O_law_end (hr.mono (by decide)) rfl (aa (pv 0) (aa (pv 3) (aa (pv 1) af)))))
      (av (cE (fY PySem.F.plainAttrs_list PySem.F.slot_list_append PySem.F.type_list_append d9 (pv 4) (aa (bB (aa (bg bf rfl Z.tuple bZ (aa (eF ["j"] ["bag", "names"] [0,3] rfl (fQ rfl Z.range (aa (pv 6) af)) rfl (by decide +kernel) (by decide +kernel) (by decide +kernel) ⟨⟨rfl,.inl rfl,rfl⟩,⟨⟨rfl,.inl rfl,rfl⟩,True.intro⟩⟩ (fun _ _ _ _=>(aG (i:=0) (show ((["j"]:List Str)++(["bag", "names"]:List Str)).Nodup by decide +kernel) rfl (Or.inl rfl) (hf:=Or.inr rfl))) (fun _ _ _ _=>fb) (fun _ _ _ _=>(aB O_law_deed (hr.mono (by decide)) rfl (aa (pv 1) (aa (pv 2) af))))) af)) (aa (pv 7) af))) af)))))))
      (av (aF (bg bf rfl Z.tuple bZ (aa (pv 4) af))))))),?_⟩
    refine⟨_,rfl,b,rfl,hB,fun l xs H1 N1 x4 B1 X1=>?_⟩
    refine⟨(by show 0<=sizeLine;decide),fun pl pn=>?_⟩
    have hpb:pl ≠ b:=B1.eE pn
    refine⟨_,rfl,_,rfl,(by omega),(by omega),jH (lo:=0) (fun i σ H'=>∃ (u1 u2 u3:Option V) (ps:List Piece) (vs:List V),σ = [some (.ref b),some (.int c),some (.int m),some (.ref l),some (.ref pl),u1,u2,u3] /\
      H' pl=some (.lst vs)/\bh H' vs (ps.map fc)/\ps.length=i/\(∀ p ∈ ps,(p.1.length<=m/\∀ d ∈ p.1,fS xs d)/\jJ xs c p.2)/\fZ H' b l xs/\di H' b/\Fix b H H'/\(∀ d o,H1 d=some o->d ≠ b->H' d=some o)) ?_ ?_ ?_⟩
    · exact⟨_,_,_,[],[],rfl,ae,.nil,rfl,(fun _ h=>nomatch h),N1.fix (Fix.new pn),B1.new pn,X1.trans (Fix.new pn),Fix.new pn⟩
    · rintro i σ H' hi ⟨u1,u2,u3,ps,vs,rfl,hp,hr,hl,aT,N',B',X',Y'⟩
      refine⟨_,rfl,_,rfl,_,_,rfl,rfl,b,_,rfl,B',⟨by omega,ia (by omega) (by omega)⟩,fun k H2 k0 k1 B2 X2=>?_⟩
      have N2:=N'.fix X2
      refine⟨_,rfl,_,rfl,_,rfl,b,l,xs,c,rfl,B2,N2,c0,(by omega),fun ev e H3 re ek B3 X3=>?_⟩
      have N3:=N2.fix X3
      have hp3:H3 pl=some (.lst vs):=(X2.trans X3) pl _ hp hpb
      have hr3:bh H3 vs (ps.map fc):=hr.fix B' (X2.trans X3) (cb ps)
      refine⟨_,rfl,.inl ⟨rfl,_,aU.of hp3⟩,_,rfl,_,rfl,(by omega),(by omega),fun acc na=>?_⟩
      have hab:acc ≠ b:=B3.eE na
      refine nE (lo:=0) (fun i ys τ H'=>∃ (v:Option V) (ds:List cg),τ = [v,some (.ref b),some (.ref l)]/\bh H' ys (ds.map cq)/\ds.length=i/\(∀ d ∈ ds,fS xs d)/\H' acc=some (.lst ys)/\di H' b/\Fix b H3 H') ?_ ?_ ?_ ?_
      · exact⟨none,[],rfl,.nil,rfl,(fun _ h=>nomatch h),ae,B3.new na,Fix.new na⟩
      · rintro i' ys τ H4 hi' ⟨v,ds,rfl,rds,hl',_,ha,_⟩
        refine⟨ha,?_⟩
        rw [rds.len,List.length_map]
        exact bL (by omega)
      · rintro i' ys τ H4 hi' ⟨v,ds,rfl,rds,hl',hdk,ha,B4,X4⟩
        refine dC ?_
        refine jv ?_
        refine cm ?_
        refine⟨_,rfl,_,rfl,b,l,xs,rfl,B4,N3.fix X4,fun dv d H5 rd dk B5 X5=>?_⟩
        have ha5:=X5 acc _ ha hab
        refine⟨ha5,_,ds ++ [d],rfl,?_,(by rw [List.length_append,hl'];rfl),?_,ae,?_,?_⟩
        · rw [List.map_append]
          refine bh.app ((rds.fix B4 X5 (bX ds)).put ha5 (bX ds)) ?_
          exact rd.bb (fun p zs e=>by rw [ai (bA e ha5 (by intro z;cases z))];exact e) (m5 d)
        · intro d' hd
          rcases List.mem_append.mp hd with hd | hd
          · exact hdk d' hd
          · rw [List.mem_singleton.mp hd];exact dk
        · obtain⟨x,y,e,z⟩:=B5
          exact⟨x,y,by rw [ai hab.symm];exact e,z⟩
        · intro d' o hd nd
          rw [ai (aw hd na)]
          exact (X4.trans X5) d' o hd nd
      · rintro ys τ H4 ⟨v,ds,rfl,rds,hl',hdk,ha,B4,X4⟩
        refine⟨acc,ys,rfl,.inl ⟨aU.of ha,fun tp tn=>?_⟩⟩
        refine⟨_,rfl,ln2,fun pc pcn=>?_⟩
        have S6:au H4 (upd (upd H4 tp (.tup ys)) pc (.tup [.ref tp,ev])):=(au.new tn).trans (au.new pcn)
        have hp6:(upd (upd H4 tp (.tup ys)) pc (.tup [.ref tp,ev])) pl=some (.lst vs):=S6 _ _ (X4 pl _ hp3 hpb)
        refine⟨pl,_,_,rfl,rfl,hp6,?_,?_⟩
        · rw [hr.len,List.length_map,hl]
          exact bL (by omega)
        have hpiece:aS (upd (upd H4 tp (.tup ys)) pc (.tup [.ref tp,ev])) (.ref pc) (fc (ds,e)):=by
          refine .tup ae (.cons (.tup (au.new pcn _ _ ae) (rds.same S6 (bX ds))) (.cons ?_ .nil))
          exact (re.fix B3 X4 (ky e)).same S6 (ky e)
        have F6:Fix b H (upd (upd H4 tp (.tup ys)) pc (.tup [.ref tp,ev])):=((X'.trans (X2.trans X3)).trans X4).trans (Fix.of_same S6)
        have plH:∀ d o,H1 d=some o->d ≠ b->d ≠ pl:=fun d o hd nd z=>by rw [z,pn] at hd;cases hd
        refine⟨_,_,_,ps ++ [(ds,e)],vs ++ [.ref pc],rfl,ae,?_,(by rw [List.length_append,hl];rfl),?_,?_,?_,?_,?_⟩
        · rw [List.map_append]
          refine bh.app (((hr3.fix B3 X4 (cb ps)).same S6 (cb ps)).put hp6 (cb ps)) ?_
          exact hpiece.bb (fun p zs e=>by rw [ai (bA e hp6 (by intro z;cases z))];exact e) (jt (ds,e))
        · intro p hpm
          rcases List.mem_append.mp hpm with hpm | hpm
          · exact aT p hpm
          · rw [List.mem_singleton.mp hpm]
            exact⟨⟨by show ds.length<=m;omega,hdk⟩,ek⟩
        · have hll:l ≠ pl:=fun z=>by
            have:=N1.at_
            rw [z,pn] at this
            cases this
          have N6:=(N3.fix X4).fix (Fix.of_same (b:=b) S6)
          exact⟨by rw [ai hll];exact N6.at_,N6.ne,N6.vX,N6.bG,N6.ok⟩
        · obtain⟨x,y,e',z⟩:=B4.same S6
          exact⟨x,y,by rw [ai hpb.symm];exact e',z⟩
        · intro d o hd nd
          have h1:=X1 d o hd nd
          rw [ai (plH d o h1 nd)]
          exact F6 d o hd nd
        · intro d o hd nd
          rw [ai (plH d o hd nd)]
          exact S6 d o (X4 d o ((X2.trans X3) d o (Y' d o hd nd) nd) nd)
    · rintro σ H' ⟨u1,u2,u3,ps,vs,rfl,hp,hr,hl,aT,N',B',X',Y'⟩
      have hl':ps.length=c:=by rw [hl];omega
      refine⟨_,rfl,pl,_,rfl,.inl ⟨aU.of hp,fun tp tn=>?_⟩⟩
      refine q (.ref tp) xs ps _ (.tup ae (hr.same (au.new tn) (cb ps))) hl' ⟨fun p hpm=>(aT p hpm).1,fun p hpm=>?_⟩ ⟨N'.ok,x4⟩ (B'.new tn) (X'.trans (Fix.new tn))
      rw [hl']
      exact (aT p hpm).2
theorem ui {f:Addr} {fd:FuncData} (F:bQ K "_law_count" "_law_count" fK f fd) (Z:Bl mg) (O_law_take:Own P w K mg base "_law_take" 1 ["bag", "many"] gN):bc P w K mg base bO 2 f fd ["bag", "most"] pW:=by
 refine F.ok (k:=1) ue (fun vs H Q E h=>?_) (fun cdv A outer s H vs Q E hr h=>?_)
 ·obtain⟨b,m,rfl,_⟩:=h
  rfl
 ·obtain⟨b,m,rfl,hB,m0,m1,q⟩:=h
  refine⟨_,(av (aF (aC bY (cP (aa (br cV ao (aB O_law_take (hr.mono (by decide)) rfl (aa (pv 0) (aa (pv 1) af)))) (aa (br cV ao (aB O_law_take (hr.mono (by decide)) rfl (aa (pv 0) (aa (bC (lG rfl) rfl Z.min sL (aa ao (aa (pv 1) af))) af)))) (aa (pv 1) af)))) (aB O_law_take (hr.mono (by decide)) rfl (aa (pv 0) (aa ao af))) (fun _ _=>rfl)))),?_⟩
  refine⟨_,rfl,_,rfl,b,_,rfl,hB,⟨by omega,ia (by omega) (by omega)⟩,fun r H1 r0 r1 B1 X1=>⟨_,_,rfl,rfl,?_⟩⟩
  refine⟨_,rfl,_,rfl,_,_,rfl,b,_,rfl,B1,⟨(by split <;> omega),ia (by split <;> omega) (by split <;> omega)⟩,fun r2 H2 r20 r21 B2 X2=>⟨_,_,rfl,rfl,?_⟩⟩
  refine⟨_,rfl,qP,fun l0 n0=>?_⟩
  refine⟨_,rfl,b,3,rfl,B2.new n0,⟨by decide,by decide +kernel⟩,fun z H3 z0 z1 B3 X3=>?_⟩
  have h0:H3 l0=some (.lst [.int (1+r),.int (1+r2),.int m]):=X3 l0 _ ae (B2.eE n0)
  have hr2:r2 < 4:=by
   have:=r21
   split at this <;> omega
  have F3:Fix b H H3:=((X1.trans X2).trans (Fix.new n0)).trans X3
  obtain rfl | rfl | rfl:z=0\/z=1\/z=2:=by omega
  ·refine⟨l0,_,0,_,rfl,rfl,aU.of h0,bH,?_⟩
   have e:(1+r)=(((1+r).toNat:Nat):Int):=by omega
   rw [e]
   exact q _ H3 (by omega) (by omega) B3 F3
  ·refine⟨l0,_,1,_,rfl,rfl,aU.of h0,dB,?_⟩
   have e:(1+r2)=(((1+r2).toNat:Nat):Int):=by omega
   rw [e]
   exact q _ H3 (by omega) (by omega) B3 F3
  ·refine⟨l0,_,2,_,rfl,rfl,aU.of h0,at2,?_⟩
   exact q _ H3 m0 (by omega) B3 F3
theorem uI {f:Addr} {fd:FuncData} (F:bQ K "_law_step" "_law_step" gF f fd) (Z:Bl mg)  : bc P w K mg base bO 1 f fd ["plan", "state", "numbers"] sY:=by
 refine F.ok (k:=0) bM (fun vs H Q E h=>?_) (fun cdv A outer s H vs Q E hr h=>?_)
 ·obtain⟨plv,st,np,d,tl,bl,ps,nums,S,m,rfl,_⟩:=h
  rfl
 ·obtain⟨plv,st,np,d,tl,bl,ps,nums,S,m,rfl,hp,hin,hnp,A,hpc,htk,hm,q⟩:=h
  refine⟨_,(ah (cL (dh (pv 1) (dz rfl (aR (aG (i:=3) bM.nd rfl (Or.inl rfl)) (aR (aG (i:=4) bM.nd rfl (Or.inl rfl)) (aR (aG (i:=5) bM.nd rfl (Or.inl rfl)) (aR (aG (i:=6) bM.nd rfl (Or.inl rfl)) (aR (aG (i:=7) bM.nd rfl (Or.inl rfl)) (aR (aG (i:=8) bM.nd rfl (Or.inl rfl)) (aR (aG (i:=9) bM.nd rfl (Or.inl rfl)) cO))))))))))
   (ah (cL (dh (aC aM (pv 0) (pv 3) (fun _ _=>rfl)) (dz rfl (aR (aG (i:=10) bM.nd rfl (Or.inl rfl)) (aR (aG (i:=11) bM.nd rfl (Or.inl rfl)) cO)))))
   (ah (bp (aH gQ (pv 4) (bC bx rfl Z.len cK (aa (pv 10) af)) (aO _))
   (ah (aQ (i:=12) bM.nd rfl (Or.inl rfl) (aC aM (pv 10) (pv 4) (fun _ _=>rfl)))
   (ah (cL (aQ (i:=13) bM.nd rfl (Or.inl rfl) (fo (dH hr) (pv 5) (aC aM (pv 12) ao (fun _ _=>rfl)) ao ⟨rfl,rfl,rfl,rfl⟩)))
   (ah (bp (aH bR (aC aM (pv 12) ao (fun _ _=>rfl)) aW (aO _))
   (av (fE (dH hr) (pv 5) (aC aM (pv 12) ao (fun _ _=>rfl)) (aC aM (pv 12) ao (fun _ _=>rfl)) rfl))
   aX)
   (ah (bp (aH bR (aC aM (pv 12) ao (fun _ _=>rfl)) aW (aO _))
   (av (fE (dH hr) (pv 5) (aC aM (pv 12) ao (fun _ _=>rfl)) (fo (dH hr) (pv 5) (aC aM (pv 12) ao (fun _ _=>rfl)) ao ⟨rfl,rfl,rfl,rfl⟩) rfl))
   aX)
   (ah (bp (aH bR (aC aM (pv 12) ao (fun _ _=>rfl)) aW (aO _))
   (av (fE (dH hr) (pv 5) (aC aM (pv 12) ao (fun _ _=>rfl)) (br cV (pv 13) (aC aM (pv 12) ao (fun _ _=>rfl))) rfl))
   aX)
   (ah (bp (aH bR (aC aM (pv 12) ao (fun _ _=>rfl)) aW (aO _))
   (av (cE (fY PySem.F.plainAttrs_list PySem.F.slot_list_append PySem.F.type_list_append d9 (pv 7) (aa (pv 13) af))))
   aX)
   (ah (bp (aH bR (aC aM (pv 12) ao (fun _ _=>rfl)) aW (aO _))
   (ah (bp (aH bR (pv 6) (bC bx rfl Z.len cK (aa (pv 2) af)) (aO _))
   (av (aF (bB (iA (pv 3) (pv 4) (pv 5) (pv 6) (pv 7) aW (pv 9)))))
   aX)
   (ah (fE (dH hr) (pv 5) (aC aM (pv 12) ao (fun _ _=>rfl)) (aC aM (pv 2) (pv 6) (fun _ _=>rfl)) rfl)
   (av (aQ (i:=6) bM.nd rfl (Or.inl rfl) (br cV (pv 6) ao)))))
   aX)
   (av (aF (bB (iA (pv 3) (br cV (pv 4) ao) (pv 5) (pv 6) (pv 7) (pv 8) (pv 9))))))))))))
   aX)
   (ah (bp (aH bR (aC aM (pv 11) ao (fun _ _=>rfl)) aW (aO _))
   (av (aF (bB (iA (pv 3) (pv 4) (pv 5) (pv 6) (pv 7) aW (pv 9)))))
   aX)
   (ah (bp (aH bR (aC aM (pv 11) ao (fun _ _=>rfl)) aW (aO _))
   (av (aQ (i:=14) bM.nd rfl (Or.inl rfl) (aC aM (pv 11) ao (fun _ _=>rfl))))
   (ah (cL (aQ (i:=13) bM.nd rfl (Or.inl rfl) (fo (dH hr) (pv 5) (aC aM (pv 11) ao (fun _ _=>rfl)) ao ⟨rfl,rfl,rfl,rfl⟩)))
   (ah (aQ (i:=15) bM.nd rfl (Or.inl rfl) (aC bY (cP (aa (ir gQ (pv 13) (aC aM (pv 11) ao (fun _ _=>rfl)) (aO _)) (aa (ir bR (pv 13) (aC aM (pv 11) ao (fun _ _=>rfl)) (aO _)) af))) (bg qF rfl Z.int xy (aa (ir bR (aC aM (pv 11) ao (fun _ _=>rfl)) aW (aO _)) af)) (fun _ _=>rfl)))
   (av (aQ (i:=14) bM.nd rfl (Or.inl rfl) (aC aM (pv 11) (br gM ao (bg qF rfl Z.int xy (aa (pv 15) af))) (fun _ _=>rfl)))))))
   (ah (cE (fY PySem.F.plainAttrs_list PySem.F.slot_list_append PySem.F.type_list_append d9 (pv 9) (aa (pv 14) af)))
   (av (aF (bB (iA (pv 14) ao (pv 5) (pv 6) (pv 7) (pv 8) (pv 9))))))))))),?_⟩
  obtain⟨kvs,hd,dw,hk⟩:=A.dict
  have hx:ps[S.aY]? = some ps[S.aY]:=by simp [hpc]
  generalize hpe:ps[S.aY] = pe at hx
  obtain⟨ds,e⟩:=pe
  obtain⟨p,xs,pc,da,ea,vs,rfl,e1,el,hx',e2,e3,r3,e4⟩:=fT hp hx
  have hvl:vs.length=ds.length:=by rw [r3.len,List.length_map]
  have ndt:d ≠ tl:=bA hd A.told (by intro z;cases z)
  have ndb:d ≠ bl:=bA hd A.aZ (by intro z;cases z)
  refine⟨fun σ' H'=>σ' = [some (.ref p),some (.ref st),some (.ref np),some (.int S.aY),some (.int S.place),some (.ref d),some (.int S.taken),some (.ref tl),some (.str S.word),some (.ref bl),none,none,none,none,none,none]/\H=H',⟨_,rfl,st,_,rfl,ay.of A.at_,rfl,_,_,rfl,_,_,rfl,_,_,rfl,_,_,rfl,_,_,rfl,_,_,rfl,_,_,rfl,rfl,rfl,rfl⟩,?_⟩
  rintro σ' H' ⟨rfl,rfl⟩
  refine⟨fun σ' H''=>σ' = [some (.ref p),some (.ref st),some (.ref np),some (.int S.aY),some (.int S.place),some (.ref d),some (.int S.taken),some (.ref tl),some (.str S.word),some (.ref bl),some (.ref da),some (.ref ea),none,none,none,none]/\H=H'',⟨_,rfl,_,rfl,p,xs,_,_,rfl,rfl,ay.of e1,bw hx',pc,_,rfl,ay.of e2,rfl,_,_,rfl,_,_,rfl,rfl,rfl,rfl⟩,?_⟩
  rintro σ' H'' ⟨rfl,rfl⟩
  refine⟨_,rfl,_,rfl,da,_,rfl,.inr (ay.of e3),_,_,rfl,rfl,_,rfl,?_⟩
  refine dX (fun hc=>?_) (fun hc=>?_)
  ·have hlt:S.place < vs.length:=by have:=of_decide_eq_true hc;omega
   have hdd:ds[S.place]? = some (ds[S.place]'(by omega)):=by simp [show S.place < ds.length by omega]
   generalize hde:ds[S.place]'(by omega)=dd at hdd
   have hs:=iL (nums:=nums) hx hdd
   obtain⟨v,hv,rd⟩:=r3.get (i:=S.place) (d:=cq dd) (by rw [List.getElem?_map,hdd];rfl)
   obtain⟨dp,rfl,hdp⟩:=j8 rd
   have nd:dp ≠ d:=bA hdp hd (by intro z;cases z)
   refine⟨_,rfl,_,rfl,da,_,_,_,rfl,rfl,ay.of e3,bw hv,?_⟩
   clear hde
   cases dd
   case put x n =>
    refine⟨fun σ' H1=>σ' = [some (.ref p),some (.ref st),some (.ref np),some (.int S.aY),some (.int S.place),some (.ref d),some (.int S.taken),some (.ref tl),some (.str S.word),some (.ref bl),some (.ref da),some (.ref ea),some (.ref dp),some (.int (S.w x)),none,none]/\H=H1,⟨_,rfl,d,rfl,.inl ⟨kvs,.inl hd⟩,_,rfl,dp,_,1,_,rfl,rfl,ay.of hdp,dB,_,_,eX.k (k:=Sum.inr x) hd,dw x,rfl,rfl⟩,?_⟩
    rintro σ' H1 ⟨rfl,rfl⟩
    refine⟨_,rfl,dp,_,0,_,rfl,rfl,ay.of hdp,bH,rfl,_,rfl,?_⟩
    refine bW (show decide (V.str "put" = V.str "put")=true by decide +kernel) ?_
    refine⟨_,rfl,dp,_,2,_,rfl,rfl,ay.of hdp,at2,_,rfl,_,rfl,dp,_,1,_,rfl,rfl,ay.of hdp,dB,d,_,rfl,ib.k (k:=Sum.inr x) hd (cy (by omega)),?_⟩
    have hdp1:(upd H d (.dK (putK kvs (Sum.inr x) (.int (n))))) dp=some (.tup (iH (.put x n))):=by rw [ai nd];exact hdp
    refine⟨_,rfl,dp,_,0,_,rfl,rfl,ay.of hdp1,bH,rfl,_,rfl,?_⟩
    refine aN (show decide (V.str "put" = V.str "copy")=false by decide +kernel) ?_
    refine⟨_,rfl,dp,_,0,_,rfl,rfl,ay.of hdp1,bH,rfl,_,rfl,?_⟩
    refine aN (show decide (V.str "put" = V.str "add")=false by decide +kernel) ?_
    refine⟨_,rfl,dp,_,0,_,rfl,rfl,ay.of hdp1,bH,rfl,_,rfl,?_⟩
    refine aN (show decide (V.str "put" = V.str "tell")=false by decide +kernel) ?_
    refine⟨_,rfl,dp,_,0,_,rfl,rfl,ay.of hdp1,bH,rfl,_,rfl,?_⟩
    refine aN (show decide (V.str "put" = V.str "read")=false by decide +kernel) ?_
    refine⟨_,rfl,_,rfl,_,_,rfl,rfl,_,rfl,_,rfl,_,rfl,_,rfl,_,rfl,lL,fun st' hn=>?_⟩
    refine q st' _ (fe.m6 (kvs:=putK kvs (Sum.inr x) (.int (n))) ae ?_ ?_ ?_ ?_ A.ne ?_ hn ?_) (eO.iZ.trans (eO.new hn))
    ·rw [hs];exact dw.put x (n)
    ·have:=eW kvs (Sum.inr x:Key) (V.int (n));omega
    ·rw [hs,ai ndt.symm];exact A.told
    ·rw [hs,ai ndb.symm];exact A.aZ
    ·rw [hs];exact⟨Nat.le_succ_of_le A.bG.1,Nat.le_succ_of_le A.bG.2⟩
    ·rw [hs];rfl
   case copy x y =>
    refine⟨fun σ' H1=>σ' = [some (.ref p),some (.ref st),some (.ref np),some (.int S.aY),some (.int S.place),some (.ref d),some (.int S.taken),some (.ref tl),some (.str S.word),some (.ref bl),some (.ref da),some (.ref ea),some (.ref dp),some (.int (S.w x)),none,none]/\H=H1,⟨_,rfl,d,rfl,.inl ⟨kvs,.inl hd⟩,_,rfl,dp,_,1,_,rfl,rfl,ay.of hdp,dB,_,_,eX.k (k:=Sum.inr x) hd,dw x,rfl,rfl⟩,?_⟩
    rintro σ' H1 ⟨rfl,rfl⟩
    refine⟨_,rfl,dp,_,0,_,rfl,rfl,ay.of hdp,bH,rfl,_,rfl,?_⟩
    refine aN (show decide (V.str "copy" = V.str "put")=false by decide +kernel) ?_
    refine⟨_,rfl,dp,_,0,_,rfl,rfl,ay.of hdp,bH,rfl,_,rfl,?_⟩
    refine bW (show decide (V.str "copy" = V.str "copy")=true by decide +kernel) ?_
    refine⟨_,rfl,d,rfl,.inl ⟨kvs,.inl hd⟩,_,rfl,dp,_,2,_,rfl,rfl,ay.of hdp,at2,_,_,eX.k (k:=Sum.inr y) hd,dw y,_,rfl,_,rfl,dp,_,1,_,rfl,rfl,ay.of hdp,dB,d,_,rfl,ib.k (k:=Sum.inr x) hd (cy (by omega)),?_⟩
    have hdp1:(upd H d (.dK (putK kvs (Sum.inr x) (.int (S.w y))))) dp=some (.tup (iH (.copy x y))):=by rw [ai nd];exact hdp
    refine⟨_,rfl,dp,_,0,_,rfl,rfl,ay.of hdp1,bH,rfl,_,rfl,?_⟩
    refine aN (show decide (V.str "copy" = V.str "add")=false by decide +kernel) ?_
    refine⟨_,rfl,dp,_,0,_,rfl,rfl,ay.of hdp1,bH,rfl,_,rfl,?_⟩
    refine aN (show decide (V.str "copy" = V.str "tell")=false by decide +kernel) ?_
    refine⟨_,rfl,dp,_,0,_,rfl,rfl,ay.of hdp1,bH,rfl,_,rfl,?_⟩
    refine aN (show decide (V.str "copy" = V.str "read")=false by decide +kernel) ?_
    refine⟨_,rfl,_,rfl,_,_,rfl,rfl,_,rfl,_,rfl,_,rfl,_,rfl,_,rfl,lL,fun st' hn=>?_⟩
    refine q st' _ (fe.m6 (kvs:=putK kvs (Sum.inr x) (.int (S.w y))) ae ?_ ?_ ?_ ?_ A.ne ?_ hn ?_) (eO.iZ.trans (eO.new hn))
    ·rw [hs];exact dw.put x (S.w y)
    ·have:=eW kvs (Sum.inr x:Key) (V.int (S.w y));omega
    ·rw [hs,ai ndt.symm];exact A.told
    ·rw [hs,ai ndb.symm];exact A.aZ
    ·rw [hs];exact⟨Nat.le_succ_of_le A.bG.1,Nat.le_succ_of_le A.bG.2⟩
    ·rw [hs];rfl
   case add x n =>
    refine⟨fun σ' H1=>σ' = [some (.ref p),some (.ref st),some (.ref np),some (.int S.aY),some (.int S.place),some (.ref d),some (.int S.taken),some (.ref tl),some (.str S.word),some (.ref bl),some (.ref da),some (.ref ea),some (.ref dp),some (.int (S.w x)),none,none]/\H=H1,⟨_,rfl,d,rfl,.inl ⟨kvs,.inl hd⟩,_,rfl,dp,_,1,_,rfl,rfl,ay.of hdp,dB,_,_,eX.k (k:=Sum.inr x) hd,dw x,rfl,rfl⟩,?_⟩
    rintro σ' H1 ⟨rfl,rfl⟩
    refine⟨_,rfl,dp,_,0,_,rfl,rfl,ay.of hdp,bH,rfl,_,rfl,?_⟩
    refine aN (show decide (V.str "add" = V.str "put")=false by decide +kernel) ?_
    refine⟨_,rfl,dp,_,0,_,rfl,rfl,ay.of hdp,bH,rfl,_,rfl,?_⟩
    refine aN (show decide (V.str "add" = V.str "copy")=false by decide +kernel) ?_
    refine⟨_,rfl,dp,_,0,_,rfl,rfl,ay.of hdp,bH,rfl,_,rfl,?_⟩
    refine bW (show decide (V.str "add" = V.str "add")=true by decide +kernel) ?_
    refine⟨_,rfl,_,rfl,dp,_,2,_,rfl,rfl,ay.of hdp,at2,_,_,rfl,rfl,_,rfl,_,rfl,dp,_,1,_,rfl,rfl,ay.of hdp,dB,d,_,rfl,ib.k (k:=Sum.inr x) hd (cy (by omega)),?_⟩
    have hdp1:(upd H d (.dK (putK kvs (Sum.inr x) (.int (S.w x+n))))) dp=some (.tup (iH (.add x n))):=by rw [ai nd];exact hdp
    refine⟨_,rfl,dp,_,0,_,rfl,rfl,ay.of hdp1,bH,rfl,_,rfl,?_⟩
    refine aN (show decide (V.str "add" = V.str "tell")=false by decide +kernel) ?_
    refine⟨_,rfl,dp,_,0,_,rfl,rfl,ay.of hdp1,bH,rfl,_,rfl,?_⟩
    refine aN (show decide (V.str "add" = V.str "read")=false by decide +kernel) ?_
    refine⟨_,rfl,_,rfl,_,_,rfl,rfl,_,rfl,_,rfl,_,rfl,_,rfl,_,rfl,lL,fun st' hn=>?_⟩
    refine q st' _ (fe.m6 (kvs:=putK kvs (Sum.inr x) (.int (S.w x+n))) ae ?_ ?_ ?_ ?_ A.ne ?_ hn ?_) (eO.iZ.trans (eO.new hn))
    ·rw [hs];exact dw.put x (S.w x+n)
    ·have:=eW kvs (Sum.inr x:Key) (V.int (S.w x+n));omega
    ·rw [hs,ai ndt.symm];exact A.told
    ·rw [hs,ai ndb.symm];exact A.aZ
    ·rw [hs];exact⟨Nat.le_succ_of_le A.bG.1,Nat.le_succ_of_le A.bG.2⟩
    ·rw [hs];rfl
   case read x =>
    refine⟨fun σ' H1=>σ' = [some (.ref p),some (.ref st),some (.ref np),some (.int S.aY),some (.int S.place),some (.ref d),some (.int S.taken),some (.ref tl),some (.str S.word),some (.ref bl),some (.ref da),some (.ref ea),some (.ref dp),some (.int (S.w x)),none,none]/\H=H1,⟨_,rfl,d,rfl,.inl ⟨kvs,.inl hd⟩,_,rfl,dp,_,1,_,rfl,rfl,ay.of hdp,dB,_,_,eX.k (k:=Sum.inr x) hd,dw x,rfl,rfl⟩,?_⟩
    rintro σ' H1 ⟨rfl,rfl⟩
    refine⟨_,rfl,dp,_,0,_,rfl,rfl,ay.of hdp,bH,rfl,_,rfl,?_⟩
    refine aN (show decide (V.str "read" = V.str "put")=false by decide +kernel) ?_
    refine⟨_,rfl,dp,_,0,_,rfl,rfl,ay.of hdp,bH,rfl,_,rfl,?_⟩
    refine aN (show decide (V.str "read" = V.str "copy")=false by decide +kernel) ?_
    refine⟨_,rfl,dp,_,0,_,rfl,rfl,ay.of hdp,bH,rfl,_,rfl,?_⟩
    refine aN (show decide (V.str "read" = V.str "add")=false by decide +kernel) ?_
    refine⟨_,rfl,dp,_,0,_,rfl,rfl,ay.of hdp,bH,rfl,_,rfl,?_⟩
    refine aN (show decide (V.str "read" = V.str "tell")=false by decide +kernel) ?_
    refine⟨_,rfl,dp,_,0,_,rfl,rfl,ay.of hdp,bH,rfl,_,rfl,?_⟩
    refine bW (show decide (V.str "read" = V.str "read")=true by decide +kernel) ?_
    refine⟨_,rfl,_,rfl,np,_,rfl,.inr (ay.of hnp),rfl,_,rfl,?_⟩
    refine dX (fun ht=>?_) (fun ht=>?_)
    ·have he:S.taken=nums.length:=by
      have:=V.int.inj (of_decide_eq_true ht)
      rw [List.length_map] at this
      omega
     have hnn:nums[S.taken]? = none:=by rw [he];simp
     have hs':cF ps nums S = { S with word := "dry" }:=by rw [hs];show (match nums[S.taken]? with | none=>_ | some n=>_)=_;rw [hnn]
     refine⟨_,rfl,_,rfl,_,rfl,_,rfl,_,rfl,_,rfl,lL,fun st' hn=>?_⟩
     rw [hs'] at q
     exact q st' _ (fe.m6 (S':={ S with word := "dry" }) hd dw (Nat.le_succ_of_le hk) A.told A.aZ A.ne ⟨Nat.le_succ_of_le A.bG.1,Nat.le_succ_of_le A.bG.2⟩ hn rfl) (eO.new hn)
    ·have hlt2:S.taken < nums.length:=by
      refine Nat.lt_of_le_of_ne htk fun z=>ht (decide_eq_true ?_)
      rw [List.length_map,z]
     have hnn:nums[S.taken]? = some nums[S.taken]:=by simp [hlt2]
     generalize hne:nums[S.taken] = n at hnn
     have hnv:(nums.map V.int)[S.taken]? = some (V.int n):=by rw [List.getElem?_map,hnn];rfl
     have hs':cF ps nums S = { S with w:=cT S.w x n,taken:=S.taken+1,place:=S.place+1 }:=by rw [hs];show (match nums[S.taken]? with | none=>_ | some n=>_)=_;rw [hnn]
     refine⟨_,rfl,_,rfl,np,_,_,_,rfl,rfl,ay.of hnp,bw hnv,_,rfl,_,rfl,dp,_,1,_,rfl,rfl,ay.of hdp,dB,d,_,rfl,ib.k (k:=Sum.inr x) hd (cy (by omega)),?_⟩
     refine⟨_,rfl,_,_,rfl,rfl,?_⟩
     refine⟨_,rfl,_,rfl,_,_,rfl,rfl,_,rfl,_,rfl,_,rfl,_,rfl,_,rfl,lL,fun st' hn=>?_⟩
     rw [hs'] at q
     refine q st' _ (fe.m6 (S':={ S with w:=cT S.w x n,taken:=S.taken+1,place:=S.place+1 }) (kvs:=putK kvs (Sum.inr x) (.int n)) ae (dw.put x n) ?_ ?_ ?_ A.ne ⟨Nat.le_succ_of_le A.bG.1,Nat.le_succ_of_le A.bG.2⟩ hn rfl) (eO.iZ.trans (eO.new hn))
     ·have:=eW kvs (Sum.inr x:Key) (V.int n);omega
     ·rw [ai ndt.symm];exact A.told
     ·rw [ai ndb.symm];exact A.aZ
   case tell x =>
    refine⟨fun σ' H1=>σ' = [some (.ref p),some (.ref st),some (.ref np),some (.int S.aY),some (.int S.place),some (.ref d),some (.int S.taken),some (.ref tl),some (.str S.word),some (.ref bl),some (.ref da),some (.ref ea),some (.ref dp),some (.int (S.w x)),none,none]/\H=H1,⟨_,rfl,d,rfl,.inl ⟨kvs,.inl hd⟩,_,rfl,dp,_,1,_,rfl,rfl,ay.of hdp,dB,_,_,eX.k (k:=Sum.inr x) hd,dw x,rfl,rfl⟩,?_⟩
    rintro σ' H1 ⟨rfl,rfl⟩
    refine⟨_,rfl,dp,_,0,_,rfl,rfl,ay.of hdp,bH,rfl,_,rfl,?_⟩
    refine aN (show decide (V.str "tell" = V.str "put")=false by decide +kernel) ?_
    refine⟨_,rfl,dp,_,0,_,rfl,rfl,ay.of hdp,bH,rfl,_,rfl,?_⟩
    refine aN (show decide (V.str "tell" = V.str "copy")=false by decide +kernel) ?_
    refine⟨_,rfl,dp,_,0,_,rfl,rfl,ay.of hdp,bH,rfl,_,rfl,?_⟩
    refine aN (show decide (V.str "tell" = V.str "add")=false by decide +kernel) ?_
    refine⟨_,rfl,dp,_,0,_,rfl,rfl,ay.of hdp,bH,rfl,_,rfl,?_⟩
    refine bW (show decide (V.str "tell" = V.str "tell")=true by decide +kernel) ?_
    refine⟨_,rfl,.inl ⟨rfl,_,aU.of A.told⟩,_,rfl,tl,_,_,rfl,rfl,A.told,(by rw [List.length_map];exact cy (by have:=A.bG.1;omega)),?_⟩
    have hdp1:(upd H tl (.lst (S.told.map V.int ++ [.int (S.w x)]))) dp=some (.tup (iH (.tell x))):=by rw [ai (bA hdp A.told (by intro z;cases z))];exact hdp
    refine⟨_,rfl,dp,_,0,_,rfl,rfl,ay.of hdp1,bH,rfl,_,rfl,?_⟩
    refine aN (show decide (V.str "tell" = V.str "read")=false by decide +kernel) ?_
    refine⟨_,rfl,_,rfl,_,_,rfl,rfl,_,rfl,_,rfl,_,rfl,_,rfl,_,rfl,lL,fun st' hn=>?_⟩
    refine q st' _ (fe.m6 (kvs:=kvs) ?_ ?_ ?_ ?_ ?_ A.ne ?_ hn ?_) (eO.C9.trans (eO.new hn))
    ·rw [ai ndt];exact hd
    ·rw [hs];exact dw
    ·omega
    ·rw [hs,ae]
     show _=some (HO.lst ((S.told ++ [S.w x]).map V.int))
     rw [List.map_append]
     rfl
    ·rw [hs,ai A.ne.symm];exact A.aZ
    ·rw [hs]
     refine⟨?_,Nat.le_succ_of_le A.bG.2⟩
     show (S.told ++ [S.w x]).length<=m+1
     rw [List.length_append]
     exact Nat.succ_le_succ A.bG.1
    ·rw [hs];rfl
  ·have hnone:ds[S.place]? = none:=by
    rw [List.getElem?_eq_none_iff]
    have:¬ ((S.place:Int) < (vs.length:Nat)):=fun z=>hc (decide_eq_true z)
    omega
   have hs:=jw (nums:=nums) hx hnone
   have few1:S.aZ.length < 1000000:=by have:=A.bG.2;omega
   cases e with
   | stop =>
    refine⟨_,rfl,ea,_,0,_,rfl,rfl,ay.of e4,bH,rfl,_,rfl,?_⟩
    refine bW (show decide (V.str "stop" = V.str "stop")=true by decide +kernel) ⟨_,rfl,_,rfl,_,rfl,_,rfl,_,rfl,_,rfl,lL,fun st' hn=>?_⟩
    rw [hs] at q
    exact q st' _ (fe.m6 (S':={ S with word := "stop" }) hd dw (Nat.le_succ_of_le hk) A.told A.aZ A.ne ⟨Nat.le_succ_of_le A.bG.1,Nat.le_succ_of_le A.bG.2⟩ hn rfl) (eO.new hn)
   | go t =>
    refine⟨_,rfl,ea,_,0,_,rfl,rfl,ay.of e4,bH,rfl,_,rfl,?_⟩
    refine aN (show decide (V.str "go" = V.str "stop")=false by decide +kernel) ⟨_,rfl,ea,_,0,_,rfl,rfl,ay.of e4,bH,rfl,_,rfl,?_⟩
    refine bW (show decide (V.str "go" = V.str "go")=true by decide +kernel) ⟨_,rfl,ea,_,1,_,rfl,rfl,ay.of e4,dB,?_⟩
    refine⟨_,rfl,.inl ⟨rfl,_,aU.of A.aZ⟩,_,rfl,bl,_,_,rfl,rfl,A.aZ,(by rw [List.length_map];exact cy (by have:=A.bG.2;omega)),?_⟩
    refine⟨_,rfl,_,rfl,_,rfl,_,rfl,_,rfl,_,rfl,lL,fun st' hn=>?_⟩
    rw [hs] at q
    refine q st' _ (fe.m6 (S':=iY S (.go t)) (kvs:=kvs) ?_ dw (Nat.le_succ_of_le hk) ?_ ?_ A.ne ?_ hn rfl) (eO.Am.trans (eO.new hn))
    ·rw [ai ndb];exact hd
    ·rw [ai A.ne];exact A.told
    ·rw [ae]
     show _=some (HO.lst ((S.aZ ++ [t]).map fun k=>V.int (k:Nat)))
     rw [List.map_append]
     rfl
    ·refine⟨Nat.le_succ_of_le A.bG.1,?_⟩
     show (S.aZ ++ [t]).length<=m+1+1
     rw [List.length_append]
     exact Nat.succ_le_succ A.bG.2
   | cC b x n t t' =>
    have hw1:decide (V.str (wT b)=V.str "stop")=false:=by cases b <;> decide +kernel
    have hw2:decide (V.str (wT b)=V.str "go")=false:=by cases b <;> decide +kernel
    have hw3:decide (V.str (wT b)=V.str "is") = !b:=by cases b <;> decide +kernel
    refine⟨_,rfl,ea,_,0,_,rfl,rfl,ay.of e4,bH,rfl,_,rfl,?_⟩
    refine aN hw1 ⟨_,rfl,ea,_,0,_,rfl,rfl,ay.of e4,bH,rfl,_,rfl,?_⟩
    refine aN hw2 ?_
    refine⟨fun σ' H1=>σ' = [some (.ref p),some (.ref st),some (.ref np),some (.int S.aY),some (.int S.place),some (.ref d),some (.int S.taken),some (.ref tl),some (.str S.word),some (.ref bl),some (.ref da),some (.ref ea),none,some (.int (S.w x)),none,none]/\H=H1,⟨_,rfl,d,rfl,.inl ⟨kvs,.inl hd⟩,_,rfl,ea,_,1,_,rfl,rfl,ay.of e4,dB,_,_,eX.k (k:=Sum.inr x) hd,dw x,rfl,rfl⟩,?_⟩
    rintro σ' H1 ⟨rfl,rfl⟩
    refine⟨_,rfl,_,rfl,ea,_,2,_,rfl,rfl,ay.of e4,at2,_,_,rfl,rfl,_,rfl,_,rfl,ea,_,2,_,rfl,rfl,ay.of e4,at2,rfl,ln2,fun l0 n0=>?_⟩
    have e5:upd H l0 (.lst [.bl (decide (S.w x < n)),.bl (decide (V.int (S.w x)=V.int n))]) ea=some (.tup (fN (.cC b x n t t'))):=by rw [ai (aw e4 n0)];exact e4
    refine⟨_,rfl,ea,_,0,_,rfl,rfl,ay.of e5,bH,rfl,.inr ⟨_,rfl,?_⟩⟩
    have hyes:fD [V.bl (decide (S.w x < n)),V.bl (decide (V.int (S.w x)=V.int n))] (if decide (V.str (wT b)=V.str "is")=true then 1 else 0)=some (V.bl (dD b (S.w x) n)):=by
     rw [hw3]
     cases b with
     | true=>exact bH
     | false =>
      have ed:decide (V.int (S.w x)=V.int n)=decide (S.w x=n):=by
       by_cases hh:S.w x=n
       ·rw [decide_eq_true hh,decide_eq_true (congrArg V.int hh)]
       ·rw [decide_eq_false hh,decide_eq_false fun z=>hh (V.int.inj z)]
      rw [ed]
      exact dB
    refine⟨l0,_,_,_,rfl,rfl,aU.of ae,hyes,?_⟩
    have hthere:fD (fN (.cC b x n t t')) (4 - (if dD b (S.w x) n=true then 1 else 0))=some (V.int ((if dD b (S.w x) n=true then t else t':Nat):Nat)):=by
     cases dD b (S.w x) n with
     | true=>exact bw (j:=3) rfl
     | false=>exact bw (j:=4) rfl
    refine⟨_,rfl,_,rfl,.inr ⟨_,rfl,_,_,rfl,rfl,ea,_,_,_,rfl,rfl,ay.of e5,hthere,?_⟩⟩
    have b6:upd H l0 (.lst [.bl (decide (S.w x < n)),.bl (decide (V.int (S.w x)=V.int n))]) bl=some (.lst (S.aZ.map fun k=>V.int (k:Nat))):=by rw [ai (aw A.aZ n0)];exact A.aZ
    refine⟨_,rfl,.inl ⟨rfl,_,aU.of b6⟩,_,rfl,bl,_,_,rfl,rfl,b6,(by rw [List.length_map];exact cy (by have:=A.bG.2;omega)),?_⟩
    refine⟨_,rfl,_,rfl,_,rfl,_,rfl,_,rfl,_,rfl,lL,fun st' hn=>?_⟩
    rw [hs] at q
    refine q st' _ (fe.m6 (S':=iY S (.cC b x n t t')) (kvs:=kvs) ?_ dw (Nat.le_succ_of_le hk) ?_ ?_ A.ne ?_ hn rfl) (((eO.new n0).trans eO.Am).trans (eO.new hn))
    ·rw [ai ndb,ai (aw hd n0)];exact hd
    ·rw [ai A.ne,ai (aw A.told n0)];exact A.told
    ·rw [ae]
     show _=some (HO.lst ((S.aZ ++ [if dD b (S.w x) n=true then t else t']).map fun k=>V.int (k:Nat)))
     rw [List.map_append]
     rfl
    ·refine⟨Nat.le_succ_of_le A.bG.1,?_⟩
     show (S.aZ ++ [_]).length<=m+1+1
     rw [List.length_append]
     exact Nat.succ_le_succ A.bG.2
theorem uJ {f:Addr} {fd:FuncData} (F:bQ K "_law_walk" "_law_walk" gG f fd) (Z:Bl mg) (O_law_step:Own P w K mg base "_law_step" 1 ["plan", "state", "numbers"] sY):bc P w K mg base bO 2 f fd ["plan", "numbers", "steps"] qe:=by
 refine F.ok (k:=1) iI (fun vs H Q E h=>?_) (fun cdv A outer s H vs Q E hr h=>?_)
 ·obtain⟨np,plv,n,nums,ps,rfl,_⟩:=h
  rfl
 ·obtain⟨np,plv,n,nums,ps,rfl,hp,hin,hpc,hnp,hn,q⟩:=h
  refine⟨_,(ah (cL (aQ (i:=3) iI.nd rfl (Or.inl rfl) (bB (iA ao ao nG ao (cP af) aW (cP (aa ao af))))))
   (ah (gK PassesOwn.never rfl (fQ rfl Z.range (aa (pv 2) af)) (aG (i:=4) iI.nd rfl (Or.inl rfl))
   (av (bp (aH bR (aC aM (pv 3) ao (fun _ _=>rfl)) aW (aO _))
   (av (aQ (i:=3) iI.nd rfl (Or.inl rfl) (aB O_law_step (hr.mono (by decide)) rfl (aa (pv 0) (aa (pv 3) (aa (pv 1) af))))))
   aX)))
   (av (aF (pv 3))))),?_⟩
  refine⟨fun σ' H'=>∃ d tl bl st:Addr,σ' = [some plv,some (.ref np),some (.int n),some (.ref st),none]/\fe H' st d tl bl (bF 0 fun _=>0) 0/\au H H'/\H d=none/\H tl=none/\H bl=none,
   fun d hd=>⟨(by show 0<=sizeLine;decide),fun tl htl=>⟨xA,fun bl hbl=>⟨lL,fun st hst=>⟨d,tl,bl,st,rfl,?_,?_,hd,?_,?_⟩⟩⟩⟩,?_⟩
  ·refine fe.m6 (H1:=upd (upd (upd H d (.dK [])) tl (.lst [])) bl (.lst [.int 0])) (S':=bF 0 fun _=>0) (kvs:=[]) ?_ (fun x=>rfl) (Nat.le_refl _) ?_ (by rw [ae];rfl) ?_ ⟨Nat.le_refl _,Nat.le_refl _⟩ hst rfl
   ·exact au.new hbl _ _ (au.new htl _ _ ae)
   ·exact au.new hbl _ _ ae
   ·exact aw ae hbl
  ·exact (((au.new hd).trans (au.new htl)).trans (au.new hbl)).trans (au.new hst)
  ·exact (au.new hd).free htl
  ·exact ((au.new hd).trans (au.new htl)).free hbl
  rintro σ' H0 ⟨d,tl,bl,st,rfl,A0,s0,hd,ntl,nbl⟩
  refine⟨_,rfl,_,rfl,(by omega),(by omega),jH (lo:=0) (fun i σ H'=>∃ (c:Option V) (st':Addr),σ = [some plv,some (.ref np),some (.int n),some (.ref st'),c]/\fe H' st' d tl bl (bD ps nums i (bF 0 fun _=>0)) i/\au H H') ?_ ?_ ?_⟩
  ·exact⟨none,st,rfl,A0,s0⟩
  ·rintro i σ H1 hi ⟨c,st',rfl,A1,s1⟩
   have hi':i < n:=by omega
   have wi:=mF (ps:=ps) (nums:=nums) (S:=bF 0 fun _=>0) hin hpc (Nat.zero_le _) i
   have won:=p9 (ps:=ps) (nums:=nums) (n:=i) (S:=bF 0 fun _=>0)
   have woff:¬ (bD ps nums i (bF 0 fun _=>0)).word = "on" -> bD ps nums (i+1) (bF 0 fun _=>0)=bD ps nums i (bF 0 fun _=>0):=fun h=>jy h 1
   generalize bD ps nums (i+1) (bF 0 fun _=>0)=W1 at won woff ⊢
   generalize bD ps nums i (bF 0 fun _=>0)=W at A1 wi won woff ⊢
   refine⟨_,rfl,st',_,5,_,rfl,rfl,ay.of A1.at_,Ec,rfl,_,rfl,?_⟩
   by_cases hw:W.word = "on"
   ·refine bW (by rw [hw];decide +kernel) ?_
    refine⟨_,rfl,_,rfl,_,rfl,plv,st',np,d,tl,bl,ps,nums,W,i,rfl,hp.same s1 (cw ps),hin,s1 _ _ hnp,A1,wi.1,wi.2,(by omega),fun st2 H2 A2 b2=>?_⟩
    exact⟨_,st2,rfl,by rw [won hw];exact A2,fun c o e=>b2 c o (s1 c o e) (aw e hd) (aw e ntl) (aw e nbl)⟩
   ·refine aN (decide_eq_false fun z=>hw (V.str.inj z)) ?_
    exact⟨_,st',rfl,by rw [woff hw];exact A1.mono (Nat.le_succ i),s1⟩
  ·rintro σ H1 ⟨c,st',rfl,A1,s1⟩
   have e1:((n:Int)).toNat=n:=by omega
   rw [e1] at A1
   exact⟨_,rfl,q st' d tl bl H1 A1 s1⟩
theorem uj {f:Addr} {fd:FuncData} (F:bQ K "_law_input" "_law_input" fL f fd) (Z:Bl mg) (O_law_take:Own P w K mg base "_law_take" 1 ["bag", "many"] gN) (O_law_number:Own P w K mg base "_law_number" 2 ["bag"] ju):bc P w K mg base bO 3 f fd ["bag"] nL:=by
  refine F.ok (k:=2) mz (fun vs H Q E h=>?_) (fun cdv A outer s H vs Q E hr h=>?_)
  · obtain⟨b,rfl,_⟩:=h
    rfl
  · obtain⟨b,rfl,hB,q⟩:=h
    refine⟨_,(ah (aQ (i:=1) mz.nd rfl (Or.inl rfl) (aB O_law_take (hr.mono (by decide)) rfl (aa (pv 0) (aa (aC bY (cP (aa ao (aa ao (aa ao af)))) (aB O_law_take (hr.mono (by decide)) rfl (aa (pv 0) (aa ao af))) (fun _ _=>rfl)) af))))
      (av (aF (bg bf rfl Z.tuple bZ (aa (eF ["k"] ["bag"] [0] rfl (fQ rfl Z.range (aa (pv 1) af)) rfl (by decide +kernel) (by decide +kernel) (by decide +kernel) ⟨⟨rfl,.inl rfl,rfl⟩,True.intro⟩ (fun _ _ _ _=>(aG (i:=0) (show ((["k"]:List Str)++(["bag"]:List Str)).Nodup by decide +kernel) rfl (Or.inl rfl) (hf:=Or.inr rfl))) (fun _ _ _ _=>fb) (fun _ _ _ _=>(aB O_law_number (hr.mono (by decide)) rfl (aa (pv 1) af)))) af))))),?_⟩
    refine⟨_,rfl,qP,fun l0 n0=>?_⟩
    refine⟨_,rfl,b,3,rfl,hB.new n0,⟨by decide,by decide⟩,fun z H1 z0 z1 B1 X1=>?_⟩
    have h0:H1 l0=some (.lst [.int 9,.int 60,.int 201]):=X1 l0 _ ae (hB.eE n0)
    obtain⟨g,hg,hg3⟩:=xR (x:=9) (y:=60) (z:=201) z0 z1
    have g0:0 < g/\g < 1000:=by omega
    refine⟨l0,_,_,_,rfl,rfl,aU.of h0,hg,b,g,rfl,B1,⟨g0.1,ia g0.1 (by omega)⟩,fun m H2 m0 m1 B2 X2=>?_⟩
    have F2:Fix b H H2:=((Fix.new n0).trans X1).trans X2
    refine⟨_,rfl,_,rfl,(by omega),(by omega),fun acc na=>?_⟩
    have hab:acc ≠ b:=B2.eE na
    refine nE (lo:=0) (fun i ys τ H'=>∃ (v:Option V) (ns:List Int),τ = [v,some (.ref b)]/\ys=ns.map V.int/\ns.length=i/\H' acc=some (.lst ys)/\di H' b/\Fix b H2 H') ?_ ?_ ?_ ?_
    · exact⟨none,[],rfl,rfl,rfl,ae,B2.new na,Fix.new na⟩
    · rintro i ys τ H4 hi ⟨v,ns,rfl,rfl,hl,ha,_⟩
      exact⟨ha,by rw [List.length_map];exact bL (by omega)⟩
    · rintro i ys τ H4 hi ⟨v,ns,rfl,rfl,hl,ha,B4,X4⟩
      refine dC ?_
      refine jv ?_
      refine cm ?_
      refine⟨_,rfl,b,rfl,B4,fun n H5 nk B5 X5=>?_⟩
      have ha5:=X5 acc _ ha hab
      refine⟨ha5,_,ns ++ [n],rfl,(by rw [List.map_append];rfl),(by rw [List.length_append,hl];rfl),ae,?_,?_⟩
      · obtain⟨x,y,e,z⟩:=B5
        exact⟨x,y,by rw [ai hab.symm];exact e,z⟩
      · intro d' o hd nd
        rw [ai (aw hd na)]
        exact (X4.trans X5) d' o hd nd
    · rintro ys τ H4 ⟨v,ns,rfl,rfl,hl,ha,B4,X4⟩
      refine⟨acc,_,rfl,.inl ⟨aU.of ha,fun t tn=>?_⟩⟩
      exact q t ns _ ae (B4.new tn) ((F2.trans X4).trans (Fix.new tn))
theorem CP {f:Addr} {fd:FuncData} (F:bQ K "law" "law" i6 f fd) (Z:Bl mg) {CR:Addr} (TR:tU K CR) (O_law_bag:Own P w K mg base "_law_bag" 1 ["script", "k"] (vV K)) (O_law_take:Own P w K mg base "_law_take" 1 ["bag", "many"] gN) (O_law_count:Own P w K mg base "_law_count" 2 ["bag", "most"] pW) (O_law_plan:Own P w K mg base "_law_plan" 4 ["bag", "count", "most"] sQ) (O_law_input:Own P w K mg base "_law_input" 3 ["bag"] nL) (O_law_walk:Own P w K mg base "_law_walk" 2 ["plan", "numbers", "steps"] qe) (O_led_past:Own P w K mg base "led_past" 7 ["plan", "most"] (mx P w CR)) (O_run:Own P w K mg base "run" 9 ["plan", "numbers", "steps"] wb) (O_seen:Own P w K mg base "seen" 8 ["plan", "numbers", "steps"] tu):bc P w K mg base bO 10 f fd ["script"] (rZ K):=by
  refine F.ok (k:=9) fk (fun vs H Q E h=>?_) (fun cdv A outer s H vs Q E hr h=>?_)
  · obtain⟨a,ns,rfl,_⟩:=h
    rfl
  · obtain⟨a,ns,rfl,hS,hlen,q⟩:=h
    refine⟨_,(ah (aQ (i:=1) fk.nd rfl (Or.inl rfl) (aB O_law_bag (hr.mono (by decide)) rfl (aa (pv 0) (aa ao af))))
      (ah (aQ (i:=2) fk.nd rfl (Or.inl rfl) (aC bY (cP (aa (br cV ao (aB O_law_take (hr.mono (by decide)) rfl (aa (pv 1) (aa ao af)))) (aa ao (aa (br cV ao (aB O_law_take (hr.mono (by decide)) rfl (aa (pv 1) (aa ao af)))) af)))) (aB O_law_take (hr.mono (by decide)) rfl (aa (pv 1) (aa ao af))) (fun _ _=>rfl)))
      (ah (aQ (i:=3) fk.nd rfl (Or.inr rfl) (aB O_law_plan (hr.mono (by decide)) rfl (aa (aB O_law_bag (hr.mono (by decide)) rfl (aa (pv 0) (aa ao af))) (aa (aB O_law_count (hr.mono (by decide)) rfl (aa (pv 1) (aa (aC bY (cP (aa ao (aa ao af))) (aB O_law_take (hr.mono (by decide)) rfl (aa (pv 1) (aa ao af))) (fun _ _=>rfl)) af))) (aa ao af)))))
      (ah (dh (aB O_led_past (hr.mono (by decide)) rfl (aa (pv 3) (aa (pv 2) af))) (dz rfl (aR (aG (i:=4) fk.nd rfl (Or.inl rfl)) (aR (aG (i:=5) fk.nd rfl (Or.inr rfl)) cO))))
      (ah (bp (aH (lO hr.units) (eF ["piece"] [] [] rfl (fB (pv 4)) rfl (by decide +kernel) (by decide +kernel) (by decide +kernel) True.intro (fun _ _ _ _=>(aG (i:=0) (show ((["piece"]:List Str)++([]:List Str)).Nodup by decide +kernel) rfl (Or.inl rfl) (hf:=Or.inr rfl))) (fun _ _ _ _=>fb) (fun _ _ _ _=>(aC (i9 (K:=K) rfl) (pv 0) ao (fun _ _=>rfl)))) (eF ["copy"] ["plan"] [3] rfl (fB (pv 5)) rfl (by decide +kernel) (by decide +kernel) (by decide +kernel) ⟨⟨rfl,.inl rfl,rfl⟩,True.intro⟩ (fun _ _ _ _=>(aG (i:=0) (show ((["copy"]:List Str)++(["plan"]:List Str)).Nodup by decide +kernel) rfl (Or.inl rfl) (hf:=Or.inr rfl))) (fun _ _ _ _=>fb) (fun _ _ _ _=>(aC (i9 (K:=K) rfl) (aC (i9 (K:=K) rfl) (pv 1) (aC (i9 (K:=K) rfl) (pv 0) ao (fun _ _=>rfl)) (fun _ _=>rfl)) ao (fun _ _=>rfl)))) (aO _))
      (av (aF hV))
      aX)
      (ah (aQ (i:=1) fk.nd rfl (Or.inl rfl) (aB O_law_bag (hr.mono (by decide)) rfl (aa (pv 0) (aa ao af))))
      (ah (gK PassesOwn.never rfl (fQ rfl Z.range (aa (br cV ao (bC (lG rfl) rfl Z.min sL (aa (bC bx rfl Z.len cK (aa (pv 0) af)) (aa ao af)))) af)) (aG (i:=6) fk.nd rfl (Or.inl rfl))
      (ah (aQ (i:=7) fk.nd rfl (Or.inl rfl) (aB O_law_input (hr.mono (by decide)) rfl (aa (pv 1) af)))
      (ah (aQ (i:=8) fk.nd rfl (Or.inl rfl) (aC bY (cP (aa (aB O_law_take (hr.mono (by decide)) rfl (aa (pv 1) (aa ao af))) (aa (aB O_law_take (hr.mono (by decide)) rfl (aa (pv 1) (aa ao af))) (aa ao af)))) (aB O_law_take (hr.mono (by decide)) rfl (aa (pv 1) (aa ao af))) (fun _ _=>rfl)))
      (ah (aQ (i:=9) fk.nd rfl (Or.inl rfl) (aB O_law_walk (hr.mono (by decide)) rfl (aa (pv 3) (aa (pv 7) (aa (pv 8) af)))))
      (ah (aQ (i:=10) fk.nd rfl (Or.inl rfl) (aB O_law_walk (hr.mono (by decide)) rfl (aa (pv 4) (aa (pv 7) (aa (pv 8) af)))))
      (ah (aQ (i:=11) fk.nd rfl (Or.inl rfl) (bB (aa (aC aM (pv 9) ao (fun _ _=>rfl)) (aa (bg bf rfl Z.tuple bZ (aa (aC aM (pv 9) ao (fun _ _=>rfl)) af)) af))))
      (ah (bp (PW.pt (vD (aH (lO hr.units) (bB (aa (aC aM (pv 10) ao (fun _ _=>rfl)) (aa (bg bf rfl Z.tuple bZ (aa (aC aM (pv 10) ao (fun _ _=>rfl)) af)) af))) (pv 11) (aO _)) (sC (aH (lO hr.units) (aB O_run (hr.mono (by decide)) rfl (aa (pv 4) (aa (pv 7) (aa (pv 8) af)))) (pv 11) (aO _)))))
      (av (aF hV))
      aX)
      (ah (bp (aH (lO hr.units) (eF ["place"] ["copies"] [5] rfl (pO (aC aM (pv 10) ao (fun _ _=>rfl))) rfl (by decide +kernel) (by decide +kernel) (by decide +kernel) ⟨⟨rfl,.inl rfl,rfl⟩,True.intro⟩ (fun _ _ _ _=>(aG (i:=0) (show ((["place"]:List Str)++(["copies"]:List Str)).Nodup by decide +kernel) rfl (Or.inl rfl) (hf:=Or.inr rfl))) (fun _ _ _ _=>fb) (fun _ _ _ _=>(aC (i9 (K:=K) rfl) (aC (i9 (K:=K) rfl) (pv 1) (pv 0) (fun _ _=>rfl)) ao (fun _ _=>rfl)))) (aC aM (pv 9) ao (fun _ _=>rfl)) (aO _))
      (av (aF hV))
      aX)
      (av (bp (aH (lO hr.units) (aB O_seen (hr.mono (by decide)) rfl (aa (pv 4) (aa (pv 7) (aa (pv 8) af)))) (bg bf rfl Z.tuple bZ (aa (aC aM (pv 10) ao (fun _ _=>rfl)) af)) (aO _))
      (av (aF hV))
      aX))))))))))
      (av (aF hV))))))))),?_⟩
    refine⟨_,rfl,a,ns,0,rfl,hS,(by decide),fun b H1 nb B1 s1=>?_⟩
    refine⟨_,rfl,b,300,rfl,B1,⟨by decide,by decide +kernel⟩,fun z1 H2 z10 z11 B2 X2=>⟨_,_,rfl,rfl,?_⟩⟩
    refine⟨_,rfl,b,20,rfl,B2,⟨by decide,by decide +kernel⟩,fun z2 H3 z20 z21 B3 X3=>⟨_,_,rfl,rfl,qP,fun l0 n0=>?_⟩⟩
    refine⟨_,rfl,b,3,rfl,B3.new n0,⟨by decide,by decide +kernel⟩,fun z3 H4 z30 z31 B4 X4=>?_⟩
    have h0:H4 l0=some (.lst [.int (1+z1),.int 300,.int (1+z2)]):=X4 l0 _ ae (B3.eE n0)
    have F4:Fix b H1 H4:=((X2.trans X3).trans (Fix.new n0)).trans X4
    have pk:∃ m:Nat,fD [V.int (1+z1),V.int 300,V.int (1+z2)] z3=some (V.int m)/\1<=m/\m<=300:=by
      obtain⟨k1,rfl⟩:∃ k:Nat,z1=k:=⟨z1.toNat,by omega⟩
      obtain⟨k2,rfl⟩:∃ k:Nat,z2=k:=⟨z2.toNat,by omega⟩
      obtain rfl | rfl | rfl:z3=0\/z3=1\/z3=2:=by omega
      · exact⟨1+k1,bH,by omega,by omega⟩
      · exact⟨300,dB,by decide,by decide⟩
      · exact⟨1+k2,at2,by omega,by omega⟩
    obtain⟨most,hat,hm1,hm3⟩:=pk
    refine⟨l0,_,_,_,rfl,rfl,aU.of h0,hat,?_⟩
    clear hat h0 X4 X3 X2 B3 B2 n0
    have s4:au H H4:=au.oE s1 nb F4
    refine⟨_,rfl,a,ns,1,rfl,s4.seq hS,(by decide),fun b2 H5 nb2 B5 s5=>?_⟩
    refine⟨_,rfl,ln2,fun l1 n1=>?_⟩
    have B45:=B4.same s5
    refine⟨_,rfl,b,2,rfl,B45.new n1,⟨by decide,by decide +kernel⟩,fun z H6 z0 z1' B6 X6=>?_⟩
    have h1:H6 l1=some (.lst [.int 12,.int 60]):=X6 l1 _ ae (B45.eE n1)
    have F6:Fix b H5 H6:=(Fix.new n1).trans X6
    have pk:∃ g:Nat,fD [V.int 12,V.int 60] z=some (V.int g)/\(g=12\/g=60):=by
      obtain rfl | rfl:z=0\/z=1:=by omega
      · exact⟨12,bH,.inl rfl⟩
      · exact⟨60,dB,.inr rfl⟩
    obtain⟨g,hg,hg2⟩:=pk
    refine⟨l1,_,_,_,rfl,rfl,aU.of h1,hg,b,g,rfl,B6,(by omega),(by omega),fun c H7 c0 c1 B7 X7=>?_⟩
    have nbb:b2 ≠ b:=B4.eE nb2
    have F7:Fix b H5 H7:=F6.trans X7
    have B27:di H7 b2:=by
      obtain⟨x,y,e,zz⟩:=B5
      exact⟨x,y,F7 _ _ e nbb,zz⟩
    refine⟨b2,c,3,rfl,B27,c0,(by omega),(by omega),fun plv xs ps H8 r8 hc8 pok xok B8 X8=>?_⟩
    have s7:au H H7:=au.oE (s4.trans s5) nb F7
    have s8:au H H8:=au.oE s7 (s4.free nb2) X8
    have hin:dm ps:=pok.sX
    have hn0:0 < ps.length:=by omega
    have pok6:=pok.up (k:=6) (by decide)
    have hx10:xs.length<=10:=by have:=xok.2;omega
    clear B8 X8 B27 F7 F6 X7 B7 B6 X6 h1 hg n1 B45 s7 B5 s5 nb2 F4 B4
    refine⟨_,rfl,_,rfl,plv,ps,xs,most,rfl,r8,pok6,xok.1,hx10,hn0,(by omega),hm1,hm3,fun lv ds H9 cc r9 s9=>?_⟩
    obtain⟨lp,lvs,rfl,hlp,rl⟩:=aS.cx r9
    obtain⟨ov,t1,rfl,ro,rl⟩:=rl.cons_inv
    obtain⟨cv,t2,rfl,rc,rl⟩:=rl.cons_inv
    have z:=rl.nil_inv
    subst z
    obtain⟨op,ovs,rfl,hop,rovs⟩:=aS.cx ro
    obtain⟨cp,cvs,rfl,hcp,rcvs⟩:=aS.cx rc
    have I:=kP pok6 hn0 hm1
    have pokL:=yz pok6 hn0 hm1
    have sim:=fun nums n=>Bw pok6 hn0 hm1 nums n
    have hsz:=rG pok6 hn0 hm1
    obtain⟨I,hol,_⟩:=I
    have hL0:=hsz.1
    have hLl:=hsz.2
    generalize (fO ps most).1=cs at *
    generalize (fO ps most).2=outs at *
    have hinL:dm outs:=pokL.sX
    have layL:=zO xok.1 pokL
    refine⟨lp,_,rfl,ay.of hlp,rfl,_,_,rfl,_,_,rfl,rfl,?_⟩
    have r9p:aS H9 plv (df ps):=r8.same s9 (cw ps)
    obtain⟨pp,vs,rfl,e1,rvs⟩:=aS.cx r9p
    have hvl:ovs.length=outs.length:=by have:=rovs.len;rw [List.length_map] at this;exact this
    have hcl:cvs.length=cs.length:=by have:=rcvs.len;rw [this];exact Paired.length cc
    refine⟨_,rfl,op,rfl,⟨_,ay.of hop⟩,fun ac1 na1=>?_⟩
    refine j7 (K:=K) (a:=op) (xs:=ovs) (fun i ys τ H'=>∃ t0:Option V,τ = [t0]/\H' ac1=some (.lst ys)/\bh H' ys ((outs.take i).map fun p=>PyData.tuple (p.1.map cq))/\au H9 H') ?_ ?_ ?_ ?_
    · exact⟨none,rfl,ae,.nil,au.new na1⟩
    · rintro i ys τ H' hi ⟨t0,rfl,ha,ry,sa⟩
      refine⟨ay.of (sa _ _ hop),ha,?_⟩
      have:=ry.len
      rw [List.length_map,List.length_take] at this
      exact bL (by omega)
    · rintro i y ys τ H' hi ⟨t0,rfl,ha,ry,sa⟩
      have hil:i < outs.length:=by have:=(List.getElem?_eq_some_iff.mp hi).1;omega
      have hoi:outs[i]? = some outs[i]:=by simp [hil]
      generalize outs[i] = p at hoi
      obtain⟨v,hv,rv⟩:=rovs.get (i:=i) (d:=fc p) (by rw [List.getElem?_map,hoi];rfl)
      rw [hi] at hv
      cases hv
      obtain⟨qa,qvs,rfl,hqa,rq⟩:=aS.cx rv
      obtain⟨y1,t1,rfl,q1,rq⟩:=rq.cons_inv
      refine dC ?_
      refine jv ?_
      refine cm ?_
      have nlp:bP (PyData.tuple (p.1.map cq))=true:=bX p.1
      refine⟨_,rfl,qa,_,0,_,rfl,rfl,ay.of (sa _ _ hqa),bH,ha,_,rfl,ae,?_,sa.put na1⟩
      rw [List.take_add_one,hoi,List.map_append]
      have kt:∀ p zs,H' p=some (.tup zs)->(upd H' ac1 (.lst (ys ++ [y1]))) p=some (.tup zs):=fun p zs e=>by rw [ai (bA e ha (by intro z;cases z))];exact e
      exact bh.app (ry.bb kt (pA _)) ((q1.same sa nlp).bb kt nlp)
    rintro ys1 τ H10 ⟨t0,rfl,ha1,ry1,s10⟩
    rw [hvl,List.take_length] at ry1
    have hcp10:=s10 _ _ hcp
    refine⟨_,rfl,cp,rfl,⟨_,ay.of hcp10⟩,fun ac2 na2=>?_⟩
    have n12:ac1 ≠ ac2:=aw ha1 na2
    refine j7 (K:=K) (a:=cp) (xs:=cvs) (fun i ys τ H'=>∃ t0:Option V,τ = [t0,some (.ref pp)]/\H' ac2=some (.lst ys)/\bh H' ys ((outs.take i).map fun p=>PyData.tuple (p.1.map cq))/\au H10 H') ?_ ?_ ?_ ?_
    · exact⟨none,rfl,ae,.nil,au.new na2⟩
    · rintro i ys τ H' hi ⟨t0,rfl,ha,ry,sa⟩
      refine⟨ay.of (sa _ _ hcp10),ha,?_⟩
      have:=ry.len
      rw [List.length_map,List.length_take] at this
      exact bL (by omega)
    · rintro i y ys τ H' hi ⟨t0,rfl,ha,ry,sa⟩
      have hil:i < outs.length:=by have:=(List.getElem?_eq_some_iff.mp hi).1;omega
      have hoi:outs[i]? = some outs[i]:=by simp [hil]
      generalize outs[i] = p at hoi
      obtain⟨c,pc,ns',k1,k2,rfl,_⟩:=I.rel i p hoi
      obtain⟨fa,u,hfa,hfa2,_⟩:=ua rcvs cc k1
      rw [hi] at hfa
      cases hfa
      obtain⟨p',xs',pca,da,ea,ws,ep,e1',el',hx',e2,e3,r3,e4⟩:=fT r9p k2
      cases ep
      rw [e1] at e1'
      cases e1'
      have sb:=s10.trans sa
      refine dC ?_
      refine jv ?_
      refine cm ?_
      have nlp:bP (PyData.tuple (pc.1.map cq))=true:=bX pc.1
      refine⟨_,rfl,_,rfl,fa,_,0,_,rfl,rfl,ay.of (sb _ _ hfa2),bH,pp,_,_,_,rfl,rfl,ay.of (sb _ _ e1),bw hx',pca,_,0,_,rfl,rfl,ay.of (sb _ _ e2),bH,ha,_,rfl,ae,?_,sa.put na2⟩
      rw [List.take_add_one,hoi,List.map_append]
      have kt:∀ p zs,H' p=some (.tup zs)->(upd H' ac2 (.lst (ys ++ [.ref da]))) p=some (.tup zs):=fun p zs e=>by rw [ai (bA e ha (by intro z;cases z))];exact e
      exact bh.app (ry.bb kt (pA _)) (show aS _ _ (PyData.tuple (pc.1.map cq)) from .tup (kt _ _ (sb _ _ e3)) ((r3.same sb (bX _)).bb kt (bX _)))
    rintro ys2 τ H11 ⟨t0,rfl,ha2,ry2,s11⟩
    rw [hcl,<-hol,List.take_length] at ry2
    have layd:(PyData.list (outs.map fun p=>PyData.tuple (p.1.map cq))).canLay0=true:=nU _ fun d hd=>by
      obtain⟨p,hp,rfl⟩:=List.mem_map.mp hd
      exact (layL p hp).1
    have depd:(PyData.list (outs.map fun p=>PyData.tuple (p.1.map cq))).depth<=60:=by
      show PyData.depthAll _+1<=60
      have:=mM (m:=2) (outs.map fun p=>PyData.tuple (p.1.map cq)) fun d hd=>by
        obtain⟨p,hp,rfl⟩:=List.mem_map.mp hd
        show PyData.depthAll _+1<=2
        have:=mM (m:=1) (p.1.map cq) fun d hd=>by
          obtain⟨e,_,rfl⟩:=List.mem_map.mp hd
          exact zM e
        omega
      omega
    refine⟨_,_,.lst (s11 _ _ ha1) (ry1.same s11 (pA _)),.lst ha2 ry2,layd,layd,(by omega),_,rfl,?_⟩
    refine aN (by rw [PySem.SeqAt.eqv_refl _ layd];rfl) ?_
    have s911:=s10.trans s11
    have hop11:=s911 _ _ hop
    have hcp11:=s911 _ _ hcp
    have rov11:=rovs.same s911 (cb outs)
    have rcv11:=rcvs.same s911 (qx cc)
    have rp11:aS H11 (.ref pp) (df ps):=r9p.same s911 (cw ps)
    have sH11:=(s8.trans s9).trans s911
    clear ry1 ry2 ha1 ha2 layd depd s911 s11 s10 hcp10 na1 na2 rovs rcvs r9p r8
    refine⟨_,rfl,a,ns,2,rfl,sH11.seq hS,(by decide),fun b3 H12 nb3 B12 s12=>?_⟩
    refine⟨_,rfl,a,_,rfl,.inl ((sH11.trans s12).seq hS),_,_,rfl,_,_,rfl,rfl,_,rfl,(by split <;> (try rw [List.length_map]) <;> omega),(by split <;> (try rw [List.length_map]) <;> omega),jH (lo:=0) (fun i σ H'=>∃ (u1 u2 u3 u4 u5 u6:Option V),σ = [some (.ref a),some (.ref b3),some (.int (most:Nat)),some (.ref pp),some (.ref op),some (.ref cp),u1,u2,u3,u4,u5,u6]/\di H' b3/\au H11 H') ?_ ?_ ?_⟩
    · exact⟨_,_,_,_,_,_,rfl,B12,s12⟩
    · rintro i σ H13 hi ⟨u1,u2,u3,u4,u5,u6,rfl,B13,s13⟩
      refine⟨_,rfl,b3,rfl,B13,fun np nums H14 hnp B14 X14=>?_⟩
      refine⟨_,rfl,b3,30,rfl,B14,⟨by decide,by decide +kernel⟩,fun d1 H15 d10 d11 B15 X15=>?_⟩
      refine⟨_,rfl,b3,2001,rfl,B15,⟨by decide,by decide +kernel⟩,fun d2 H16 d20 d21 B16 X16=>⟨qP,fun l2 n2=>?_⟩⟩
      refine⟨_,rfl,b3,3,rfl,B16.new n2,⟨by decide,by decide +kernel⟩,fun d3 H17 d30 d31 B17 X17=>?_⟩
      have h2:H17 l2=some (.lst [.int d1,.int d2,.int 2000]):=X17 l2 _ ae (B16.eE n2)
      obtain⟨m,hm,hm3'⟩:=xR (x:=d1) (y:=d2) (z:=2000) d30 d31
      refine⟨l2,_,_,_,rfl,rfl,aU.of h2,hm,?_⟩
      have F17:Fix b3 H14 H17:=((X15.trans X16).trans (Fix.new n2)).trans X17
      have hnp17:=F17 _ _ hnp (B14.sM hnp)
      have s17:au H11 H17:=au.oE s13 nb3 (X14.trans F17)
      obtain⟨k,rfl⟩:∃ k:Nat,m=k:=⟨m.toNat,by omega⟩
      have hk:k<=2000:=by omega
      have rp17:=rp11.same s17 (cw ps)
      have ro17:aS H17 (.ref op) (df outs):=.tup (s17 _ _ hop11) (rov11.same s17 (cb outs))
      have rc17:=rcv11.same s17 (qx cc)
      have hcp17:=s17 _ _ hcp11
      clear h2 hm F17 X17 X16 X15 X14 B16 B15 B14 n2 hnp
      refine⟨_,rfl,_,rfl,_,rfl,np,.ref pp,k,nums,ps,rfl,rp17,hin,hn0,hnp17,hk,fun st d tl bl H18 A18 s18=>?_⟩
      refine⟨_,rfl,_,rfl,_,rfl,np,.ref op,k,nums,outs,rfl,ro17.same s18 (cw outs),hinL,hL0,s18 _ _ hnp17,hk,fun st2 dd2 tl2 bl2 H19 A19 s19=>?_⟩
      have sm:=sim nums k
      have lay:PySem.PyData.canLay0 (.str (bD ps nums k (bF 0 fun _=>0)).word)=true:=zi rfl k
      have wi:=mF (ps:=outs) (nums:=nums) (S:=bF 0 fun _=>0) hinL hL0 (Nat.zero_le _) k
      have hbl:∀ j ∈ (bD outs nums k (bF 0 fun _=>0)).aZ,j < outs.length:=vA hinL hL0 k
      generalize hW:bD ps nums k (bF 0 fun _=>0)=W at A18 lay sm
      generalize hW':bD outs nums k (bF 0 fun _=>0)=W' at A19 sm hbl
      have a1:=s19 _ _ A18.at_
      have a2:=s19 _ _ A18.told
      have a3:=s19 _ _ A18.aZ
      refine⟨_,rfl,st,_,5,_,rfl,rfl,ay.of a1,bw (j:=5) rfl,_,rfl,st,_,4,_,rfl,rfl,ay.of a1,bw (j:=4) rfl,tl,_,rfl,.inl ⟨aU.of a2,fun t1 n1=>⟨ln2,fun t2 n2=>?_⟩⟩⟩
      have q1:=au.new (o:=.tup (W.told.map V.int)) n1
      have q2:=au.new (o:=.tup [.str W.word,.ref t1]) n2
      have rdue:aS (upd (upd H19 t1 (.tup (W.told.map V.int))) t2 (.tup [.str W.word,.ref t1])) (.ref t2) (fV W):=.tup ae (.cons (.str _) (.cons (.tup (q2 _ _ ae) (ke _)) .nil))
      have s20:=q1.trans q2
      generalize (upd (upd H19 t1 (.tup (W.told.map V.int))) t2 (.tup [.str W.word,.ref t1]))=H20 at q2 rdue s20
      have b1:=s20 _ _ A19.at_
      have b2':=s20 _ _ A19.told
      have b3':=s20 _ _ A19.aZ
      have layR:(fV W).canLay0=true:=AX W lay
      refine⟨_,rfl,st2,_,5,_,rfl,rfl,ay.of b1,bw (j:=5) rfl,_,rfl,st2,_,4,_,rfl,rfl,ay.of b1,bw (j:=4) rfl,tl2,_,rfl,.inl ⟨aU.of b2',fun t3 n3=>⟨ln2,fun t4 n4=>⟨_,rfl,?_⟩⟩⟩⟩
      have q3:=au.new (o:=.tup (W'.told.map V.int)) n3
      have q4:=au.new (o:=.tup [.str W'.word,.ref t3]) n4
      have rth:aS (upd (upd H20 t3 (.tup (W'.told.map V.int))) t4 (.tup [.str W'.word,.ref t3])) (.ref t4) (fV W'):=.tup ae (.cons (.str _) (.cons (.tup (q4 _ _ ae) (ke _)) .nil))
      have s21:=q3.trans q4
      have eR:fV W' = fV W:=by unfold fV;rw [sm.told,sm.word]
      rw [eR] at rth
      generalize (upd (upd H20 t3 (.tup (W'.told.map V.int))) t4 (.tup [.str W'.word,.ref t3]))=H21 at q4 rth s21
      have nlR:bP (fV W)=true:=Bx W
      have depR:=AW W
      refine⟨fV W,fV W,rth,rdue.same s21 nlR,layR,layR,(by omega),_,rfl,?_⟩
      refine aN (by rw [PySem.SeqAt.eqv_refl _ layR];rfl) ?_
      have s1921:=s20.trans s21
      have s1721:=(s18.trans s19).trans s1921
      refine⟨_,rfl,_,rfl,_,rfl,np,.ref op,k,nums,outs,rfl,ro17.same s1721 (cw outs),hinL,hL0,s1721 _ _ hnp17,hk,fun rv H22 rr s22=>?_⟩
      rw [hW',eR] at rr
      refine⟨_,rfl,fV W,fV W,rr,(rdue.same s21 nlR).same s22 nlR,layR,layR,(by omega),_,rfl,?_⟩
      refine aN (by rw [PySem.SeqAt.eqv_refl _ layR];rfl) ?_
      have s1922:=s1921.trans s22
      have c1:=s1922 _ _ A19.at_
      have c3:=s1922 _ _ A19.aZ
      refine⟨_,rfl,st2,_,6,_,rfl,rfl,ay.of c1,bw (j:=6) rfl,bl2,rfl,⟨_,aU.of c3⟩,fun ac na=>?_⟩
      have s1722:=s1721.trans s22
      have hcp22:=s1722 _ _ hcp17
      have rc22:=rc17.same s1722 (qx cc)
      have hbe:W.aZ.length=W'.aZ.length:=by have:=congrArg List.length sm.aZ;simpa using this.symm
      refine pU (K:=K) (a:=bl2) (xs:=W'.aZ.map fun k=>V.int (k:Nat)) (fun i ys τ H'=>∃ t0:Option V,τ = [t0,some (.ref cp)]/\H' ac=some (.lst ys)/\ys=(W.aZ.take i).map (fun k=>V.int (k:Nat))/\au H22 H') ?_ ?_ ?_ ?_
      · exact⟨none,rfl,ae,rfl,au.new na⟩
      · rintro i ys τ H' hi ⟨t0,rfl,ha,rfl,sa⟩
        refine⟨aU.of (sa _ _ c3),ha,?_⟩
        rw [List.length_map,List.length_take]
        have:=A18.bG.2
        exact Nat.lt_of_le_of_lt (show _<=2001 by omega) (by decide)
      · rintro i y ys τ H' hi ⟨t0,rfl,ha,rfl,sa⟩
        obtain⟨j,hj,rfl⟩:∃ j,W'.aZ[i]? = some j/\y=V.int (j:Nat):=by
          rw [List.getElem?_map] at hi
          cases e:W'.aZ[i]? with
          | none=>rw [e] at hi;cases hi
          | some k=>rw [e] at hi;exact⟨k,rfl,(Option.some.inj hi).symm⟩
        have hjl:=hbl j (List.mem_of_getElem? hj)
        have hci:cs[j]? = some cs[j]:=by simp [show j < cs.length by omega]
        generalize cs[j] = c at hci
        have hWi:W.aZ[i]? = some c.1:=by
          have h1:=congrArg (fun l:List (Option Nat)=>l[i]?) sm.aZ
          simp only [List.getElem?_map,hj,Option.map_some] at h1
          rw [hci] at h1
          cases e:W.aZ[i]? with
          | none=>rw [e] at h1;cases h1
          | some k=>rw [e] at h1;cases h1;rfl
        obtain⟨fa,u,hfa,hfa2,_⟩:=ua rc22 cc hci
        refine dC ?_
        refine jv ?_
        refine cm ?_
        refine⟨_,rfl,_,rfl,cp,_,_,_,rfl,rfl,ay.of (sa _ _ hcp22),bw hfa,fa,_,0,_,rfl,rfl,ay.of (sa _ _ hfa2),bH,ha,_,rfl,ae,?_,sa.put na⟩
        rw [List.take_add_one,hWi,List.map_append]
        rfl
      rintro ys τ H23 ⟨t0,rfl,ha,rfl,s23⟩
      rw [List.length_map,<-hbe,List.take_length] at ha
      have s1923:=s1922.trans s23
      have layB:(PyData.list (W.aZ.map fun k=>PyData.int (k:Nat))).canLay0=true:=nU _ fun d hd=>by obtain⟨x,_,rfl⟩:=List.mem_map.mp hd;rfl
      have depB:(PyData.list (W.aZ.map fun k=>PyData.int (k:Nat))).depth<=60:=by
        show PyData.depthAll _+1<=60
        have:=mM (m:=0) (W.aZ.map fun k=>PyData.int (k:Nat)) fun d hd=>by obtain⟨x,_,rfl⟩:=List.mem_map.mp hd;exact Nat.le_refl 0
        omega
      refine⟨_,rfl,st,_,6,_,rfl,rfl,ay.of (s1923 _ _ a1),bw (j:=6) rfl,_,_,.lst ha (mO _),.lst (s1923 _ _ a3) (mO _),layB,layB,(by omega),_,rfl,?_⟩
      refine aN (by rw [PySem.SeqAt.eqv_refl _ layB];rfl) ?_
      have s1723:=s1722.trans s23
      refine⟨_,rfl,_,rfl,_,rfl,np,.ref op,k,nums,outs,rfl,ro17.same s1723 (cw outs),hinL,hL0,s1723 _ _ hnp17,hk,fun sv H24 rs s24=>?_⟩
      rw [hW'] at rs
      refine⟨_,rfl,st2,_,6,_,rfl,rfl,ay.of (s24 _ _ (s23 _ _ c1)),bw (j:=6) rfl,bl2,_,rfl,.inl ⟨aU.of (s24 _ _ (s23 _ _ c3)),fun t5 n5=>?_⟩⟩
      have layS:=zk W'
      have depS:=zj W'
      refine⟨mH W',mH W',rs.same (au.new n5) (zU W'),.tup ae (mO _),layS,layS,(by omega),_,rfl,?_⟩
      refine aN (by rw [PySem.SeqAt.eqv_refl _ layS];rfl) ?_
      have s1724:=(s1723.trans s24).trans (au.new (o:=.tup (W'.aZ.map fun k=>V.int (k:Nat))) n5)
      exact⟨_,_,_,_,_,_,rfl,B17.same s1724,s17.trans s1724⟩
    · rintro σ H13 ⟨u1,u2,u3,u4,u5,u6,rfl,B13,s13⟩
      exact q _
end
theorem all_mk {l:PySem.W.OpenLaw} {w:World} {K:PySem.W.Frag} {h:Heap} {mg:Str->Option Value} {fa:Addr} (X:K.In h) (G:h.Ns mainGlobals mg) (hfa:mg "law" = some (.ref fa))
  {f0:Addr} {od0 an0:Option Addr} {sl0:Array (Option Value)} {oc0 kV0 dc0 pm0 cd0 ct0:Value}
  {f1:Addr} {od1 an1:Option Addr} {sl1:Array (Option Value)} {oc1 kV1 dc1 pm1 cd1 ct1:Value}
  {f2:Addr} {od2 an2:Option Addr} {sl2:Array (Option Value)} {oc2 kV2 dc2 pm2 cd2 ct2:Value}
  {f3:Addr} {od3 an3:Option Addr} {sl3:Array (Option Value)} {oc3 kV3 dc3 pm3 cd3 ct3:Value}
  {f4:Addr} {od4 an4:Option Addr} {sl4:Array (Option Value)} {oc4 kV4 dc4 pm4 cd4 ct4:Value}
  {f5:Addr} {od5 an5:Option Addr} {sl5:Array (Option Value)} {oc5 kV5 dc5 pm5 cd5 ct5:Value}
  {f6:Addr} {od6 an6:Option Addr} {sl6:Array (Option Value)} {oc6 kV6 dc6 pm6 cd6 ct6:Value}
  {f7:Addr} {od7 an7:Option Addr} {sl7:Array (Option Value)} {oc7 kV7 dc7 pm7 cd7 ct7:Value}
  {f8:Addr} {od8 an8:Option Addr} {sl8:Array (Option Value)} {oc8 kV8 dc8 pm8 cd8 ct8:Value}
  {f9:Addr} {od9 an9:Option Addr} {sl9:Array (Option Value)} {oc9 kV9 dc9 pm9 cd9 ct9:Value}
  {f10:Addr} {od10 an10:Option Addr} {sl10:Array (Option Value)} {oc10 kV10 dc10 pm10 cd10 ct10:Value}
  {f11:Addr} {od11 an11:Option Addr} {sl11:Array (Option Value)} {oc11 kV11 dc11 pm11 cd11 ct11:Value}
  {f12:Addr} {od12 an12:Option Addr} {sl12:Array (Option Value)} {oc12 kV12 dc12 pm12 cd12 ct12:Value}
  {f13:Addr} {od13 an13:Option Addr} {sl13:Array (Option Value)} {oc13 kV13 dc13 pm13 cd13 ct13:Value}
  {f14:Addr} {od14 an14:Option Addr} {sl14:Array (Option Value)} {oc14 kV14 dc14 pm14 cd14 ct14:Value}
  {f15:Addr} {od15 an15:Option Addr} {sl15:Array (Option Value)} {oc15 kV15 dc15 pm15 cd15 ct15:Value}
  {f16:Addr} {od16 an16:Option Addr} {sl16:Array (Option Value)} {oc16 kV16 dc16 pm16 cd16 ct16:Value}
  {f17:Addr} {od17 an17:Option Addr} {sl17:Array (Option Value)} {oc17 kV17 dc17 pm17 cd17 ct17:Value}
  {f18:Addr} {od18 an18:Option Addr} {sl18:Array (Option Value)} {oc18 kV18 dc18 pm18 cd18 ct18:Value}
  {f19:Addr} {od19 an19:Option Addr} {sl19:Array (Option Value)} {oc19 kV19 dc19 pm19 cd19 ct19:Value}
  {f20:Addr} {od20 an20:Option Addr} {sl20:Array (Option Value)} {oc20 kV20 dc20 pm20 cd20 ct20:Value}
  {f21:Addr} {od21 an21:Option Addr} {sl21:Array (Option Value)} {oc21 kV21 dc21 pm21 cd21 ct21:Value}
  {f22:Addr} {od22 an22:Option Addr} {sl22:Array (Option Value)} {oc22 kV22 dc22 pm22 cd22 ct22:Value}
  {f23:Addr} {od23 an23:Option Addr} {sl23:Array (Option Value)} {oc23 kV23 dc23 pm23 cd23 ct23:Value}
  {f24:Addr} {od24 an24:Option Addr} {sl24:Array (Option Value)} {oc24 kV24 dc24 pm24 cd24 ct24:Value}
  {f25:Addr} {od25 an25:Option Addr} {sl25:Array (Option Value)} {oc25 kV25 dc25 pm25 cd25 ct25:Value}
  {f26:Addr} {od26 an26:Option Addr} {sl26:Array (Option Value)} {oc26 kV26 dc26 pm26 cd26 ct26:Value}
  {f27:Addr} {od27 an27:Option Addr} {sl27:Array (Option Value)} {oc27 kV27 dc27 pm27 cd27 ct27:Value}
  {f28:Addr} {od28 an28:Option Addr} {sl28:Array (Option Value)} {oc28 kV28 dc28 pm28 cd28 ct28:Value}
  {f29:Addr} {od29 an29:Option Addr} {sl29:Array (Option Value)} {oc29 kV29 dc29 pm29 cd29 ct29:Value}
  {f30:Addr} {od30 an30:Option Addr} {sl30:Array (Option Value)} {oc30 kV30 dc30 pm30 cd30 ct30:Value}
  {f31:Addr} {od31 an31:Option Addr} {sl31:Array (Option Value)} {oc31 kV31 dc31 pm31 cd31 ct31:Value}
  {f32:Addr} {od32 an32:Option Addr} {sl32:Array (Option Value)} {oc32 kV32 dc32 pm32 cd32 ct32:Value}
  {f33:Addr} {od33 an33:Option Addr} {sl33:Array (Option Value)} {oc33 kV33 dc33 pm33 cd33 ct33:Value}
  {f34:Addr} {od34 an34:Option Addr} {sl34:Array (Option Value)} {oc34 kV34 dc34 pm34 cd34 ct34:Value}
  {f35:Addr} {od35 an35:Option Addr} {sl35:Array (Option Value)} {oc35 kV35 dc35 pm35 cd35 ct35:Value}
  {f36:Addr} {od36 an36:Option Addr} {sl36:Array (Option Value)} {oc36 kV36 dc36 pm36 cd36 ct36:Value}
  {f37:Addr} {od37 an37:Option Addr} {sl37:Array (Option Value)} {oc37 kV37 dc37 pm37 cd37 ct37:Value}
  {f38:Addr} {od38 an38:Option Addr} {sl38:Array (Option Value)} {oc38 kV38 dc38 pm38 cd38 ct38:Value}
  {f39:Addr} {od39 an39:Option Addr} {sl39:Array (Option Value)} {oc39 kV39 dc39 pm39 cd39 ct39:Value}
  {f40:Addr} {od40 an40:Option Addr} {sl40:Array (Option Value)} {oc40 kV40 dc40 pm40 cd40 ct40:Value}
  {f41:Addr} {od41 an41:Option Addr} {sl41:Array (Option Value)} {oc41 kV41 dc41 pm41 cd41 ct41:Value}
  {f42:Addr} {od42 an42:Option Addr} {sl42:Array (Option Value)} {oc42 kV42 dc42 pm42 cd42 ct42:Value}
  {f43:Addr} {od43 an43:Option Addr} {sl43:Array (Option Value)} {oc43 kV43 dc43 pm43 cd43 ct43:Value}
  {f44:Addr} {od44 an44:Option Addr} {sl44:Array (Option Value)} {oc44 kV44 dc44 pm44 cd44 ct44:Value}
  {f45:Addr} {od45 an45:Option Addr} {sl45:Array (Option Value)} {oc45 kV45 dc45 pm45 cd45 ct45:Value}
  {f46:Addr} {od46 an46:Option Addr} {sl46:Array (Option Value)} {oc46 kV46 dc46 pm46 cd46 ct46:Value}
  {f47:Addr} {od47 an47:Option Addr} {sl47:Array (Option Value)} {oc47 kV47 dc47 pm47 cd47 ct47:Value}
  {f48:Addr} {od48 an48:Option Addr} {sl48:Array (Option Value)} {oc48 kV48 dc48 pm48 cd48 ct48:Value}
  {f49:Addr} {od49 an49:Option Addr} {sl49:Array (Option Value)} {oc49 kV49 dc49 pm49 cd49 ct49:Value}
  {f50:Addr} {od50 an50:Option Addr} {sl50:Array (Option Value)} {oc50 kV50 dc50 pm50 cd50 ct50:Value}
  {f51:Addr} {od51 an51:Option Addr} {sl51:Array (Option Value)} {oc51 kV51 dc51 pm51 cd51 ct51:Value}
  {f52:Addr} {od52 an52:Option Addr} {sl52:Array (Option Value)} {oc52 kV52 dc52 pm52 cd52 ct52:Value}
  {aA:Addr} {dcA:Option Addr} {nA:Nat} {slA:Array (Option Value)}
  {tk_MOST_TO_LEAD:Tok}
  {aE:Addr} {epE:Nat} {s0:Addr} {hsE0:Int} {tkE0:Tok} {dcE0:Option Addr} {nnE0:Nat} {slE0:Array (Option Value)}  {s1:Addr} {hsE1:Int} {tkE1:Tok} {dcE1:Option Addr} {nnE1:Nat} {slE1:Array (Option Value)} {ttE1_0:Tok} {s2:Addr} {hsE2:Int} {tkE2:Tok} {dcE2:Option Addr} {nnE2:Nat} {slE2:Array (Option Value)} {ttE2_0:Tok} {ttE2_1:Tok} {ttE2_2:Tok} {ttE2_3:Tok} {s3:Addr} {hsE3:Int} {tkE3:Tok} {dcE3:Option Addr} {nnE3:Nat} {slE3:Array (Option Value)} {ttE3_0:Tok} {ttE3_1:Tok} {ttE3_2:Tok} {ttE3_3:Tok}
  {aD:Addr} {epD:Nat} {d0:Addr} {hsD0:Int} {tkD0:Tok} {dcD0:Option Addr} {nnD0:Nat} {slD0:Array (Option Value)} {ttD0_0:Tok} {ttD0_1:Tok} {d1:Addr} {hsD1:Int} {tkD1:Tok} {dcD1:Option Addr} {nnD1:Nat} {slD1:Array (Option Value)} {ttD1_0:Tok} {ttD1_1:Tok} {d2:Addr} {hsD2:Int} {tkD2:Tok} {dcD2:Option Addr} {nnD2:Nat} {slD2:Array (Option Value)} {ttD2_0:Tok} {ttD2_1:Tok} {d3:Addr} {hsD3:Int} {tkD3:Tok} {dcD3:Option Addr} {nnD3:Nat} {slD3:Array (Option Value)} {ttD3_0:Tok} {d4:Addr} {hsD4:Int} {tkD4:Tok} {dcD4:Option Addr} {nnD4:Nat} {slD4:Array (Option Value)} {ttD4_0:Tok}
  {C:Addr}
  {CR:Addr}
  (a0:PySem.W.nsIn K mainGlobals "parts_of_kind" = some (some (.ref f0))) (l0:K.lookup f0=some ⟨oc0,od0,.func (PySem.W.fnOf "parts_of_kind" "parts_of_kind" (aK dM) (aI dM) (ar dM) .none kV0 dc0 pm0 an0 cd0 ct0),sl0⟩) (c0:PySem.W.codeIn K cd0 "parts_of_kind" = true) (k0:PySem.W.keepIn K (.ref f0)=true)
  (a1:PySem.W.nsIn K mainGlobals "ways_on" = some (some (.ref f1))) (l1:K.lookup f1=some ⟨oc1,od1,.func (PySem.W.fnOf "ways_on" "ways_on" (aK gY) (aI gY) (ar gY) .none kV1 dc1 pm1 an1 cd1 ct1),sl1⟩) (c1:PySem.W.codeIn K cd1 "ways_on" = true) (k1:PySem.W.keepIn K (.ref f1)=true)
  (a2:PySem.W.nsIn K mainGlobals "without_ways" = some (some (.ref f2))) (l2:K.lookup f2=some ⟨oc2,od2,.func (PySem.W.fnOf "without_ways" "without_ways" (aK ef) (aI ef) (ar ef) .none kV2 dc2 pm2 an2 cd2 ct2),sl2⟩) (c2:PySem.W.codeIn K cd2 "without_ways" = true) (k2:PySem.W.keepIn K (.ref f2)=true)
  (a3:PySem.W.nsIn K mainGlobals "names_of" = some (some (.ref f3))) (l3:K.lookup f3=some ⟨oc3,od3,.func (PySem.W.fnOf "names_of" "names_of" (aK gn) (aI gn) (ar gn) .none kV3 dc3 pm3 an3 cd3 ct3),sl3⟩) (c3:PySem.W.codeIn K cd3 "names_of" = true) (k3:PySem.W.keepIn K (.ref f3)=true)
  (a4:PySem.W.nsIn K mainGlobals "lies_in" = some (some (.ref f4))) (l4:K.lookup f4=some ⟨oc4,od4,.func (PySem.W.fnOf "lies_in" "lies_in" (aK gZ) (aI gZ) (ar gZ) .none kV4 dc4 pm4 an4 cd4 ct4),sl4⟩) (c4:PySem.W.codeIn K cd4 "lies_in" = true) (k4:PySem.W.keepIn K (.ref f4)=true)
  (a5:PySem.W.nsIn K mainGlobals "part_below" = some (some (.ref f5))) (l5:K.lookup f5=some ⟨oc5,od5,.func (PySem.W.fnOf "part_below" "part_below" (aK fh) (aI fh) (ar fh) .none kV5 dc5 pm5 an5 cd5 ct5),sl5⟩) (c5:PySem.W.codeIn K cd5 "part_below" = true) (k5:PySem.W.keepIn K (.ref f5)=true)
  (a6:PySem.W.nsIn K mainGlobals "part_from" = some (some (.ref f6))) (l6:K.lookup f6=some ⟨oc6,od6,.func (PySem.W.fnOf "part_from" "part_from" (aK fG) (aI fG) (ar fG) .none kV6 dc6 pm6 an6 cd6 ct6),sl6⟩) (c6:PySem.W.codeIn K cd6 "part_from" = true) (k6:PySem.W.keepIn K (.ref f6)=true)
  (a7:PySem.W.nsIn K mainGlobals "part_at" = some (some (.ref f7))) (l7:K.lookup f7=some ⟨oc7,od7,.func (PySem.W.fnOf "part_at" "part_at" (aK g9) (aI g9) (ar g9) .none kV7 dc7 pm7 an7 cd7 ct7),sl7⟩) (c7:PySem.W.codeIn K cd7 "part_at" = true) (k7:PySem.W.keepIn K (.ref f7)=true)
  (a8:PySem.W.nsIn K mainGlobals "part_beside" = some (some (.ref f8))) (l8:K.lookup f8=some ⟨oc8,od8,.func (PySem.W.fnOf "part_beside" "part_beside" (aK eS) (aI eS) (ar eS) .none kV8 dc8 pm8 an8 cd8 ct8),sl8⟩) (c8:PySem.W.codeIn K cd8 "part_beside" = true) (k8:PySem.W.keepIn K (.ref f8)=true)
  (a9:PySem.W.nsIn K mainGlobals "part_of" = some (some (.ref f9))) (l9:K.lookup f9=some ⟨oc9,od9,.func (PySem.W.fnOf "part_of" "part_of" (aK hG) (aI hG) (ar hG) .none kV9 dc9 pm9 an9 cd9 ct9),sl9⟩) (c9:PySem.W.codeIn K cd9 "part_of" = true) (k9:PySem.W.keepIn K (.ref f9)=true)
  (a10:PySem.W.nsIn K mainGlobals "facts_of" = some (some (.ref f10))) (l10:K.lookup f10=some ⟨oc10,od10,.func (PySem.W.fnOf "facts_of" "facts_of" (aK gr) (aI gr) (ar gr) .none kV10 dc10 pm10 an10 cd10 ct10),sl10⟩) (c10:PySem.W.codeIn K cd10 "facts_of" = true) (k10:PySem.W.keepIn K (.ref f10)=true)
  (a11:PySem.W.nsIn K mainGlobals "known" = some (some (.ref f11))) (l11:K.lookup f11=some ⟨oc11,od11,.func (PySem.W.fnOf "known" "known" (aK ja) (aI ja) (ar ja) .none kV11 dc11 pm11 an11 cd11 ct11),sl11⟩) (c11:PySem.W.codeIn K cd11 "known" = true) (k11:PySem.W.keepIn K (.ref f11)=true)
  (a12:PySem.W.nsIn K mainGlobals "with_known" = some (some (.ref f12))) (l12:K.lookup f12=some ⟨oc12,od12,.func (PySem.W.fnOf "with_known" "with_known" (aK fi) (aI fi) (ar fi) .none kV12 dc12 pm12 an12 cd12 ct12),sl12⟩) (c12:PySem.W.codeIn K cd12 "with_known" = true) (k12:PySem.W.keepIn K (.ref f12)=true)
  (a13:PySem.W.nsIn K mainGlobals "moved" = some (some (.ref f13))) (l13:K.lookup f13=some ⟨oc13,od13,.func (PySem.W.fnOf "moved" "moved" (aK jb) (aI jb) (ar jb) .none kV13 dc13 pm13 an13 cd13 ct13),sl13⟩) (c13:PySem.W.codeIn K cd13 "moved" = true) (k13:PySem.W.keepIn K (.ref f13)=true)
  (a14:PySem.W.nsIn K mainGlobals "stretch_behind" = some (some (.ref f14))) (l14:K.lookup f14=some ⟨oc14,od14,.func (PySem.W.fnOf "stretch_behind" "stretch_behind" (aK dq) (aI dq) (ar dq) .none kV14 dc14 pm14 an14 cd14 ct14),sl14⟩) (c14:PySem.W.codeIn K cd14 "stretch_behind" = true) (k14:PySem.W.keepIn K (.ref f14)=true)
  (a15:PySem.W.nsIn K mainGlobals "behind" = some (some (.ref f15))) (l15:K.lookup f15=some ⟨oc15,od15,.func (PySem.W.fnOf "behind" "behind" (aK iC) (aI iC) (ar iC) .none kV15 dc15 pm15 an15 cd15 ct15),sl15⟩) (c15:PySem.W.codeIn K cd15 "behind" = true) (k15:PySem.W.keepIn K (.ref f15)=true)
  (a16:PySem.W.nsIn K mainGlobals "known_beyond" = some (some (.ref f16))) (l16:K.lookup f16=some ⟨oc16,od16,.func (PySem.W.fnOf "known_beyond" "known_beyond" (aK eh) (aI eh) (ar eh) .none kV16 dc16 pm16 an16 cd16 ct16),sl16⟩) (c16:PySem.W.codeIn K cd16 "known_beyond" = true) (k16:PySem.W.keepIn K (.ref f16)=true)
  (a17:PySem.W.nsIn K mainGlobals "leads" = some (some (.ref f17))) (l17:K.lookup f17=some ⟨oc17,od17,.func (PySem.W.fnOf "leads" "leads" (aK jc) (aI jc) (ar jc) .none kV17 dc17 pm17 an17 cd17 ct17),sl17⟩) (c17:PySem.W.codeIn K cd17 "leads" = true) (k17:PySem.W.keepIn K (.ref f17)=true)
  (a18:PySem.W.nsIn K mainGlobals "start" = some (some (.ref f18))) (l18:K.lookup f18=some ⟨oc18,od18,.func (PySem.W.fnOf "start" "start" (aK jd) (aI jd) (ar jd) .none kV18 dc18 pm18 an18 cd18 ct18),sl18⟩) (c18:PySem.W.codeIn K cd18 "start" = true) (k18:PySem.W.keepIn K (.ref f18)=true)
  (a19:PySem.W.findIn K (.ref CR) "__init__" = some (some (.ref f19))) (i19:PySem.W.isFn K (.ref f19)=true) (l19:K.lookup f19=some ⟨oc19,od19,.func (PySem.W.fnOf "__init__" "Row.__init__" (aK en) (aI en) (ar en) .none kV19 dc19 pm19 an19 cd19 ct19),sl19⟩) (c19:PySem.W.codeIn K cd19 "Row.__init__" = true) (k19:PySem.W.keepIn K (.ref f19)=true)
  (a20:PySem.W.findIn K (.ref CR) "place_of" = some (some (.ref f20))) (i20:PySem.W.isFn K (.ref f20)=true) (l20:K.lookup f20=some ⟨oc20,od20,.func (PySem.W.fnOf "place_of" "Row.place_of" (aK er) (aI er) (ar er) .none kV20 dc20 pm20 an20 cd20 ct20),sl20⟩) (c20:PySem.W.codeIn K cd20 "Row.place_of" = true) (k20:PySem.W.keepIn K (.ref f20)=true)
  (a21:PySem.W.nsIn K mainGlobals "reached" = some (some (.ref f21))) (l21:K.lookup f21=some ⟨oc21,od21,.func (PySem.W.fnOf "reached" "reached" (aK hJ) (aI hJ) (ar hJ) .none kV21 dc21 pm21 an21 cd21 ct21),sl21⟩) (c21:PySem.W.codeIn K cd21 "reached" = true) (k21:PySem.W.keepIn K (.ref f21)=true)
  (a22:PySem.W.nsIn K mainGlobals "heads" = some (some (.ref f22))) (l22:K.lookup f22=some ⟨oc22,od22,.func (PySem.W.fnOf "heads" "heads" (aK je) (aI je) (ar je) .none kV22 dc22 pm22 an22 cd22 ct22),sl22⟩) (c22:PySem.W.codeIn K cd22 "heads" = true) (k22:PySem.W.keepIn K (.ref f22)=true)
  (a23:PySem.W.nsIn K mainGlobals "copy_for" = some (some (.ref f23))) (l23:K.lookup f23=some ⟨oc23,od23,.func (PySem.W.fnOf "copy_for" "copy_for" (aK gu) (aI gu) (ar gu) .none kV23 dc23 pm23 an23 cd23 ct23),sl23⟩) (c23:PySem.W.codeIn K cd23 "copy_for" = true) (k23:PySem.W.keepIn K (.ref f23)=true)
  (a24:PySem.W.nsIn K mainGlobals "end_to" = some (some (.ref f24))) (l24:K.lookup f24=some ⟨oc24,od24,.func (PySem.W.fnOf "end_to" "end_to" (aK iD) (aI iD) (ar iD) .none kV24 dc24 pm24 an24 cd24 ct24),sl24⟩) (c24:PySem.W.codeIn K cd24 "end_to" = true) (k24:PySem.W.keepIn K (.ref f24)=true)
  (a25:PySem.W.nsIn K mainGlobals "led_past" = some (some (.ref f25))) (l25:K.lookup f25=some ⟨oc25,od25,.func (PySem.W.fnOf "led_past" "led_past" (aK gx) (aI gx) (ar gx) .none kV25 dc25 pm25 an25 cd25 ct25),sl25⟩) (c25:PySem.W.codeIn K cd25 "led_past" = true) (k25:PySem.W.keepIn K (.ref f25)=true)
  (a26:PySem.W.nsIn K mainGlobals "answer_of" = some (some (.ref f26))) (l26:K.lookup f26=some ⟨oc26,od26,.func (PySem.W.fnOf "answer_of" "answer_of" (aK fH) (aI fH) (ar fH) .none kV26 dc26 pm26 an26 cd26 ct26),sl26⟩) (c26:PySem.W.codeIn K cd26 "answer_of" = true) (k26:PySem.W.keepIn K (.ref f26)=true)
  (a27:PySem.W.findIn K (.ref C) "worth" = some (some (.ref f27))) (i27:PySem.W.isFn K (.ref f27)=true) (l27:K.lookup f27=some ⟨oc27,od27,.func (PySem.W.fnOf "worth" "Stand.worth" (aK eT) (aI eT) (ar eT) .none kV27 dc27 pm27 an27 cd27 ct27),sl27⟩) (c27:PySem.W.codeIn K cd27 "Stand.worth" = true) (k27:PySem.W.keepIn K (.ref f27)=true)
  (a28:PySem.W.findIn K (.ref C) "coming" = some (some (.ref f28))) (i28:PySem.W.isFn K (.ref f28)=true) (l28:K.lookup f28=some ⟨oc28,od28,.func (PySem.W.fnOf "coming" "Stand.coming" (aK eu) (aI eu) (ar eu) .none kV28 dc28 pm28 an28 cd28 ct28),sl28⟩) (c28:PySem.W.codeIn K cd28 "Stand.coming" = true) (k28:PySem.W.keepIn K (.ref f28)=true)
  (a29:PySem.W.findIn K (.ref C) "lacks_number" = some (some (.ref f29))) (i29:PySem.W.isFn K (.ref f29)=true) (l29:K.lookup f29=some ⟨oc29,od29,.func (PySem.W.fnOf "lacks_number" "Stand.lacks_number" (aK cG) (aI cG) (ar cG) .none kV29 dc29 pm29 an29 cd29 ct29),sl29⟩) (c29:PySem.W.codeIn K cd29 "Stand.lacks_number" = true) (k29:PySem.W.keepIn K (.ref f29)=true)
  (a30:PySem.W.findIn K (.ref C) "is_held" = some (some (.ref f30))) (i30:PySem.W.isFn K (.ref f30)=true) (l30:K.lookup f30=some ⟨oc30,od30,.func (PySem.W.fnOf "is_held" "Stand.is_held" (aK dN) (aI dN) (ar dN) .none kV30 dc30 pm30 an30 cd30 ct30),sl30⟩) (c30:PySem.W.codeIn K cd30 "Stand.is_held" = true) (k30:PySem.W.keepIn K (.ref f30)=true)
  (a31:PySem.W.findIn K (.ref C) "take_number" = some (some (.ref f31))) (i31:PySem.W.isFn K (.ref f31)=true) (l31:K.lookup f31=some ⟨oc31,od31,.func (PySem.W.fnOf "take_number" "Stand.take_number" (aK cI) (aI cI) (ar cI) .none kV31 dc31 pm31 an31 cd31 ct31),sl31⟩) (c31:PySem.W.codeIn K cd31 "Stand.take_number" = true) (k31:PySem.W.keepIn K (.ref f31)=true)
  (a32:PySem.W.findIn K (.ref C) "do_deed" = some (some (.ref f32))) (i32:PySem.W.isFn K (.ref f32)=true) (l32:K.lookup f32=some ⟨oc32,od32,.func (PySem.W.fnOf "do_deed" "Stand.do_deed" (aK dP) (aI dP) (ar dP) .none kV32 dc32 pm32 an32 cd32 ct32),sl32⟩) (c32:PySem.W.codeIn K cd32 "Stand.do_deed" = true) (k32:PySem.W.keepIn K (.ref f32)=true)
  (a33:PySem.W.findIn K (.ref C) "come_to" = some (some (.ref f33))) (i33:PySem.W.isFn K (.ref f33)=true) (l33:K.lookup f33=some ⟨oc33,od33,.func (PySem.W.fnOf "come_to" "Stand.come_to" (aK dQ) (aI dQ) (ar dQ) .none kV33 dc33 pm33 an33 cd33 ct33),sl33⟩) (c33:PySem.W.codeIn K cd33 "Stand.come_to" = true) (k33:PySem.W.keepIn K (.ref f33)=true)
  (a34:PySem.W.findIn K (.ref C) "do_end" = some (some (.ref f34))) (i34:PySem.W.isFn K (.ref f34)=true) (l34:K.lookup f34=some ⟨oc34,od34,.func (PySem.W.fnOf "do_end" "Stand.do_end" (aK eB) (aI eB) (ar eB) .none kV34 dc34 pm34 an34 cd34 ct34),sl34⟩) (c34:PySem.W.codeIn K cd34 "Stand.do_end" = true) (k34:PySem.W.keepIn K (.ref f34)=true)
  (a35:PySem.W.findIn K (.ref C) "do_step" = some (some (.ref f35))) (i35:PySem.W.isFn K (.ref f35)=true) (l35:K.lookup f35=some ⟨oc35,od35,.func (PySem.W.fnOf "do_step" "Stand.do_step" (aK dU) (aI dU) (ar dU) .none kV35 dc35 pm35 an35 cd35 ct35),sl35⟩) (c35:PySem.W.codeIn K cd35 "Stand.do_step" = true) (k35:PySem.W.keepIn K (.ref f35)=true)
  (a36:PySem.W.findIn K (.ref C) "__init__" = some (some (.ref f36))) (i36:PySem.W.isFn K (.ref f36)=true) (l36:K.lookup f36=some ⟨oc36,od36,.func (PySem.W.fnOf "__init__" "Stand.__init__" (aK dt) (aI dt) (ar dt) .none kV36 dc36 pm36 an36 cd36 ct36),sl36⟩) (c36:PySem.W.codeIn K cd36 "Stand.__init__" = true) (k36:PySem.W.keepIn K (.ref f36)=true)
  (a37:PySem.W.nsIn K mainGlobals "go_on" = some (some (.ref f37))) (l37:K.lookup f37=some ⟨oc37,od37,.func (PySem.W.fnOf "go_on" "go_on" (aK jf) (aI jf) (ar jf) .none kV37 dc37 pm37 an37 cd37 ct37),sl37⟩) (c37:PySem.W.codeIn K cd37 "go_on" = true) (k37:PySem.W.keepIn K (.ref f37)=true)
  (a38:PySem.W.nsIn K mainGlobals "run_at" = some (some (.ref f38))) (l38:K.lookup f38=some ⟨oc38,od38,.func (PySem.W.fnOf "run_at" "run_at" (aK iE) (aI iE) (ar iE) .none kV38 dc38 pm38 an38 cd38 ct38),sl38⟩) (c38:PySem.W.codeIn K cd38 "run_at" = true) (k38:PySem.W.keepIn K (.ref f38)=true)
  (a39:PySem.W.nsIn K mainGlobals "run" = some (some (.ref f39))) (l39:K.lookup f39=some ⟨oc39,od39,.func (PySem.W.fnOf "run" "run" (aK mP) (aI mP) (ar mP) .none kV39 dc39 pm39 an39 cd39 ct39),sl39⟩) (c39:PySem.W.codeIn K cd39 "run" = true) (k39:PySem.W.keepIn K (.ref f39)=true)
  (a40:PySem.W.nsIn K mainGlobals "seen" = some (some (.ref f40))) (l40:K.lookup f40=some ⟨oc40,od40,.func (PySem.W.fnOf "seen" "seen" (aK km) (aI km) (ar km) .none kV40 dc40 pm40 an40 cd40 ct40),sl40⟩) (c40:PySem.W.codeIn K cd40 "seen" = true) (k40:PySem.W.keepIn K (.ref f40)=true)
  (a41:PySem.W.nsIn K mainGlobals "_law_bag" = some (some (.ref f41))) (l41:K.lookup f41=some ⟨oc41,od41,.func (PySem.W.fnOf "_law_bag" "_law_bag" (aK hR) (aI hR) (ar hR) .none kV41 dc41 pm41 an41 cd41 ct41),sl41⟩) (c41:PySem.W.codeIn K cd41 "_law_bag" = true) (k41:PySem.W.keepIn K (.ref f41)=true)
  (a42:PySem.W.nsIn K mainGlobals "_law_take" = some (some (.ref f42))) (l42:K.lookup f42=some ⟨oc42,od42,.func (PySem.W.fnOf "_law_take" "_law_take" (aK gy) (aI gy) (ar gy) .none kV42 dc42 pm42 an42 cd42 ct42),sl42⟩) (c42:PySem.W.codeIn K cd42 "_law_take" = true) (k42:PySem.W.keepIn K (.ref f42)=true)
  (a43:PySem.W.nsIn K mainGlobals "_law_names" = some (some (.ref f43))) (l43:K.lookup f43=some ⟨oc43,od43,.func (PySem.W.fnOf "_law_names" "_law_names" (aK fI) (aI fI) (ar fI) .none kV43 dc43 pm43 an43 cd43 ct43),sl43⟩) (c43:PySem.W.codeIn K cd43 "_law_names" = true) (k43:PySem.W.keepIn K (.ref f43)=true)
  (a44:PySem.W.nsIn K mainGlobals "_law_number" = some (some (.ref f44))) (l44:K.lookup f44=some ⟨oc44,od44,.func (PySem.W.fnOf "_law_number" "_law_number" (aK fj) (aI fj) (ar fj) .none kV44 dc44 pm44 an44 cd44 ct44),sl44⟩) (c44:PySem.W.codeIn K cd44 "_law_number" = true) (k44:PySem.W.keepIn K (.ref f44)=true)
  (a45:PySem.W.nsIn K mainGlobals "_law_deed" = some (some (.ref f45))) (l45:K.lookup f45=some ⟨oc45,od45,.func (PySem.W.fnOf "_law_deed" "_law_deed" (aK gB) (aI gB) (ar gB) .none kV45 dc45 pm45 an45 cd45 ct45),sl45⟩) (c45:PySem.W.codeIn K cd45 "_law_deed" = true) (k45:PySem.W.keepIn K (.ref f45)=true)
  (a46:PySem.W.nsIn K mainGlobals "_law_end" = some (some (.ref f46))) (l46:K.lookup f46=some ⟨oc46,od46,.func (PySem.W.fnOf "_law_end" "_law_end" (aK hU) (aI hU) (ar hU) .none kV46 dc46 pm46 an46 cd46 ct46),sl46⟩) (c46:PySem.W.codeIn K cd46 "_law_end" = true) (k46:PySem.W.keepIn K (.ref f46)=true)
  (a47:PySem.W.nsIn K mainGlobals "_law_plan" = some (some (.ref f47))) (l47:K.lookup f47=some ⟨oc47,od47,.func (PySem.W.fnOf "_law_plan" "_law_plan" (aK gC) (aI gC) (ar gC) .none kV47 dc47 pm47 an47 cd47 ct47),sl47⟩) (c47:PySem.W.codeIn K cd47 "_law_plan" = true) (k47:PySem.W.keepIn K (.ref f47)=true)
  (a48:PySem.W.nsIn K mainGlobals "_law_count" = some (some (.ref f48))) (l48:K.lookup f48=some ⟨oc48,od48,.func (PySem.W.fnOf "_law_count" "_law_count" (aK fK) (aI fK) (ar fK) .none kV48 dc48 pm48 an48 cd48 ct48),sl48⟩) (c48:PySem.W.codeIn K cd48 "_law_count" = true) (k48:PySem.W.keepIn K (.ref f48)=true)
  (a49:PySem.W.nsIn K mainGlobals "_law_step" = some (some (.ref f49))) (l49:K.lookup f49=some ⟨oc49,od49,.func (PySem.W.fnOf "_law_step" "_law_step" (aK gF) (aI gF) (ar gF) .none kV49 dc49 pm49 an49 cd49 ct49),sl49⟩) (c49:PySem.W.codeIn K cd49 "_law_step" = true) (k49:PySem.W.keepIn K (.ref f49)=true)
  (a50:PySem.W.nsIn K mainGlobals "_law_walk" = some (some (.ref f50))) (l50:K.lookup f50=some ⟨oc50,od50,.func (PySem.W.fnOf "_law_walk" "_law_walk" (aK gG) (aI gG) (ar gG) .none kV50 dc50 pm50 an50 cd50 ct50),sl50⟩) (c50:PySem.W.codeIn K cd50 "_law_walk" = true) (k50:PySem.W.keepIn K (.ref f50)=true)
  (a51:PySem.W.nsIn K mainGlobals "_law_input" = some (some (.ref f51))) (l51:K.lookup f51=some ⟨oc51,od51,.func (PySem.W.fnOf "_law_input" "_law_input" (aK fL) (aI fL) (ar fL) .none kV51 dc51 pm51 an51 cd51 ct51),sl51⟩) (c51:PySem.W.codeIn K cd51 "_law_input" = true) (k51:PySem.W.keepIn K (.ref f51)=true)
  (a52:PySem.W.nsIn K mainGlobals "law" = some (some (.ref f52))) (l52:K.lookup f52=some ⟨oc52,od52,.func (PySem.W.fnOf "law" "law" (aK i6) (aI i6) (ar i6) .none kV52 dc52 pm52 an52 cd52 ct52),sl52⟩) (c52:PySem.W.codeIn K cd52 "law" = true) (k52:PySem.W.keepIn K (.ref f52)=true)
  (z_len:PySem.W.nsIn K mainGlobals "len" = some none)
  (z_zip:PySem.W.nsIn K mainGlobals "zip" = some none)
  (z_tuple:PySem.W.nsIn K mainGlobals "tuple" = some none)
  (z_sorted:PySem.W.nsIn K mainGlobals "sorted" = some none)
  (z_set:PySem.W.nsIn K mainGlobals "set" = some none)
  (z_dict:PySem.W.nsIn K mainGlobals "dict" = some none)
  (z_min:PySem.W.nsIn K mainGlobals "min" = some none)
  (z_max:PySem.W.nsIn K mainGlobals "max" = some none)
  (z_range:PySem.W.nsIn K mainGlobals "range" = some none)
  (z_list:PySem.W.nsIn K mainGlobals "list" = some none)
  (z_int:PySem.W.nsIn K mainGlobals "int" = some none)
  (gA:PySem.W.nsIn K mainGlobals "ALL" = some (some (.ref aA))) (lA:K.lookup aA=some ⟨.type "tuple",dcA,.seq #[.none,.none] nA,slA⟩)
  (g_MOST_TO_LEAD:PySem.W.nsIn K mainGlobals "MOST_TO_LEAD" = some (some (.int 60 tk_MOST_TO_LEAD)))
  (gE:PySem.W.nsIn K mainGlobals "END_PARTS" = some (some (.ref aE))) (lE:K.lookup aE=some ⟨.type "dict",none,.dict #[⟨hsE0,.str "stop" tkE0,.ref s0⟩,⟨hsE1,.str "go" tkE1,.ref s1⟩,⟨hsE2,.str "less" tkE2,.ref s2⟩,⟨hsE3,.str "is" tkE3,.ref s3⟩] epE,#[]⟩) (qE0:K.lookup s0=some ⟨.type "tuple",dcE0,.seq #[] nnE0,slE0⟩) (qE1:K.lookup s1=some ⟨.type "tuple",dcE1,.seq #[.str "piece" ttE1_0] nnE1,slE1⟩) (qE2:K.lookup s2=some ⟨.type "tuple",dcE2,.seq #[.str "name" ttE2_0,.str "number" ttE2_1,.str "piece" ttE2_2,.str "piece" ttE2_3] nnE2,slE2⟩) (qE3:K.lookup s3=some ⟨.type "tuple",dcE3,.seq #[.str "name" ttE3_0,.str "number" ttE3_1,.str "piece" ttE3_2,.str "piece" ttE3_3] nnE3,slE3⟩)
  (gD:PySem.W.nsIn K mainGlobals "DEED_PARTS" = some (some (.ref aD))) (lD:K.lookup aD=some ⟨.type "dict",none,.dict #[⟨hsD0,.str "put" tkD0,.ref d0⟩,⟨hsD1,.str "copy" tkD1,.ref d1⟩,⟨hsD2,.str "add" tkD2,.ref d2⟩,⟨hsD3,.str "read" tkD3,.ref d3⟩,⟨hsD4,.str "tell" tkD4,.ref d4⟩] epD,#[]⟩) (qD0:K.lookup d0=some ⟨.type "tuple",dcD0,.seq #[.str "name" ttD0_0,.str "number" ttD0_1] nnD0,slD0⟩) (qD1:K.lookup d1=some ⟨.type "tuple",dcD1,.seq #[.str "name" ttD1_0,.str "name" ttD1_1] nnD1,slD1⟩) (qD2:K.lookup d2=some ⟨.type "tuple",dcD2,.seq #[.str "name" ttD2_0,.str "number" ttD2_1] nnD2,slD2⟩) (qD3:K.lookup d3=some ⟨.type "tuple",dcD3,.seq #[.str "name" ttD3_0] nnD3,slD3⟩) (qD4:K.lookup d4=some ⟨.type "tuple",dcD4,.seq #[.str "name" ttD4_0] nnD4,slD4⟩)
  (aCC:PySem.W.nsIn K mainGlobals "Stand" = some (some (.ref C))) (pgC:PySem.W.plainGet K C Str.empty=true) (hdC:PySem.W.hasDictIn K C=true) (poC:PySem.W.plainOver K C=true) (saC:PySem.W.findIn K (.ref C) "__setattr__" = some (some (.builtin "object.__setattr__"))) (mkC:PySem.W.makesIn K C=true) (kcC:PySem.W.keepIn K (.ref C)=true)
  (nC_pieces:PySem.W.findIn K (.ref C) "pieces" = some none)
  (nC_passed:PySem.W.findIn K (.ref C) "passed" = some none)
  (nC_place:PySem.W.findIn K (.ref C) "place" = some none)
  (nC_worths:PySem.W.findIn K (.ref C) "worths" = some none)
  (nC_numbers:PySem.W.findIn K (.ref C) "numbers" = some none)
  (nC_taken:PySem.W.findIn K (.ref C) "taken" = some none)
  (nC_spoken:PySem.W.findIn K (.ref C) "spoken" = some none)
  (nC_over:PySem.W.findIn K (.ref C) "over" = some none)
  (aCCR:PySem.W.nsIn K mainGlobals "Row" = some (some (.ref CR))) (pgCR:PySem.W.plainGet K CR Str.empty=true) (hdCR:PySem.W.hasDictIn K CR=true) (poCR:PySem.W.plainOver K CR=true) (saCR:PySem.W.findIn K (.ref CR) "__setattr__" = some (some (.builtin "object.__setattr__"))) (mkCR:PySem.W.makesIn K CR=true) (kcCR:PySem.W.keepIn K (.ref CR)=true)
  (nCR_members:PySem.W.findIn K (.ref CR) "members" = some none)
  (nCR_places:PySem.W.findIn K (.ref CR) "places" = some none) :
  ∃ fd:FuncData,(∀ (s:Shared) (v:Value),BindsTo s fd ⟨[v],[]⟩ [("script",v)])/\∀ base:Heap,K.In base->base.Ns mainGlobals mg->bc l.prog w K mg base bO 10 fa fd ["script"] (rZ K):=by
 have e:=hfa.symm.trans (PySem.W.mg_of X G a52)
 cases e
 have Z:Bl mg:=⟨PySem.W.mg_none_of X G z_len,PySem.W.mg_none_of X G z_zip,PySem.W.mg_none_of X G z_tuple,PySem.W.mg_none_of X G z_sorted,PySem.W.mg_none_of X G z_set,PySem.W.mg_none_of X G z_dict,PySem.W.mg_none_of X G z_min,PySem.W.mg_none_of X G z_max,PySem.W.mg_none_of X G z_range,PySem.W.mg_none_of X G z_list,PySem.W.mg_none_of X G z_int⟩
 have GA:iS K mg aA:=⟨PySem.W.mg_of X G gA,_,_,_,lA⟩
 have G_MOST_TO_LEAD:mg "MOST_TO_LEAD" = some (.int 60 tk_MOST_TO_LEAD):=PySem.W.mg_of X G g_MOST_TO_LEAD
 have GE:tG K mg aE s0 s1 s2 s3:=⟨⟨PySem.W.mg_of X G gE,_,_,lE,(.cons rfl rfl (.cons rfl rfl (.cons rfl rfl (.cons rfl rfl .nil))))⟩,⟨_,_,_,qE0,rfl,rfl,(by show 0<=sizeLine;decide),.nil⟩,⟨_,_,_,qE1,rfl,rfl,(by show 1<=sizeLine;decide),(.cons ⟨_,rfl⟩ .nil)⟩,⟨_,_,_,qE2,rfl,rfl,(by show 4<=sizeLine;decide),(.cons ⟨_,rfl⟩ (.cons ⟨_,rfl⟩ (.cons ⟨_,rfl⟩ (.cons ⟨_,rfl⟩ .nil))))⟩,⟨_,_,_,qE3,rfl,rfl,(by show 4<=sizeLine;decide),(.cons ⟨_,rfl⟩ (.cons ⟨_,rfl⟩ (.cons ⟨_,rfl⟩ (.cons ⟨_,rfl⟩ .nil))))⟩⟩
 have GD:sd K mg aD d0 d1 d2 d3 d4:=⟨⟨PySem.W.mg_of X G gD,_,_,lD,(.cons rfl rfl (.cons rfl rfl (.cons rfl rfl (.cons rfl rfl (.cons rfl rfl .nil)))))⟩,⟨_,_,_,qD0,rfl,rfl,(by show 2<=sizeLine;decide),(.cons ⟨_,rfl⟩ (.cons ⟨_,rfl⟩ .nil))⟩,⟨_,_,_,qD1,rfl,rfl,(by show 2<=sizeLine;decide),(.cons ⟨_,rfl⟩ (.cons ⟨_,rfl⟩ .nil))⟩,⟨_,_,_,qD2,rfl,rfl,(by show 2<=sizeLine;decide),(.cons ⟨_,rfl⟩ (.cons ⟨_,rfl⟩ .nil))⟩,⟨_,_,_,qD3,rfl,rfl,(by show 1<=sizeLine;decide),(.cons ⟨_,rfl⟩ .nil)⟩,⟨_,_,_,qD4,rfl,rfl,(by show 1<=sizeLine;decide),(.cons ⟨_,rfl⟩ .nil)⟩⟩
 have T:jL K C:=⟨⟨pgC,hdC,poC,saC⟩,nC_pieces,nC_passed,nC_place,nC_worths,nC_numbers,nC_taken,nC_spoken,nC_over⟩
 have TR:tU K CR:=⟨⟨pgCR,hdCR,poCR,saCR⟩,nCR_members,nCR_places⟩
 have F0:=aV (st:=dM) l0 c0 k0
 have b0:=F0.binds (ps:=["thing", "kinds", "wanted"]) fun _ _ _ _ _ _ us hl=>match us,hl with | [_,_,_],_=>rfl
 have F1:=aV (st:=gY) l1 c1 k1
 have b1:=F1.binds (ps:=["end"]) fun _ _ _ _ _ _ us hl=>match us,hl with | [_],_=>rfl
 have F2:=aV (st:=ef) l2 c2 k2
 have b2:=F2.binds (ps:=["end"]) fun _ _ _ _ _ _ us hl=>match us,hl with | [_],_=>rfl
 have F3:=aV (st:=gn) l3 c3 k3
 have b3:=F3.binds (ps:=["plan"]) fun _ _ _ _ _ _ us hl=>match us,hl with | [_],_=>rfl
 have F4:=aV (st:=gZ) l4 c4 k4
 have b4:=F4.binds (ps:=["number", "stretch"]) fun _ _ _ _ _ _ us hl=>match us,hl with | [_,_],_=>rfl
 have F5:=aV (st:=fh) l5 c5 k5
 have b5:=F5.binds (ps:=["stretch", "number"]) fun _ _ _ _ _ _ us hl=>match us,hl with | [_,_],_=>rfl
 have F6:=aV (st:=fG) l6 c6 k6
 have b6:=F6.binds (ps:=["stretch", "number"]) fun _ _ _ _ _ _ us hl=>match us,hl with | [_,_],_=>rfl
 have F7:=aV (st:=g9) l7 c7 k7
 have b7:=F7.binds (ps:=["stretch", "number"]) fun _ _ _ _ _ _ us hl=>match us,hl with | [_,_],_=>rfl
 have F8:=aV (st:=eS) l8 c8 k8
 have b8:=F8.binds (ps:=["stretch", "number"]) fun _ _ _ _ _ _ us hl=>match us,hl with | [_,_],_=>rfl
 have F9:=aV (st:=hG) l9 c9 k9
 have b9:=F9.binds (ps:=["stretch", "word", "number", "side"]) fun _ _ _ _ _ _ us hl=>match us,hl with | [_,_,_,_],_=>rfl
 have F10:=aV (st:=gr) l10 c10 k10
 have b10:=F10.binds (ps:=["stretches"]) fun _ _ _ _ _ _ us hl=>match us,hl with | [_],_=>rfl
 have F11:=aV (st:=ja) l11 c11 k11
 have b11:=F11.binds (ps:=["facts", "name"]) fun _ _ _ _ _ _ us hl=>match us,hl with | [_,_],_=>rfl
 have F12:=aV (st:=fi) l12 c12 k12
 have b12:=F12.binds (ps:=["facts", "name", "stretch"]) fun _ _ _ _ _ _ us hl=>match us,hl with | [_,_,_],_=>rfl
 have F13:=aV (st:=jb) l13 c13 k13
 have b13:=F13.binds (ps:=["stretch", "number"]) fun _ _ _ _ _ _ us hl=>match us,hl with | [_,_],_=>rfl
 have F14:=aV (st:=dq) l14 c14 k14
 have b14:=F14.binds (ps:=["stretches", "deed"]) fun _ _ _ _ _ _ us hl=>match us,hl with | [_,_],_=>rfl
 have F15:=aV (st:=iC) l15 c15 k15
 have b15:=F15.binds (ps:=["facts", "deeds"]) fun _ _ _ _ _ _ us hl=>match us,hl with | [_,_],_=>rfl
 have F16:=aV (st:=eh) l16 c16 k16
 have b16:=F16.binds (ps:=["facts", "end"]) fun _ _ _ _ _ _ us hl=>match us,hl with | [_,_],_=>rfl
 have F17:=aV (st:=jc) l17 c17 k17
 have b17:=F17.binds (ps:=["facts", "end"]) fun _ _ _ _ _ _ us hl=>match us,hl with | [_,_],_=>rfl
 have F18:=aV (st:=jd) l18 c18 k18
 have b18:=F18.binds (ps:=["plan"]) fun _ _ _ _ _ _ us hl=>match us,hl with | [_],_=>rfl
 have F19:=aV (st:=en) l19 c19 k19
 have b19:=F19.binds (ps:=["self", "first"]) fun _ _ _ _ _ _ us hl=>match us,hl with | [_,_],_=>rfl
 have F20:=aV (st:=er) l20 c20 k20
 have b20:=F20.binds (ps:=["self", "thing"]) fun _ _ _ _ _ _ us hl=>match us,hl with | [_,_],_=>rfl
 have F21:=aV (st:=hJ) l21 c21 k21
 have b21:=F21.binds (ps:=["plan"]) fun _ _ _ _ _ _ us hl=>match us,hl with | [_],_=>rfl
 have F22:=aV (st:=je) l22 c22 k22
 have b22:=F22.binds (ps:=["plan"]) fun _ _ _ _ _ _ us hl=>match us,hl with | [_],_=>rfl
 have F23:=aV (st:=gu) l23 c23 k23
 have b23:=F23.binds (ps:=["lead", "tops", "places", "most"]) fun _ _ _ _ _ _ us hl=>match us,hl with | [_,_,_,_],_=>rfl
 have F24:=aV (st:=iD) l24 c24 k24
 have b24:=F24.binds (ps:=["end", "ways"]) fun _ _ _ _ _ _ us hl=>match us,hl with | [_,_],_=>rfl
 have F25:=aV (st:=gx) l25 c25 k25
 have b25:=F25.binds (ps:=["plan", "most"]) fun _ _ _ _ _ _ us hl=>match us,hl with | [_,_],_=>rfl
 have F26:=aV (st:=fH) l26 c26 k26
 have b26:=F26.binds (ps:=["stretch", "word", "number"]) fun _ _ _ _ _ _ us hl=>match us,hl with | [_,_,_],_=>rfl
 have F27:=aV (st:=eT) l27 c27 k27
 have b27:=F27.binds (ps:=["self", "name"]) fun _ _ _ _ _ _ us hl=>match us,hl with | [_,_],_=>rfl
 have F28:=aV (st:=eu) l28 c28 k28
 have b28:=F28.binds (ps:=["self"]) fun _ _ _ _ _ _ us hl=>match us,hl with | [_],_=>rfl
 have F29:=aV (st:=cG) l29 c29 k29
 have b29:=F29.binds (ps:=["self"]) fun _ _ _ _ _ _ us hl=>match us,hl with | [_],_=>rfl
 have F30:=aV (st:=dN) l30 c30 k30
 have b30:=F30.binds (ps:=["self"]) fun _ _ _ _ _ _ us hl=>match us,hl with | [_],_=>rfl
 have F31:=aV (st:=cI) l31 c31 k31
 have b31:=F31.binds (ps:=["self"]) fun _ _ _ _ _ _ us hl=>match us,hl with | [_],_=>rfl
 have F32:=aV (st:=dP) l32 c32 k32
 have b32:=F32.binds (ps:=["self", "deed"]) fun _ _ _ _ _ _ us hl=>match us,hl with | [_,_],_=>rfl
 have F33:=aV (st:=dQ) l33 c33 k33
 have b33:=F33.binds (ps:=["self", "piece"]) fun _ _ _ _ _ _ us hl=>match us,hl with | [_,_],_=>rfl
 have F34:=aV (st:=eB) l34 c34 k34
 have b34:=F34.binds (ps:=["self", "end"]) fun _ _ _ _ _ _ us hl=>match us,hl with | [_,_],_=>rfl
 have F35:=aV (st:=dU) l35 c35 k35
 have b35:=F35.binds (ps:=["self"]) fun _ _ _ _ _ _ us hl=>match us,hl with | [_],_=>rfl
 have F36:=aV (st:=dt) l36 c36 k36
 have b36:=F36.binds (ps:=["self", "pieces", "begin", "worths", "numbers"]) fun _ _ _ _ _ _ us hl=>match us,hl with | [_,_,_,_,_],_=>rfl
 have F37:=aV (st:=jf) l37 c37 k37
 have b37:=F37.binds (ps:=["stand", "steps"]) fun _ _ _ _ _ _ us hl=>match us,hl with | [_,_],_=>rfl
 have F38:=aV (st:=iE) l38 c38 k38
 have b38:=F38.binds (ps:=["plan", "piece", "worths", "numbers", "steps"]) fun _ _ _ _ _ _ us hl=>match us,hl with | [_,_,_,_,_],_=>rfl
 have F39:=aV (st:=mP) l39 c39 k39
 have b39:=F39.binds (ps:=["plan", "numbers", "steps"]) fun _ _ _ _ _ _ us hl=>match us,hl with | [_,_,_],_=>rfl
 have F40:=aV (st:=km) l40 c40 k40
 have b40:=F40.binds (ps:=["plan", "numbers", "steps"]) fun _ _ _ _ _ _ us hl=>match us,hl with | [_,_,_],_=>rfl
 have F41:=aV (st:=hR) l41 c41 k41
 have b41:=F41.binds (ps:=["script", "k"]) fun _ _ _ _ _ _ us hl=>match us,hl with | [_,_],_=>rfl
 have F42:=aV (st:=gy) l42 c42 k42
 have b42:=F42.binds (ps:=["bag", "many"]) fun _ _ _ _ _ _ us hl=>match us,hl with | [_,_],_=>rfl
 have F43:=aV (st:=fI) l43 c43 k43
 have b43:=F43.binds (ps:=["bag"]) fun _ _ _ _ _ _ us hl=>match us,hl with | [_],_=>rfl
 have F44:=aV (st:=fj) l44 c44 k44
 have b44:=F44.binds (ps:=["bag"]) fun _ _ _ _ _ _ us hl=>match us,hl with | [_],_=>rfl
 have F45:=aV (st:=gB) l45 c45 k45
 have b45:=F45.binds (ps:=["bag", "names"]) fun _ _ _ _ _ _ us hl=>match us,hl with | [_,_],_=>rfl
 have F46:=aV (st:=hU) l46 c46 k46
 have b46:=F46.binds (ps:=["bag", "names", "count"]) fun _ _ _ _ _ _ us hl=>match us,hl with | [_,_,_],_=>rfl
 have F47:=aV (st:=gC) l47 c47 k47
 have b47:=F47.binds (ps:=["bag", "count", "most"]) fun _ _ _ _ _ _ us hl=>match us,hl with | [_,_,_],_=>rfl
 have F48:=aV (st:=fK) l48 c48 k48
 have b48:=F48.binds (ps:=["bag", "most"]) fun _ _ _ _ _ _ us hl=>match us,hl with | [_,_],_=>rfl
 have F49:=aV (st:=gF) l49 c49 k49
 have b49:=F49.binds (ps:=["plan", "state", "numbers"]) fun _ _ _ _ _ _ us hl=>match us,hl with | [_,_,_],_=>rfl
 have F50:=aV (st:=gG) l50 c50 k50
 have b50:=F50.binds (ps:=["plan", "numbers", "steps"]) fun _ _ _ _ _ _ us hl=>match us,hl with | [_,_,_],_=>rfl
 have F51:=aV (st:=fL) l51 c51 k51
 have b51:=F51.binds (ps:=["bag"]) fun _ _ _ _ _ _ us hl=>match us,hl with | [_],_=>rfl
 have F52:=aV (st:=i6) l52 c52 k52
 refine⟨PySem.W.fnOf "law" "law" (aK i6) (aI i6) (ar i6) .none kV52 dc52 pm52 an52 cd52 ct52,fun s v=>.of_eq rfl,fun base _ _=>?_⟩
 have O_parts_of_kind:Own l.prog w K mg base "parts_of_kind" 1 ["thing", "kinds", "wanted"] (mI K):=⟨⟨_,_,n9 F0 Z ,PySem.W.mg_of X G a0,k0,b0⟩⟩
 have O_ways_on:Own l.prog w K mg base "ways_on" 3 ["end"] jA:=⟨⟨_,_,wO F1 Z GE O_parts_of_kind,PySem.W.mg_of X G a1,k1,b1⟩⟩
 have O_without_ways:Own l.prog w K mg base "without_ways" 4 ["end"] mf:=⟨⟨_,_,pE F2 Z O_ways_on,PySem.W.mg_of X G a2,k2,b2⟩⟩
 have O_names_of:Own l.prog w K mg base "names_of" 3 ["plan"] lZ:=⟨⟨_,_,uB F3 Z GD GE O_parts_of_kind,PySem.W.mg_of X G a3,k3,b3⟩⟩
 have O_lies_in:Own l.prog w K mg base "lies_in" 1 ["number", "stretch"] (qr K):=⟨⟨_,_,wQ F4 Z ,PySem.W.mg_of X G a4,k4,b4⟩⟩
 have O_part_below:Own l.prog w K mg base "part_below" 1 ["stretch", "number"] (iT K ff):=⟨⟨_,_,rR F5 Z ,PySem.W.mg_of X G a5,k5,b5⟩⟩
 have O_part_from:Own l.prog w K mg base "part_from" 1 ["stretch", "number"] (iT K fP):=⟨⟨_,_,uf F6 Z ,PySem.W.mg_of X G a6,k6,b6⟩⟩
 have O_part_at:Own l.prog w K mg base "part_at" 2 ["stretch", "number"] (iT K kW):=⟨⟨_,_,wR F7 Z O_lies_in,PySem.W.mg_of X G a7,k7,b7⟩⟩
 have O_part_beside:Own l.prog w K mg base "part_beside" 1 ["stretch", "number"] (iT K gI):=⟨⟨_,_,qB F8 Z ,PySem.W.mg_of X G a8,k8,b8⟩⟩
 have O_part_of:Own l.prog w K mg base "part_of" 3 ["stretch", "word", "number", "side"] (mN K):=⟨⟨_,_,wU F9 Z O_part_below O_part_from O_part_at O_part_beside,PySem.W.mg_of X G a9,k9,b9⟩⟩
 have O_facts_of:Own l.prog w K mg base "facts_of" 1 ["stretches"] (jQ aA):=⟨⟨_,_,uC F10 Z GA ,PySem.W.mg_of X G a10,k10,b10⟩⟩
 have O_known:Own l.prog w K mg base "known" 1 ["facts", "name"] (qq aA):=⟨⟨_,_,zX F11 Z GA ,PySem.W.mg_of X G a11,k11,b11⟩⟩
 have O_with_known:Own l.prog w K mg base "with_known" 2 ["facts", "name", "stretch"] (jZ aA):=⟨⟨_,_,rS F12 Z GA O_facts_of,PySem.W.mg_of X G a12,k12,b12⟩⟩
 have O_moved:Own l.prog w K mg base "moved" 1 ["stretch", "number"] (qm K):=⟨⟨_,_,zY F13 Z ,PySem.W.mg_of X G a13,k13,b13⟩⟩
 have O_stretch_behind:Own l.prog w K mg base "stretch_behind" 2 ["stretches", "deed"] (kG aA):=⟨⟨_,_,mT F14 Z GA O_moved,PySem.W.mg_of X G a14,k14,b14⟩⟩
 have O_behind:Own l.prog w K mg base "behind" 3 ["facts", "deeds"] nP:=⟨⟨_,_,yD F15 Z GA O_stretch_behind O_facts_of,PySem.W.mg_of X G a15,k15,b15⟩⟩
 have O_known_beyond:Own l.prog w K mg base "known_beyond" 4 ["facts", "end"] (nR aA):=⟨⟨_,_,pF F16 Z GA O_ways_on O_known O_part_of O_with_known,PySem.W.mg_of X G a16,k16,b16⟩⟩
 have O_leads:Own l.prog w K mg base "leads" 5 ["facts", "end"] (qt aA):=⟨⟨_,_,zZ F17 Z O_known_beyond O_ways_on,PySem.W.mg_of X G a17,k17,b17⟩⟩
 have O_start:Own l.prog w K mg base "start" 4 ["plan"] qu:=⟨⟨_,_,z5 F18 Z O_names_of,PySem.W.mg_of X G a18,k18,b18⟩⟩
 have O_Row___init__:pY l.prog w K mg base CR "Row" 1 ["self", "first"] (kM l.prog w CR):=⟨⟨_,_,pG F19 Z TR ,⟨mkCR,a19,i19,kcCR⟩,PySem.W.mg_of X G aCCR,b19⟩⟩
 have O_Row_place_of:eG l.prog w K mg base CR "place_of" 1 ["self", "thing"] (kN l.prog w CR):=⟨TR.cl,⟨_,_,pH F20 Z TR ,⟨a20,i20,k20⟩,b20⟩⟩
 have O_reached:Own l.prog w K mg base "reached" 4 ["plan"] mn:=⟨⟨_,_,wV F21 Z O_ways_on,PySem.W.mg_of X G a21,k21,b21⟩⟩
 have O_heads:Own l.prog w K mg base "heads" 5 ["plan"] qv:=⟨⟨_,_,z6 F22 Z O_reached O_ways_on,PySem.W.mg_of X G a22,k22,b22⟩⟩
 have O_copy_for:Own l.prog w K mg base "copy_for" 1 ["lead", "tops", "places", "most"] (mr l.prog w):=⟨⟨_,_,uD F23 Z ,PySem.W.mg_of X G a23,k23,b23⟩⟩
 have O_end_to:Own l.prog w K mg base "end_to" 5 ["end", "ways"] qw:=⟨⟨_,_,yE F24 Z O_without_ways,PySem.W.mg_of X G a24,k24,b24⟩⟩
 have O_led_past:Own l.prog w K mg base "led_past" 7 ["plan", "most"] (mx l.prog w CR):=⟨⟨_,_,uE F25 Z G_MOST_TO_LEAD TR O_heads O_start O_Row___init__ O_Row_place_of O_behind O_leads O_copy_for O_end_to,PySem.W.mg_of X G a25,k25,b25⟩⟩
 have O_answer_of:Own l.prog w K mg base "answer_of" 4 ["stretch", "word", "number"] vZ:=⟨⟨_,_,ug F26 Z O_part_of,PySem.W.mg_of X G a26,k26,b26⟩⟩
 have O_Stand_worth:eG l.prog w K mg base C "worth" 1 ["self", "name"] (mE C):=⟨T.cl,⟨_,_,qC F27 Z T ,⟨a27,i27,k27⟩,b27⟩⟩
 have O_Stand_coming:eG l.prog w K mg base C "coming" 1 ["self"] (nI C):=⟨T.cl,⟨_,_,pI F28 Z T ,⟨a28,i28,k28⟩,b28⟩⟩
 have O_Stand_lacks_number:eG l.prog w K mg base C "lacks_number" 2 ["self"] (p6 C):=⟨T.cl,⟨_,_,kn F29 Z T O_Stand_coming,⟨a29,i29,k29⟩,b29⟩⟩
 have O_Stand_is_held:eG l.prog w K mg base C "is_held" 3 ["self"] (tq C):=⟨T.cl,⟨_,_,oa F30 Z T O_Stand_lacks_number,⟨a30,i30,k30⟩,b30⟩⟩
 have O_Stand_take_number:eG l.prog w K mg base C "take_number" 1 ["self"] (p7 C):=⟨T.cl,⟨_,_,kU F31 Z T ,⟨a31,i31,k31⟩,b31⟩⟩
 have O_Stand_do_deed:eG l.prog w K mg base C "do_deed" 2 ["self", "deed"] (nJ C):=⟨T.cl,⟨_,_,og F32 Z T O_Stand_worth O_Stand_take_number,⟨a32,i32,k32⟩,b32⟩⟩
 have O_Stand_come_to:eG l.prog w K mg base C "come_to" 1 ["self", "piece"] (tm C):=⟨T.cl,⟨_,_,oh F33 Z T ,⟨a33,i33,k33⟩,b33⟩⟩
 have O_Stand_do_end:eG l.prog w K mg base C "do_end" 5 ["self", "end"] (p8 C):=⟨T.cl,⟨_,_,pJ F34 Z T O_Stand_worth O_Stand_come_to O_answer_of,⟨a34,i34,k34⟩,b34⟩⟩
 have O_Stand_do_step:eG l.prog w K mg base C "do_step" 6 ["self"] (nK C):=⟨T.cl,⟨_,_,oi F35 Z T O_Stand_do_deed O_Stand_do_end,⟨a35,i35,k35⟩,b35⟩⟩
 have O_Stand___init__:pY l.prog w K mg base C "Stand" 1 ["self", "pieces", "begin", "worths", "numbers"] (mG C):=⟨⟨_,_,mU F36 Z T ,⟨mkC,a36,i36,kcC⟩,PySem.W.mg_of X G aCC,b36⟩⟩
 have O_go_on:Own l.prog w K mg base "go_on" 7 ["stand", "steps"] (oQ C):=⟨⟨_,_,z7 F37 Z T O_Stand_is_held O_Stand_do_step,PySem.W.mg_of X G a37,k37,b37⟩⟩
 have O_run_at:Own l.prog w K mg base "run_at" 8 ["plan", "piece", "worths", "numbers", "steps"] qd:=⟨⟨_,_,yF F38 Z T O_Stand___init__ O_go_on,PySem.W.mg_of X G a38,k38,b38⟩⟩
 have O_run:Own l.prog w K mg base "run" 9 ["plan", "numbers", "steps"] wb:=⟨⟨_,_,CO F39 Z O_run_at,PySem.W.mg_of X G a39,k39,b39⟩⟩
 have O_seen:Own l.prog w K mg base "seen" 8 ["plan", "numbers", "steps"] tu:=⟨⟨_,_,By F40 Z T O_Stand___init__ O_go_on,PySem.W.mg_of X G a40,k40,b40⟩⟩
 have O_law_bag:Own l.prog w K mg base "_law_bag" 1 ["script", "k"] (vV K):=⟨⟨_,_,wW F41 Z ,PySem.W.mg_of X G a41,k41,b41⟩⟩
 have O_law_take:Own l.prog w K mg base "_law_take" 1 ["bag", "many"] gN:=⟨⟨_,_,uF F42 Z ,PySem.W.mg_of X G a42,k42,b42⟩⟩
 have O_law_names:Own l.prog w K mg base "_law_names" 2 ["bag"] pV:=⟨⟨_,_,uh F43 Z O_law_take,PySem.W.mg_of X G a43,k43,b43⟩⟩
 have O_law_number:Own l.prog w K mg base "_law_number" 2 ["bag"] ju:=⟨⟨_,_,rT F44 Z O_law_take,PySem.W.mg_of X G a44,k44,b44⟩⟩
 have O_law_deed:Own l.prog w K mg base "_law_deed" 3 ["bag", "names"] sO:=⟨⟨_,_,uG F45 Z O_law_take O_law_number,PySem.W.mg_of X G a45,k45,b45⟩⟩
 have O_law_end:Own l.prog w K mg base "_law_end" 3 ["bag", "names", "count"] sP:=⟨⟨_,_,wX F46 Z O_law_take O_law_number,PySem.W.mg_of X G a46,k46,b46⟩⟩
 have O_law_plan:Own l.prog w K mg base "_law_plan" 4 ["bag", "count", "most"] sQ:=⟨⟨_,_,uH F47 Z O_law_take O_law_names O_law_deed O_law_end,PySem.W.mg_of X G a47,k47,b47⟩⟩
 have O_law_count:Own l.prog w K mg base "_law_count" 2 ["bag", "most"] pW:=⟨⟨_,_,ui F48 Z O_law_take,PySem.W.mg_of X G a48,k48,b48⟩⟩
 have O_law_step:Own l.prog w K mg base "_law_step" 1 ["plan", "state", "numbers"] sY:=⟨⟨_,_,uI F49 Z ,PySem.W.mg_of X G a49,k49,b49⟩⟩
 have O_law_walk:Own l.prog w K mg base "_law_walk" 2 ["plan", "numbers", "steps"] qe:=⟨⟨_,_,uJ F50 Z O_law_step,PySem.W.mg_of X G a50,k50,b50⟩⟩
 have O_law_input:Own l.prog w K mg base "_law_input" 3 ["bag"] nL:=⟨⟨_,_,uj F51 Z O_law_take O_law_number,PySem.W.mg_of X G a51,k51,b51⟩⟩
 exact CP F52 Z TR O_law_bag O_law_take O_law_count O_law_plan O_law_input O_law_walk O_led_past O_run O_seen
theorem walk {l:PySem.W.OpenLaw} {q:Program} {loose:List Str} {XP:(Str->Option Value)->Heap->Prop} {YP:World->Heap->Prop} {d:DefRec} {K:Params->PySem.W.Frag} (hn:l.most=some 63) (hdf:d.params.defaults = [])
  (hY:∀ (w:World) (h:Heap),YP w h->(K w.params).In h)
  (F:∀ (w:World) (mg:Str->Option Value) (fa:Addr) (h:Heap),(K w.params).In h->h.Ns mainGlobals mg->mg d.name=some (.ref fa) ->
   ∃ fd:FuncData,(∀ (s:Shared) (u:Value),BindsTo s fd ⟨[u],[]⟩ [("script",u)])/\∀ base:Heap,(K w.params).In base->base.Ns mainGlobals mg->bc l.prog w (K w.params) mg base bO 10 fa fd ["script"] (rZ (K w.params))) :
  PySem.W.WalkO q loose XP YP l.row.toRowW d [] (fun f vs=>PySem.call f vs) :=
 L2.AO (n:=63) (k:=10) (x := "script") (CX:=fun _=>bO) (sp:=fun w=>rZ (K w.params)) hn (by decide) hdf ⟨rfl,by decide,by decide⟩ hY F (fun _ _ a ns hl _ hS=>⟨a,ns,rfl,hS,hl,fun _=>rfl⟩) fun _ _ _ _ _ z=>z
end My
theorem PySem.W.Fast.tw6767370955767976730:True:=trivial
theorem PySem.W.Fast.tw13801121473115138820:True:=trivial
theorem PySem.W.Fast.tw4607536165167766789:True:=trivial
theorem PySem.W.Fast.tw14563338833461930096:True:=trivial
theorem PySem.W.Fast.tw6855008744609573289:True:=trivial
theorem PySem.W.Fast.tw12027501165881354200:True:=trivial
theorem PySem.W.Fast.tw2610693781868451284:True:=trivial
theorem PySem.W.Fast.tw13640595367272791910:True:=trivial
theorem PySem.W.Fast.tw16204621182238141883:True:=trivial
theorem PySem.W.Fast.tw12703783597327474762:True:=trivial
theorem PySem.W.Fast.tw2128503245672105151:True:=trivial
theorem PySem.W.Fast.tw8230520906608874741:True:=trivial
theorem PySem.W.Fast.tw13373771001402648225:True:=trivial
theorem PySem.W.Fast.tw8973659547161185276:True:=trivial
theorem PySem.W.Fast.tw4888439228579727734:True:=trivial
theorem PySem.W.Fast.tw7986077132837427676:True:=trivial
theorem PySem.W.Fast.tw6346731020011032445:True:=trivial
theorem PySem.W.Fast.tw7349211200888186698:True:=trivial
theorem PySem.W.Fast.tw12364489471638234873:True:=trivial
theorem PySem.W.Fast.tw10084329202726301620:True:=trivial
theorem PySem.W.Fast.tw7620210220321470979:True:=trivial
theorem PySem.W.Fast.tw16794250308912001582:True:=trivial
theorem PySem.W.Fast.tw19700774336147288:True:=trivial
theorem PySem.W.Fast.tw11903127952455560669:True:=trivial
theorem PySem.W.Fast.tw4957345102846573241:True:=trivial
theorem PySem.W.Fast.tw15001247916965303310:True:=trivial
theorem PySem.W.Fast.tw7123078328128042643:True:=trivial
theorem PySem.W.Fast.tw3636669814846276026:True:=trivial
theorem PySem.W.Fast.tw1018997197111581990:True:=trivial
theorem PySem.W.Fast.tw17219426054193278034:True:=trivial
theorem PySem.W.Fast.tw10231003416945460108:True:=trivial
theorem PySem.W.Fast.tw9693598235950533786:True:=trivial
theorem PySem.W.Fast.tw5380299445305762170:True:=trivial
theorem PySem.W.Fast.tw11698165224345352914:True:=trivial
theorem PySem.W.Fast.tw3484496106600383786:True:=trivial
theorem PySem.W.Fast.tw13285350538994806367:True:=trivial
theorem PySem.W.Fast.tw18331491142544528288:True:=trivial
theorem PySem.W.Fast.tw14344489588745699247:True:=trivial
theorem PySem.W.Fast.tw8664929975508822482:True:=trivial
theorem PySem.W.Fast.tw638125524221798820:True:=trivial
theorem PySem.W.Fast.tw5511347832097297553:True:=trivial
theorem PySem.W.Fast.tw3392872236226122629:True:=trivial
theorem PySem.W.Fast.tw3541624116531871072:True:=trivial
theorem PySem.W.Fast.tw12950992233493878431:True:=trivial
theorem PySem.W.Fast.tw4513148729940741456:True:=trivial
theorem PySem.W.Fast.tw9110456255558456333:True:=trivial
theorem PySem.W.Fast.tw12619964714842737554:True:=trivial
theorem PySem.W.Fast.tw9637472968647457406:True:=trivial
theorem PySem.W.Fast.tw16605668113962806983:True:=trivial
theorem PySem.W.Fast.tw10382753392135799705:True:=trivial
theorem PySem.W.Fast.tw124176828730316185:True:=trivial
theorem PySem.W.Fast.tw8584698525680322826:True:=trivial
theorem PySem.W.Fast.tw345261740920206152:True:=trivial
theorem PySem.W.Fast.tw2824612679354671622:True:=trivial
theorem PySem.W.Fast.tw15939157461740338408:True:=trivial
theorem PySem.W.Fast.tw14439319008575367121:True:=trivial
theorem PySem.W.Fast.tw12537711654407560529:True:=trivial
theorem PySem.W.Fast.tw17446524695566787387:True:=trivial
theorem PySem.W.Fast.tw12375536636895576126:True:=trivial
theorem PySem.W.Fast.tw13487352075510455008:True:=trivial
theorem PySem.W.Fast.tw9903041165440802526:True:=trivial
theorem PySem.W.Fast.tw547748699979114265:True:=trivial
theorem PySem.W.Fast.tw11588154979367203816:True:=trivial
theorem PySem.W.Fast.tw165633931378641866:True:=trivial
theorem PySem.W.Fast.tw4979518511860831792:True:=trivial
theorem PySem.W.Fast.tw12922194967989487034:True:=trivial
theorem PySem.W.Fast.tw18400297531291418064:True:=trivial
theorem PySem.W.Fast.tw5083520364839212429:True:=trivial
theorem PySem.W.Fast.tw1821757123504015086:True:=trivial
theorem PySem.W.Fast.tw9956947545959375783:True:=trivial
theorem PySem.W.Fast.tw8028600341300256729:True:=trivial
theorem PySem.W.Fast.tw3040905094127144552:True:=trivial
theorem PySem.W.Fast.tw13792901580172332142:True:=trivial
theorem PySem.W.Fast.tw6295210042343838516:True:=trivial
theorem PySem.W.Fast.tw5246084137936087717:True:=trivial
theorem PySem.W.Fast.tw17587200974280604856:True:=trivial
theorem PySem.W.Fast.tw2756808344262206573:True:=trivial
theorem PySem.W.Fast.tw9527181580365468641:True:=trivial
theorem PySem.W.Fast.tw7015491766998264793:True:=trivial
theorem PySem.W.Fast.tw17349570257437757925:True:=trivial
theorem PySem.W.Fast.tw7951329090242731584:True:=trivial
theorem PySem.W.Fast.tw3980742872630568251:True:=trivial
theorem PySem.W.Fast.tw7039865319114873695:True:=trivial
theorem PySem.W.Fast.tw7000291798478487717:True:=trivial
theorem PySem.W.Fast.tw54855104977325967:True:=trivial
theorem PySem.W.Fast.tw16691300240491662555:True:=trivial
theorem PySem.W.Fast.tw5269278265617475220:True:=trivial
theorem PySem.W.Fast.tw13143555473778866495:True:=trivial
theorem PySem.W.Fast.tw6111412722917495457:True:=trivial
theorem PySem.W.Fast.tw5045591138095282417:True:=trivial
theorem PySem.W.Fast.tw17616953458962648868:True:=trivial
theorem PySem.W.Fast.tw13970229238854413026:True:=trivial
theorem PySem.W.Fast.tw8190422408096487790:True:=trivial
theorem PySem.W.Fast.tw8771565663135288916:True:=trivial
theorem PySem.W.Fast.tw12097088963030597808:True:=trivial
theorem PySem.W.Fast.tw6324137710505430188:True:=trivial
theorem PySem.W.Fast.tw5014401293172003335:True:=trivial
theorem PySem.W.Fast.tw3006988811966003060:True:=trivial
theorem PySem.W.Fast.tw3316035590432125488:True:=trivial
theorem PySem.W.Fast.tw15935021646341827577:True:=trivial
theorem PySem.W.Fast.tw11823177829244291546:True:=trivial
theorem PySem.W.Fast.tw16353416855065150555:True:=trivial
theorem PySem.W.Fast.tw5638245159063472096:True:=trivial
theorem PySem.W.Fast.tw285897727407083237:True:=trivial
theorem PySem.W.Fast.tw2987041200009651311:True:=trivial
theorem PySem.W.Fast.tw11038777401988776834:True:=trivial
theorem PySem.W.Fast.tw16879848788632286443:True:=trivial
theorem PySem.W.Fast.tw8278594119503000607:True:=trivial
theorem PySem.W.Fast.tw12279365330602271595:True:=trivial
theorem PySem.W.Fast.tw16666410871795514193:True:=trivial
theorem PySem.W.Fast.tw2699596153612172119:True:=trivial
theorem PySem.W.Fast.tw5012400991785217049:True:=trivial
theorem PySem.W.Fast.tw17758352826707106798:True:=trivial
theorem PySem.W.Fast.tw16891908207030021538:True:=trivial
theorem PySem.W.Fast.tw9503606943989409720:True:=trivial
theorem PySem.W.Fast.tw16135330660928513401:True:=trivial
theorem PySem.W.Fast.tw7112776887312002709:True:=trivial
theorem PySem.W.Fast.tw5903753206517451380:True:=trivial
theorem PySem.W.Fast.tw7923069286642923162:True:=trivial
theorem PySem.W.Fast.tw16588088222178137014:True:=trivial
theorem PySem.W.Fast.tw7971613879240688584:True:=trivial
theorem PySem.W.Fast.tw2497518284789912887:True:=trivial
theorem PySem.W.Fast.tw9512497478647143654:True:=trivial
theorem PySem.W.Fast.tw5600794825778250472:True:=trivial
theorem PySem.W.Fast.tw16678014648643025164:True:=trivial
theorem PySem.W.Fast.tw14913997068407510953:True:=trivial
theorem PySem.W.Fast.tw16639653097097547169:True:=trivial
theorem PySem.W.Fast.tw11565943813128592467:True:=trivial
theorem PySem.W.Fast.tw15997014340278778655:True:=trivial
theorem PySem.W.Fast.tw15239020214790163606:True:=trivial
theorem PySem.W.Fast.tw12688565187689675284:True:=trivial
theorem PySem.W.Fast.tw10909216458925263795:True:=trivial
theorem PySem.W.Fast.tw17101072854354438653:True:=trivial
theorem PySem.W.Fast.tw12399973907068614659:True:=trivial
theorem PySem.W.Fast.tw14980931969530773444:True:=trivial
theorem PySem.W.Fast.tw11094283895997966047:True:=trivial
theorem PySem.W.Fast.tw5052699861668089529:True:=trivial
theorem PySem.W.Fast.tw9674897229370888123:True:=trivial
open PySem PySem.W PyProof.Rows
set_option maxRecDepth 100000 in
set_option maxHeartbeats 0 in
theorem PySem.Challenge.cw_ledpast_k12_whole_same_tellings_holds : PySem.Challenge.rw_ledpast_k12_whole_same_tellings.Holds := by
 w_on; o_law; k_head; (case hw => w_witness2)
 k_fill
 refine My.walk (l := PySem.Challenge.rw_ledpast_k12_whole_same_tellings) rfl rfl (fun w h Y => PySem.W.kIn_of Y) ?F
 case F =>
  intro w mg fa h KX G hmg
  refine' My.all_mk KX G hmg ?a0 ?l0 ?c0 ?k0 ?a1 ?l1 ?c1 ?k1 ?a2 ?l2 ?c2 ?k2 ?a3 ?l3 ?c3 ?k3 ?a4 ?l4 ?c4 ?k4 ?a5 ?l5 ?c5 ?k5 ?a6 ?l6 ?c6 ?k6 ?a7 ?l7 ?c7 ?k7 ?a8 ?l8 ?c8 ?k8 ?a9 ?l9 ?c9 ?k9 ?a10 ?l10 ?c10 ?k10 ?a11 ?l11 ?c11 ?k11 ?a12 ?l12 ?c12 ?k12 ?a13 ?l13 ?c13 ?k13 ?a14 ?l14 ?c14 ?k14 ?a15 ?l15 ?c15 ?k15 ?a16 ?l16 ?c16 ?k16 ?a17 ?l17 ?c17 ?k17 ?a18 ?l18 ?c18 ?k18 ?a19 ?i19 ?l19 ?c19 ?k19 ?a20 ?i20 ?l20 ?c20 ?k20 ?a21 ?l21 ?c21 ?k21 ?a22 ?l22 ?c22 ?k22 ?a23 ?l23 ?c23 ?k23 ?a24 ?l24 ?c24 ?k24 ?a25 ?l25 ?c25 ?k25 ?a26 ?l26 ?c26 ?k26 ?a27 ?i27 ?l27 ?c27 ?k27 ?a28 ?i28 ?l28 ?c28 ?k28 ?a29 ?i29 ?l29 ?c29 ?k29 ?a30 ?i30 ?l30 ?c30 ?k30 ?a31 ?i31 ?l31 ?c31 ?k31 ?a32 ?i32 ?l32 ?c32 ?k32 ?a33 ?i33 ?l33 ?c33 ?k33 ?a34 ?i34 ?l34 ?c34 ?k34 ?a35 ?i35 ?l35 ?c35 ?k35 ?a36 ?i36 ?l36 ?c36 ?k36 ?a37 ?l37 ?c37 ?k37 ?a38 ?l38 ?c38 ?k38 ?a39 ?l39 ?c39 ?k39 ?a40 ?l40 ?c40 ?k40 ?a41 ?l41 ?c41 ?k41 ?a42 ?l42 ?c42 ?k42 ?a43 ?l43 ?c43 ?k43 ?a44 ?l44 ?c44 ?k44 ?a45 ?l45 ?c45 ?k45 ?a46 ?l46 ?c46 ?k46 ?a47 ?l47 ?c47 ?k47 ?a48 ?l48 ?c48 ?k48 ?a49 ?l49 ?c49 ?k49 ?a50 ?l50 ?c50 ?k50 ?a51 ?l51 ?c51 ?k51 ?a52 ?l52 ?c52 ?k52 ?z_len ?z_zip ?z_tuple ?z_sorted ?z_set ?z_dict ?z_min ?z_max ?z_range ?z_list ?z_int ?gA ?lA ?g_MOST_TO_LEAD ?gE ?lE ?qE0 ?qE1 ?qE2 ?qE3 ?gD ?lD ?qD0 ?qD1 ?qD2 ?qD3 ?qD4 ?aCC ?pgC ?hdC ?poC ?saC ?mkC ?kcC ?nC_pieces ?nC_passed ?nC_place ?nC_worths ?nC_numbers ?nC_taken ?nC_spoken ?nC_over ?aCCR ?pgCR ?hdCR ?poCR ?saCR ?mkCR ?kcCR ?nCR_members ?nCR_places
  (case gA => k_is)
  (case lA => k_is)
  (case g_MOST_TO_LEAD => k_is)
  (case gE => k_is)
  (case lE => k_is)
  (case qE0 => k_is)
  (case qE1 => k_is)
  (case qE2 => k_is)
  (case qE3 => k_is)
  (case gD => k_is)
  (case lD => k_is)
  (case qD0 => k_is)
  (case qD1 => k_is)
  (case qD2 => k_is)
  (case qD3 => k_is)
  (case qD4 => k_is)
  (case aCC => k_is)
  (case pgC => k_is)
  (case hdC => k_is)
  (case poC => k_is)
  (case saC => k_is)
  (case mkC => k_is)
  (case kcC => k_is)
  (case nC_pieces => k_is)
  (case nC_passed => k_is)
  (case nC_place => k_is)
  (case nC_worths => k_is)
  (case nC_numbers => k_is)
  (case nC_taken => k_is)
  (case nC_spoken => k_is)
  (case nC_over => k_is)
  (case aCCR => k_is)
  (case pgCR => k_is)
  (case hdCR => k_is)
  (case poCR => k_is)
  (case saCR => k_is)
  (case mkCR => k_is)
  (case kcCR => k_is)
  (case nCR_members => k_is)
  (case nCR_places => k_is)
  (case a0 => k_is)
  (case l0 => k_is)
  (case c0 => k_is)
  (case k0 => k_is)
  (case a1 => k_is)
  (case l1 => k_is)
  (case c1 => k_is)
  (case k1 => k_is)
  (case a2 => k_is)
  (case l2 => k_is)
  (case c2 => k_is)
  (case k2 => k_is)
  (case a3 => k_is)
  (case l3 => k_is)
  (case c3 => k_is)
  (case k3 => k_is)
  (case a4 => k_is)
  (case l4 => k_is)
  (case c4 => k_is)
  (case k4 => k_is)
  (case a5 => k_is)
  (case l5 => k_is)
  (case c5 => k_is)
  (case k5 => k_is)
  (case a6 => k_is)
  (case l6 => k_is)
  (case c6 => k_is)
  (case k6 => k_is)
  (case a7 => k_is)
  (case l7 => k_is)
  (case c7 => k_is)
  (case k7 => k_is)
  (case a8 => k_is)
  (case l8 => k_is)
  (case c8 => k_is)
  (case k8 => k_is)
  (case a9 => k_is)
  (case l9 => k_is)
  (case c9 => k_is)
  (case k9 => k_is)
  (case a10 => k_is)
  (case l10 => k_is)
  (case c10 => k_is)
  (case k10 => k_is)
  (case a11 => k_is)
  (case l11 => k_is)
  (case c11 => k_is)
  (case k11 => k_is)
  (case a12 => k_is)
  (case l12 => k_is)
  (case c12 => k_is)
  (case k12 => k_is)
  (case a13 => k_is)
  (case l13 => k_is)
  (case c13 => k_is)
  (case k13 => k_is)
  (case a14 => k_is)
  (case l14 => k_is)
  (case c14 => k_is)
  (case k14 => k_is)
  (case a15 => k_is)
  (case l15 => k_is)
  (case c15 => k_is)
  (case k15 => k_is)
  (case a16 => k_is)
  (case l16 => k_is)
  (case c16 => k_is)
  (case k16 => k_is)
  (case a17 => k_is)
  (case l17 => k_is)
  (case c17 => k_is)
  (case k17 => k_is)
  (case a18 => k_is)
  (case l18 => k_is)
  (case c18 => k_is)
  (case k18 => k_is)
  (case a19 => k_is)
  (case i19 => k_is)
  (case l19 => k_is)
  (case c19 => k_is)
  (case k19 => k_is)
  (case a20 => k_is)
  (case i20 => k_is)
  (case l20 => k_is)
  (case c20 => k_is)
  (case k20 => k_is)
  (case a21 => k_is)
  (case l21 => k_is)
  (case c21 => k_is)
  (case k21 => k_is)
  (case a22 => k_is)
  (case l22 => k_is)
  (case c22 => k_is)
  (case k22 => k_is)
  (case a23 => k_is)
  (case l23 => k_is)
  (case c23 => k_is)
  (case k23 => k_is)
  (case a24 => k_is)
  (case l24 => k_is)
  (case c24 => k_is)
  (case k24 => k_is)
  (case a25 => k_is)
  (case l25 => k_is)
  (case c25 => k_is)
  (case k25 => k_is)
  (case a26 => k_is)
  (case l26 => k_is)
  (case c26 => k_is)
  (case k26 => k_is)
  (case a27 => k_is)
  (case i27 => k_is)
  (case l27 => k_is)
  (case c27 => k_is)
  (case k27 => k_is)
  (case a28 => k_is)
  (case i28 => k_is)
  (case l28 => k_is)
  (case c28 => k_is)
  (case k28 => k_is)
  (case a29 => k_is)
  (case i29 => k_is)
  (case l29 => k_is)
  (case c29 => k_is)
  (case k29 => k_is)
  (case a30 => k_is)
  (case i30 => k_is)
  (case l30 => k_is)
  (case c30 => k_is)
  (case k30 => k_is)
  (case a31 => k_is)
  (case i31 => k_is)
  (case l31 => k_is)
  (case c31 => k_is)
  (case k31 => k_is)
  (case a32 => k_is)
  (case i32 => k_is)
  (case l32 => k_is)
  (case c32 => k_is)
  (case k32 => k_is)
  (case a33 => k_is)
  (case i33 => k_is)
  (case l33 => k_is)
  (case c33 => k_is)
  (case k33 => k_is)
  (case a34 => k_is)
  (case i34 => k_is)
  (case l34 => k_is)
  (case c34 => k_is)
  (case k34 => k_is)
  (case a35 => k_is)
  (case i35 => k_is)
  (case l35 => k_is)
  (case c35 => k_is)
  (case k35 => k_is)
  (case a36 => k_is)
  (case i36 => k_is)
  (case l36 => k_is)
  (case c36 => k_is)
  (case k36 => k_is)
  (case a37 => k_is)
  (case l37 => k_is)
  (case c37 => k_is)
  (case k37 => k_is)
  (case a38 => k_is)
  (case l38 => k_is)
  (case c38 => k_is)
  (case k38 => k_is)
  (case a39 => k_is)
  (case l39 => k_is)
  (case c39 => k_is)
  (case k39 => k_is)
  (case a40 => k_is)
  (case l40 => k_is)
  (case c40 => k_is)
  (case k40 => k_is)
  (case a41 => k_is)
  (case l41 => k_is)
  (case c41 => k_is)
  (case k41 => k_is)
  (case a42 => k_is)
  (case l42 => k_is)
  (case c42 => k_is)
  (case k42 => k_is)
  (case a43 => k_is)
  (case l43 => k_is)
  (case c43 => k_is)
  (case k43 => k_is)
  (case a44 => k_is)
  (case l44 => k_is)
  (case c44 => k_is)
  (case k44 => k_is)
  (case a45 => k_is)
  (case l45 => k_is)
  (case c45 => k_is)
  (case k45 => k_is)
  (case a46 => k_is)
  (case l46 => k_is)
  (case c46 => k_is)
  (case k46 => k_is)
  (case a47 => k_is)
  (case l47 => k_is)
  (case c47 => k_is)
  (case k47 => k_is)
  (case a48 => k_is)
  (case l48 => k_is)
  (case c48 => k_is)
  (case k48 => k_is)
  (case a49 => k_is)
  (case l49 => k_is)
  (case c49 => k_is)
  (case k49 => k_is)
  (case a50 => k_is)
  (case l50 => k_is)
  (case c50 => k_is)
  (case k50 => k_is)
  (case a51 => k_is)
  (case l51 => k_is)
  (case c51 => k_is)
  (case k51 => k_is)
  (case a52 => k_is)
  (case l52 => k_is)
  (case c52 => k_is)
  (case k52 => k_is)
  (case z_len => k_is)
  (case z_zip => k_is)
  (case z_tuple => k_is)
  (case z_sorted => k_is)
  (case z_set => k_is)
  (case z_dict => k_is)
  (case z_min => k_is)
  (case z_max => k_is)
  (case z_range => k_is)
  (case z_list => k_is)
  (case z_int => k_is)
