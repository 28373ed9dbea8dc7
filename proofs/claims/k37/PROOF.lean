import PyProof.Rows.All
import Wide.All
import OpenK.AllK
import Wide.FinOn
import Lean
import PyProof.EqAt
import PyProof.EqKinds
import PyProof.TupleCall
import PyProof.NeData
import PyProof.DictCompW
import PyProof.EnumMake
import PyProof.Draws
import PySem.Challenge.RW_ledpast_k37_whole_spare_tells_the_same
set_option maxHeartbeats 8000000
set_option Elab.async false
set_option linter.all false
set_option maxRecDepth 100000
namespace L2
open PySem PySem.Spec PyProof.Rows
abbrev Key:=Sum Int Str
def iz:Key->Value->Bool
 | .inl k,v=>Value.isInt k v
 | .inr x,v=>Value.isStrOf x v
def AU (w:World):Key->Int
 | .inl k=>hashInt k
 | .inr x=>hashStr w x
theorem cD:∀ {k:Key} {v:Value},iz k v=true->(∃ i t,k=Sum.inl i/\v=Value.int i t)\/(∃ x t,k=Sum.inr x/\v=Value.str x t)
 | .inl i,v,h=>by
  obtain⟨t,e⟩:=Value.isInt_shape (k:=i) (v:=v) h
  exact .inl ⟨i,t,rfl,e⟩
 | .inr x,v,h=>by
  obtain⟨t,e⟩:=Value.isStrOf_shape (x:=x) (v:=v) h
  exact .inr ⟨x,t,rfl,e⟩
theorem uu (i:Int) (t:Tok):iz (.inl i) (.int i t)=true:=by simp [iz,Value.isInt]
theorem uv (x:Str) (t:Tok):iz (.inr x) (.str x t)=true:=by simp [iz,Value.isStrOf]
theorem y0 (a b:Int):decide ((Sum.inl a:Key)=Sum.inl b)=(a == b):=by
 by_cases e:a=b
 ·subst e;simp
 ·have h:¬ (Sum.inl a:Key)=Sum.inl b:=fun q=>e (Sum.inl.inj q)
  rw [decide_eq_false h]
  exact (beq_eq_false_iff_ne.mpr e).symm
theorem y3 (a b:Str):decide ((Sum.inr a:Key)=Sum.inr b)=decide (a=b):=by
 by_cases e:a=b
 ·subst e;simp
 ·have h:¬ (Sum.inr a:Key)=Sum.inr b:=fun q=>e (Sum.inr.inj q)
  rw [decide_eq_false h,decide_eq_false e]
theorem y4 (a:Int) (b:Str):decide ((Sum.inl a:Key)=Sum.inr b)=false:=decide_eq_false (fun q=>nomatch q)
theorem y6 (a:Str) (b:Int):decide ((Sum.inr a:Key)=Sum.inl b)=false:=decide_eq_false (fun q=>nomatch q)
def aN (prog:Program) (w:World):PySem.KeyKind prog w Key where
 is:=iz
 hash:=AU w
 inj:=fun v a b ha hb=>by
  rcases cD ha with ⟨i,t,rfl,rfl⟩ | ⟨x,t,rfl,rfl⟩
  ·rcases cD hb with ⟨j,u,rfl,e⟩ | ⟨y,u,rfl,e⟩
   ·injection e with e1 _;rw [e1]
   ·exact nomatch e
  ·rcases cD hb with ⟨j,u,rfl,e⟩ | ⟨y,u,rfl,e⟩
   ·exact nomatch e
   ·injection e with e1 _;rw [e1]
 byValue:=fun k v h=>by
  rcases cD h with ⟨i,t,rfl,rfl⟩ | ⟨x,t,rfl,rfl⟩ <;> rfl
 pyHash:=fun hv h=>by
  rcases cD hv with ⟨i,t,rfl,rfl⟩ | ⟨x,t,rfl,rfl⟩
  ·exact wpAny_pyHash_int h
  ·exact wpAny_pyHash_str h
 eqBool:=fun hu hv h=>by
  rcases cD hu with ⟨i,t,rfl,rfl⟩ | ⟨x,t,rfl,rfl⟩
  ·rcases cD hv with ⟨j,u,rfl,rfl⟩ | ⟨y,u,rfl,rfl⟩
   ·rw [y0] at h;exact wpAny_eqBool_int h
   ·rw [y4] at h;exact SeqAt.EqAt.int_str i t y u _ _ _ _ h
  ·rcases cD hv with ⟨j,u,rfl,rfl⟩ | ⟨y,u,rfl,rfl⟩
   ·rw [y6] at h;exact SeqAt.EqAt.str_int x t j u _ _ _ _ h
   ·rw [y3] at h;exact wpAny_eqBool_str h
 «strs»:=fun k x t v h=>by
  rcases cD h with ⟨i,u,rfl,e⟩ | ⟨y,u,rfl,e⟩
  ·exact nomatch e
  ·injection e with e1 _
   subst e1
   cases v <;> rfl
theorem lF (prog:Program) (w:World) (i:Int) (t:Tok):(aN prog w).is (.inl i) (.int i t)=true:=uu i t
theorem lG (prog:Program) (w:World) (x:Str) (t:Tok):(aN prog w).is (.inr x) (.str x t)=true:=uv x t
inductive V where
 | bx | bl (b:Bool) | int (i:Int) | str (x:Str) | iL (b:Array UInt8) | uw (b:UInt64) | ref (a:Addr) | ty (n:String)
 deriving DecidableEq
def RelV:V->Value->Prop
 | .bx,u=>u=Value.none
 | .bl b,u=>u=Value.bool b
 | .int i,u=>∃ t,u=Value.int i t
 | .str x,u=>∃ t,u=Value.str x t
 | .iL b,u=>∃ t,u=Value.bytes b t
 | .uw b,u=>∃ t,u=Value.float b t
 | .ref a,u=>u=Value.ref a
 | .ty n,u=>u=Value.type n
abbrev Vals:List V->List Value->Prop:=Paired RelV
theorem Vals.length {xs:List V} {us:List Value} (r:Vals xs us):xs.length=us.length:=Paired.length r
theorem Vals.get:∀ {xs:List V} {us:List Value} {i:Nat} {x:V},Vals xs us->xs[i]? = some x->∃ u,us[i]? = some u/\RelV x u
 | _,_,_,_,.nil,e=>by simp at e
 | _,_,0,_,.cons r _,e=>by simp at e;subst e;exact⟨_,rfl,r⟩
 | _,_,i+1,x,.cons _ t,e=>by
  obtain⟨u,h1,h2⟩:=Vals.get (i:=i) (x:=x) t (by simpa using e)
  exact⟨u,by simpa using h1,h2⟩
theorem Vals.set {x:V} {u:Value} (r:RelV x u):∀ {xs:List V} {us:List Value} (i:Nat),Vals xs us->Vals (xs.set i x) (us.set i u)
 | _,_,_,.nil=>.nil
 | _,_,0,.cons _ t=>.cons r t
 | _,_,i+1,.cons q t=>.cons q (Vals.set r i t)
theorem Vals.append:∀ {xs ys:List V} {us ws:List Value},Vals xs us->Vals ys ws->Vals (xs++ys) (us++ws)
 | _,_,_,_,.nil,s=>s
 | _,_,_,_,.cons r t,s=>.cons r (Vals.append t s)
theorem Vals.take:∀ {xs:List V} {us:List Value} (n:Nat),Vals xs us->Vals (xs.take n) (us.take n)
 | _,_,0,_=>.nil
 | _,_,_+1,.nil=>.nil
 | _,_,n+1,.cons r t=>.cons r (Vals.take n t)
theorem Vals.drop:∀ {xs:List V} {us:List Value} (n:Nat),Vals xs us->Vals (xs.drop n) (us.drop n)
 | _,_,0,r=>r
 | _,_,_+1,.nil=>.nil
 | _,_,n+1,.cons _ t=>Vals.drop n t
def fS:Option V->Option Value->Prop
 | some v,some u=>RelV v u
 | none,none=>True
 | _,_=>False
def KV {κ : Type}:List (κ × V)->List (κ × Value)->Prop:=Paired fun (p:κ × V) (q:κ × Value)=>p.1=q.1/\RelV p.2 q.2
def kV:Key->V
 | .inl i=>.int i
 | .inr x=>.str x
inductive HO where
 | lst (xs:List V)
 | tup (xs:List V)
 | dK (kvs:List (Key × V)) | dT (kvs:List (List Key × V))
 | set (S:Int->Bool) (n:Nat)
 | ins (C dx:Addr) (fs:List (Str × V))
 | own (x:Addr)
 | xd (fs:List (Str × V))
 | met (f x:Addr)
 | y7 (lo hi:Int)
 | eW (o:Obj) (u:HO)
 | kd (ps:Array Value)
 | ext (φ : Heap->Prop)
abbrev Hp:=Addr->Option HO
def upd (H:Hp) (a:Addr) (o:HO):Hp:=fun b=>if b=a then some o else H b
theorem aa {H:Hp} {a:Addr} {o:HO}:upd H a o a=some o:=by unfold upd;rw [if_pos rfl]
theorem af {H:Hp} {a b:Addr} {o:HO} (h:b ≠ a):upd H a o b=H b:=by unfold upd;rw [if_neg h]
theorem bI {H:Hp} {a b:Addr} {o u:HO} (h:H a=some o) (h':H b=some u) (d:o ≠ u):a ≠ b:=by
 intro e;subst e;rw [h] at h';exact d (Option.some.inj h')
theorem aw {H:Hp} {a b:Addr} {o:HO} (h:H a=some o) (h':H b=none):a ≠ b:=by
 intro e;subst e;rw [h] at h';cases h'
section
variable (P:Program) (w:World)
def bV (H:Hp) (h:Heap) (a:Addr):HO->Prop
 | .lst xs=>xs.length<=sizeLine/\∃ (its:List Value) (n:Nat),Vals xs its/\h.get? a=some { cls:=.type "list",data:=.seq its.toArray n }
 | .tup xs=>xs.length<=sizeLine/\∃ its:List Value,Vals xs its/\∃ o,h.get? a=some o/\o.cls=.type "tuple" /\ ∃ n,o.data=.seq its.toArray n/\o.dict=none
 | .dK kvs=>kvs.length<=sizeLine/\(a == sysModules)=false/\∃ vs,KV kvs vs/\h.DictOf (aN P w) a vs
 | .dT kvs=>kvs.length<=sizeLine/\(a == sysModules)=false/\∃ xs:List (List Key × Addr × Value),
   Paired (fun (p:List Key × V) (q:List Key × Addr × Value)=>p.1=q.1/\H q.2.1=some (.tup (p.1.map kV))/\RelV p.2 q.2.2) kvs xs /\
   ∃ o es ep,h.get? a=some o/\o.ExactDict/\o.data=.dict es ep/\es.toList=xs.map (entryOfKey (tupleKind (aN P w)))/\(xs.map (·.1)).Nodup
 | .set S n=>h.SetOf (intKind P w) a S n
 | .ins C dx fs=>H dx=some (.own a)/\fs.length<=1000/\dx ≠ a/\h.get? a=some (PySem.W.instObj C dx) /\
   ∃ mA,h.Ns1 dx mA/\(∀ f,fS (fs.lookup f) (mA f))/\PySem.Within mA (fs.map (·.1))
 | .own _=>∃ o,h.get? a=some o
 | .xd fs=>∃ mA,h.Ns1 a mA/\∀ f,fS (fs.lookup f) (mA f)
 | .y7 lo hi=>∃ t u v,h.get? a=some { cls:=.type "range",data:=.fields #[.int lo t,.int hi u,.int 1 v] }
 | .eW o u=>h.get? a=some o/\bV H h a u
 | .kd ps=>h.get? a=some { cls:=.none,data:=.fields ps }
 | .met f x=>h.get? a=some (PySem.W.methodObj (.ref f) (.ref x))
 | .ext φ=>φ h/\(∃ o,h.get? a=some o)/\∀ h1 h2:Heap,φ h1->(∀ o,h1.get? a=some o->h2.get? a=some o)->φ h2
def dm (H:Hp) (h:Heap):Prop:=∀ a o,H a=some o->bV P w H h a o
end
section
variable {P:Program} {w:World} {H H':Hp} {h h':Heap} {a:Addr} {o:HO}
theorem bV.lt (x:bV P w H h a o):a < h.objs.size:=by
 cases o with
 | lst xs=>obtain⟨_,_,_,_,e⟩:=x;exact Heap.lt_size e
 | tup xs=>obtain⟨_,_,_,p⟩:=x;exact (let ⟨o,e,_⟩:=p;Heap.lt_size e)
 | dK kvs=>obtain⟨_,_,_,_,o,_,_,e,_⟩:=x;exact Heap.lt_size e
 | dT kvs=>obtain⟨_,_,_,_,o,_,_,e,_⟩:=x;exact Heap.lt_size e
 | set S n=>obtain⟨o,_,_,_,e,_⟩:=x;exact Heap.lt_size e
 | ins C dx fs=>obtain⟨_,_,_,e,_⟩:=x;exact Heap.lt_size e
 | own y=>obtain⟨_,e⟩:=x;exact Heap.lt_size e
 | xd fs=>obtain⟨_,⟨_,_,_,e,_⟩,_⟩:=x;exact Heap.lt_size e
 | y7 lo hi=>obtain⟨_,_,_,e⟩:=x;exact Heap.lt_size e
 | eW ob u=>obtain⟨e,_⟩:=x;exact Heap.lt_size e
 | kd ps=>exact Heap.lt_size (show h.get? a=some _ from x)
 | met f y=>exact Heap.lt_size (show h.get? a=some _ from x)
 | ext φ=>obtain⟨_,⟨_,e⟩,_⟩:=x;exact Heap.lt_size e
theorem Paired.vQ {α β : Type} {F G:α->β->Prop}:∀ {l₁ : List α} {l₂ : List β},Paired F l₁ l₂->(∀ a b,F a b->G a b)->Paired G l₁ l₂
 | _,_,.nil,_=>.nil
 | _,_,.cons r t,f=>.cons (f _ _ r) (Paired.vQ t f)
theorem bV.lV (x:bV P w H h a o) (k:∀ b u,(b=a\/H b=some (.own a))->h.get? b=some u->h'.get? b=some u)
  (ho:∀ b,H b=some (.own a)->H' b=some (.own a)) (ht:∀ b xs,H b=some (.tup xs)->H' b=some (.tup xs)):bV P w H' h' a o:=by
 induction o with
 | lst xs=>obtain⟨z,its,n,r,e⟩:=x;exact⟨z,its,n,r,k _ _ (.inl rfl) e⟩
 | tup xs=>obtain⟨z,its,r,ob,e,c⟩:=x;exact⟨z,its,r,ob,k _ _ (.inl rfl) e,c⟩
 | dK kvs=>obtain⟨z,y,vs,r,ob,es,ep,e,c⟩:=x;exact⟨z,y,vs,r,ob,es,ep,k _ _ (.inl rfl) e,c⟩
 | dT kvs =>
  obtain⟨z,y,xs,r,ob,es,ep,e,c⟩:=x
  exact⟨z,y,xs,Paired.vQ r fun p q z=>⟨z.1,ht _ _ z.2.1,z.2.2⟩,ob,es,ep,k _ _ (.inl rfl) e,c⟩
 | set S n=>obtain⟨ob,es,ep,t,e,c⟩:=x;exact⟨ob,es,ep,t,k _ _ (.inl rfl) e,c⟩
 | ins C dx fs =>
  obtain⟨d,z,ne,e,mA,⟨od,es,ep,e2,c⟩,r⟩:=x
  exact⟨ho _ d,z,ne,k _ _ (.inl rfl) e,mA,⟨od,es,ep,k _ _ (.inr d) e2,c⟩,r⟩
 | own y=>obtain⟨ob,e⟩:=x;exact⟨ob,k _ _ (.inl rfl) e⟩
 | xd fs=>obtain⟨mA,⟨od,es,ep,e,c⟩,r⟩:=x;exact⟨mA,⟨od,es,ep,k _ _ (.inl rfl) e,c⟩,r⟩
 | y7 lo hi=>obtain⟨t,u,v,e⟩:=x;exact⟨t,u,v,k _ _ (.inl rfl) e⟩
 | eW ob u ih=>obtain⟨e,q⟩:=x;exact⟨k _ _ (.inl rfl) e,ih q⟩
 | kd ps =>
  have e:h.get? a=some { cls:=.none,data:=.fields ps }:=x
  show h'.get? a=some { cls:=.none,data:=.fields ps }
  exact k a _ (.inl rfl) e
 | met f y =>
  have e:h.get? a=some (PySem.W.methodObj (.ref f) (.ref y)):=x
  show h'.get? a=some (PySem.W.methodObj (.ref f) (.ref y))
  exact k a _ (.inl rfl) e
 | ext φ=>obtain⟨p,⟨o,e⟩,st⟩:=x;exact⟨st _ _ p fun o q=>k _ _ (.inl rfl) q,⟨o,k _ _ (.inl rfl) e⟩,st⟩
theorem dm.lt (x:dm P w H h) (e:H a=some o):a < h.objs.size:=(x a o e).lt
theorem dm.fresh (x:dm P w H h) (e:h.objs.size<=a):H a=none:=by
 cases q:H a with
 | none=>rfl
 | some u=>exact absurd (Nat.lt_of_lt_of_le (x.lt q) e) (Nat.lt_irrefl _)
theorem dm.kept (x:dm P w H h) (k:∀ b u,h.get? b=some u->h'.get? b=some u):dm P w H h':=fun a o e =>
 (x a o e).lV (fun b u _ q=>k b u q) (fun _ q=>q) fun _ _ q=>q
theorem dm.laid (x:dm P w H h) (k:∀ b u,h.get? b=some u->h'.get? b=some u) (hp:h.objs.size<=a) (new:bV P w (upd H a o) h' a o):dm P w (upd H a o) h':=fun b u e=>by
 have hn:=x.fresh hp
 by_cases hb:b=a
 ·subst hb;rw [aa] at e;cases e;exact new
 ·rw [af hb] at e
  exact (x b u e).lV (fun c v _ q=>k c v q) (fun c q=>by rw [af (aw q hn)];exact q) fun c xs q=>by rw [af (aw q hn)];exact q
end
def Rd (H:Hp) (a:Addr) (u:HO):Prop:=H a=some u\/∃ o,H a=some (.eW o u)
theorem Rd.ok {P:Program} {w:World} {H:Hp} {h:Heap} {a:Addr} {u:HO} (r:Rd H a u) (x:dm P w H h):bV P w H h a u:=by
 rcases r with r | ⟨o,r⟩
 ·exact x a u r
 ·obtain⟨_,q⟩:=x a _ r
  exact q
def ux:Option HO->Prop
 | some (.lst _)=>True
 | some (.dK _)=>True
 | some (.dT _)=>True
 | some (.set _ _)=>True
 | some (.ins _ _ _)=>True
 | some (.ext _)=>True
 | _=>False
section
variable {P:Program} {w:World} {H:Hp} {h h':Heap} {x e:Addr} {o':HO}
theorem dm.write (ok:dm P w H h) (mu:ux (H x)) (he:e=x\/H e=some (.own x)) (k:∀ b u,b ≠ e->h.get? b=some u->h'.get? b=some u) (heo:∃ u,h'.get? e=some u)
  (new:bV P w (upd H x o') h' x o'):dm P w (upd H x o') h':=fun b u q=>by
 have nown:∀ c y,H c=some (.own y)->c ≠ x:=fun c y r z=>by subst z;rw [r] at mu;exact mu
 have ntup:∀ c xs,H c=some (.tup xs)->c ≠ x:=fun c xs r z=>by subst z;rw [r] at mu;exact mu
 by_cases hb:b=x
 ·subst hb;rw [aa] at q;cases q;exact new
 ·rw [af hb] at q
  by_cases hbe:b=e
  ·have q':H b=some (.own x):=by
    rcases he with z | z
    ·exact absurd (hbe.trans z) hb
    ·rw [hbe];exact z
   rw [q] at q';cases q'
   obtain⟨v,hv⟩:=heo
   exact⟨v,by rw [hbe];exact hv⟩
  ·refine (ok b u q).lV (fun c v hc r=>k c v ?_ r) (fun c r=>by rw [af (nown c b r)];exact r) fun c xs r=>by rw [af (ntup c xs r)];exact r
   rcases hc with rfl | hc
   ·exact hbe
   ·rintro rfl
    rcases he with z | z
    ·exact nown c b hc z
    ·rw [hc] at z;cases z;exact hb rfl
end
structure Un (fs ex:List Addr) (H H':Hp) (h h':Heap):Prop where
 keep:∀ b o,h.get? b=some o->H b=none->b ∉ fs->b ∉ ex->h'.get? b=some o
 slot:∀ b o,h.get? b=some o->H b=none->b ∈ fs->b ∉ ex->∃ sl,h'.get? b=some { o with slots:=sl }
 free:∀ b o,h.get? b=some o->H b=none->b ∉ ex->H' b=none
 there:∀ b o,h.get? b=some o->b ∉ ex->∃ o',h'.get? b=some o'
 df:∀ b xs,H b=some (.tup xs)->H' b=some (.tup xs)
 iu:∀ b o u,H b=some (.eW o u)->H' b=some (.eW o u)
 iM:∀ b ps,H b=some (.kd ps)->∃ more,H' b=some (.kd (ps++more))
section
variable {fs fs' ex ex':List Addr} {H H1 H2:Hp} {h h1 h2 h':Heap} {a x e:Addr} {o:HO}
theorem Un.any (u:Un fs ex H H1 h h1) {b:Addr} {ob:Obj} (q:h.get? b=some ob) (n:H b=none) (hx:b ∉ ex):∃ sl,h1.get? b=some { ob with slots:=sl }:=by
 by_cases hb:b ∈ fs
 ·exact u.slot b ob q n hb hx
 ·exact⟨ob.slots,u.keep b ob q n hb hx⟩
theorem Un.kept (k:∀ b u,h.get? b=some u->h'.get? b=some u):Un fs ex H H h h' :=
 ⟨fun b ob q _ _ _=>k b ob q,fun b ob q _ _ _=>⟨ob.slots,k b ob q⟩,fun _ _ _ n _=>n,fun b ob q _=>⟨ob,k b ob q⟩,fun _ _ q=>q,fun _ _ _ q=>q,fun _ ps q=>⟨#[],by rw [q];simp⟩⟩
theorem Un.refl:Un fs ex H H h h:=Un.kept fun _ _ q=>q
theorem Un.laid (k:∀ b u,h.get? b=some u->h'.get? b=some u) (hp:h.objs.size<=a) (hn:H a=none):Un fs ex H (upd H a o) h h' where
 keep:=fun b u q _ _ _=>k b u q
 slot:=fun b u q _ _ _=>⟨u.slots,k b u q⟩
 free:=fun b u q n _=>by rw [af (Nat.ne_of_lt (Nat.lt_of_lt_of_le (Heap.lt_size q) hp))];exact n
 there:=fun b u q _=>⟨u,k b u q⟩
 df:=fun b xs q=>by rw [af (aw q hn)];exact q
 iu:=fun b u xs q=>by rw [af (aw q hn)];exact q
 iM:=fun b ps q=>⟨#[],by rw [af (aw q hn),q];simp⟩
theorem Un.write (mu:ux (H x)) (he:e=x\/H e=some (.own x)) (k:∀ b u,b ≠ e->h.get? b=some u->h'.get? b=some u) (heo:∃ u,h'.get? e=some u):Un fs ex H (upd H x o) h h':=by
  have hx:∀ b,H b=none->b ≠ x:=fun b n z=>by subst z;rw [n] at mu;exact mu
  have hb:∀ b,H b=none->b ≠ e:=fun b n z=>by
    subst z
    rcases he with r | r
    · exact hx b n r
    · rw [n] at r;cases r
  have hm:∀ b u,H b=some u->¬ ux (some u)->b ≠ x:=fun b u q nm z=>by subst z;rw [q] at mu;exact nm mu
  refine⟨fun b u q n _ _=>k b u (hb b n) q,fun b u q n _ _=>⟨u.slots,k b u (hb b n) q⟩,fun b u q n _=>by rw [af (hx b n)];exact n,fun b u q _=>?_,
    fun b xs q=>by rw [af (hm b _ q fun z=>z)];exact q,fun b u xs q=>by rw [af (hm b _ q fun z=>z)];exact q,fun b ps q=>⟨#[],by rw [af (hm b _ q fun z=>z),q];simp⟩⟩
  by_cases hbe:b=e
  · subst hbe;exact heo
  · exact⟨u,k b u hbe q⟩
end
def xw (h:Heap) (H:Hp):List Addr:=(List.range h.objs.size).filter fun a=>(H a).isSome
def jO (h:Heap) (H:Hp):Heap:=PySem.W.hideAll h (xw h H)
theorem uy (h:Heap) (H:Hp):(jO h H).objs.size=h.objs.size:=PySem.W.hideAll_size _ _
theorem vR {h:Heap} {H:Hp} {b:Addr} {o:Obj} (e:h.get? b=some o) (n:H b=none):(jO h H).get? b=some o :=
 PySem.W.hideAll_get _ e fun hm=>by
  have q:(H b).isSome=true:=(List.mem_filter.mp hm).2
  rw [n] at q;simp at q
theorem xW {h:Heap} {H:Hp} {b:Addr} {o:Obj} (e:(jO h H).get? b=some o):h.get? b=some o/\H b=none:=by
 have e':h.get? b=some o:=PySem.W.of_hideAll (xw h H) e
 refine⟨e',?_⟩
 cases q:H b with
 | none=>rfl
 | some x =>
  have hm:b ∈ xw h H:=List.mem_filter.mpr ⟨List.mem_range.mpr (Heap.lt_size e'),by simp [q]⟩
  have z:(jO h H).get? b=none:=PySem.W.hideAll_none (xw h H) hm
  rw [z] at e;cases e
def xX (g h:Heap) (L:Addr):List (Addr × Obj):=(List.range h.objs.size).filterMap fun a=>if a=L\/(g.get? a).isSome=true then none else (h.get? a).map fun o=>(a,o)
def rest (g h:Heap) (L d:Addr):List (Addr × Obj):=(xX g h L).filter fun p=>decide (p.1 ≠ d)
structure Mod (K:PySem.W.Frag) (mg:Str->Option Value) (base:Heap):Prop where
 uz:K.In base
 glob:base.Ns mainGlobals mg
 blt:∃ mb,base.Ns builtinsNs mb/\∀ x:Str,x ≠ "__name__" -> mb x=bootBuiltins x
 nolimit:base.NoLimit
structure Cx where
 prog:Program
 w:World
 K:PySem.W.Frag
 mg:Str->Option Value
 base:Heap
 A:Around
 N:List Str
 dg:Shared
 jP:Hp
 env:Env
 outer:List Env
 stack:List Env
 ex:List Addr
 fn:Str->Bool
 calm:Bool
 pn:List (Addr × Obj)
 xe:Value->Shared->Prop
def ke (l:List Env):List Addr:=l.filterMap (·.frame)
abbrev Cx.fs (X:Cx):List Addr:=ke X.outer
def xx (sc:Scope) (x:Str):Prop:=sc.names.lookup x=some .local\/sc.names.lookup x=some .cell\/sc.names.lookup x=some .free
def Loc (sc:Scope) (x:Str):Prop:=sc.names.lookup x=some .local\/sc.names.lookup x=some .cell
def Look (env:Env) (h:Heap) (m:Str->Option Value) (x:Str) (u:Value):Prop :=
 (env.kindOf x=some .local/\m x=some u)\/((env.kindOf x=some .cell\/env.kindOf x=some .free)/\∃ c,env.cells.lookup x=some c/\h.IsCell c (some u))
structure Cx.Ok (X:Cx):Prop where
 mod:Mod X.K X.mg X.base
 kind:X.env.scope.kind=.function
 glob:X.env.globals=mainGlobals
 blt:X.env.builtins=builtinsNs
 above:X.dg.heap.objs.size<=X.env.locals
 inj:∀ x y c,X.env.cells.lookup x=some c->X.env.cells.lookup y=some c->x=y
 has:∀ x,(X.env.kindOf x=some .cell\/X.env.kindOf x=some .free)->∃ c,X.env.cells.lookup x=some c
 uA:∀ x c,X.fn x=true->X.env.cells.lookup x=some c->X.dg.heap.objs.size<=c
 hd:X.calm=true->X.A.handled=none
 frames:X.A.frames=some X.stack
 xy:X.stack=X.outer\/(X.stack=X.env :: X.outer/\X.env.frame=some X.env.locals)
 AF:∀ b ∈ X.ex,b ≠ X.env.locals/\∀ x c,X.env.cells.lookup x=some c->c ≠ b
 bs:∀ b o,X.base.get? b=some o->X.dg.heap.get? b=some o/\X.jP b=none
 mJ:X.base.objs.size<=X.dg.heap.objs.size
 o8:∀ b o,X.base.get? b=some o->b ∉ X.ex
 sN:∀ b ∈ X.ex,b ∉ X.fs
 iw:X.dg.heap.FunFrames X.base X.outer
 o9:∀ b ∈ X.fs,X.jP b=none
structure Inv (X:Cx) (pins:List (Addr × Obj)) (σ : List (Option V)) (H:Hp) (s:Shared):Prop where
 ok:X.Ok
 os:s.os=X.dg.os
 bare:AllBare s.gens
 base:Un X.fs X.ex X.jP H X.dg.heap s.heap
 loc:∃ m,s.heap.Ns X.env.locals m/\∀ (i:Nat) (x:Str) (v:V),X.N[i]? = some x->σ[i]? = some (some v)->xx X.env.scope x->∃ u,RelV v u/\Look X.env s.heap m x u
 cell:∀ x c,X.env.cells.lookup x=some c->∃ v,s.heap.IsCell c v
 free:H X.env.locals=none
 eh:∀ x c,X.env.cells.lookup x=some c->H c=none
 pin:∀ p ∈ X.pn++pins,s.heap.get? p.1=some p.2/\H p.1=none/\p.1 ≠ X.env.locals/\p.1 ∉ X.fs/\∀ v,p.2.data ≠ .cell v
 aP:dm X.prog X.w H s.heap
 len:σ.length=X.N.length
section
variable {X:Cx} {pins:List (Addr × Obj)} {σ : List (Option V)} {H H':Hp} {s:Shared} {h':Heap}
theorem Cx.Ok.AV (ok:X.Ok) {b:Addr} {o:Obj} (e:X.base.get? b=some o):b ∉ X.fs:=fun hb=>by
 have:=(ok.iw.mem hb).1
 rw [e] at this;cases this
theorem Inv.bs (I:Inv X pins σ H s):∀ b o,X.base.get? b=some o->s.heap.get? b=some o/\H b=none:=fun b o e =>
 ⟨I.base.keep b o (I.ok.bs b o e).1 (I.ok.bs b o e).2 (I.ok.AV e) (I.ok.o8 b o e),I.base.free b o (I.ok.bs b o e).1 (I.ok.bs b o e).2 (I.ok.o8 b o e)⟩
theorem Inv.bk (I:Inv X pins σ H s):∀ b o,X.base.get? b=some o->s.heap.get? b=some o:=fun b o e=>(I.bs b o e).1
theorem Inv.mod (I:Inv X pins σ H s):Mod X.K X.mg X.base:=I.ok.mod
theorem Inv.iN (I:Inv X pins σ H s):X.K.In s.heap:=I.ok.mod.uz.keeps I.bk
theorem Inv.lt (I:Inv X pins σ H s):X.env.locals < s.heap.objs.size:=let ⟨_,hn,_⟩:=I.loc;hn.lt
theorem Inv.sz (I:Inv X pins σ H s):X.dg.heap.objs.size<=s.heap.objs.size:=Nat.le_trans I.ok.above (Nat.le_of_lt I.lt)
theorem Inv.AW (I:Inv X pins σ H s) {a:Addr} (h:s.heap.objs.size<=a):a ∉ X.fs:=fun hb=>by
 obtain⟨_,o,ho,_⟩:=I.ok.iw.mem hb
 exact absurd (Nat.lt_of_lt_of_le (Heap.lt_size ho) (Nat.le_trans I.sz h)) (Nat.lt_irrefl _)
theorem Inv.pd (I:Inv X pins σ H s):∀ x c,X.env.cells.lookup x=some c->c ≠ X.env.locals:=fun x c e z=>by
 obtain⟨v,o,ho,hd⟩:=I.cell x c e
 obtain⟨m,⟨o',es,ep,ho',hd',_⟩,_⟩:=I.loc
 rw [z,ho'] at ho;cases ho;rw [hd'] at hd;cases hd
theorem Inv.iw (I:Inv X pins σ H s):s.heap.FunFrames X.base X.outer:=by
 have all:∀ (l:List Env),(∀ b ∈ ke l,b ∈ X.fs)->X.dg.heap.FunFrames X.base l->s.heap.FunFrames X.base l:=by
  intro l
  induction l with
  | nil=>intro _ _;trivial
  | cons env r ih =>
   intro hs hl
   obtain⟨hk,⟨L,o,hf,hn,ho,hd⟩,hr⟩:=hl
   have hL:L ∈ X.fs:=hs L (by unfold ke;rw [List.filterMap_cons,hf];exact List.mem_cons_self)
   obtain⟨sl,e⟩:=I.base.slot L o ho (I.ok.o9 L hL) hL fun z=>I.ok.sN L z hL
   exact⟨hk,⟨L,_,hf,hn,e,hd⟩,ih (fun b hb=>hs b (by unfold ke;rw [List.filterMap_cons,hf];exact List.mem_cons_of_mem _ hb)) hr⟩
 exact all X.outer (fun _ hb=>hb) I.ok.iw
theorem Inv.stack (I:Inv X pins σ H s):s.heap.FunFrames X.base X.stack:=by
 rcases I.ok.xy with e | ⟨e,hf⟩
 ·rw [e];exact I.iw
 ·rw [e]
  obtain⟨m,hn,_⟩:=I.loc
  refine .cons (by rw [I.ok.kind];decide) hf hn ?_ I.iw
  exact Heap.get?_none_of_le (Nat.le_trans I.ok.mJ I.ok.above)
theorem Inv.jv (I:Inv X pins σ H s):∀ b ∈ ke X.stack,b ∈ X.env.locals :: X.fs:=fun b hb=>by
 rcases I.ok.xy with e | ⟨e,hf⟩
 ·rw [e] at hb;exact List.mem_cons_of_mem _ hb
 ·rw [e] at hb
  unfold ke at hb
  rw [List.filterMap_cons,hf] at hb
  exact hb
theorem Inv.rN (I:Inv X pins σ H s):∀ b ∈ ke X.stack,H b=none:=fun b hb=>by
 rcases List.mem_cons.mp (I.jv b hb) with e | hb
 ·rw [e];exact I.free
 ·obtain⟨_,o,ho,_⟩:=I.ok.iw.mem hb
  exact I.base.free b o ho (I.ok.o9 b hb) fun z=>I.ok.sN b z hb
theorem Inv.step {g':Array GenState} {t':Nat} {d':Drawn} {ch:List Addr} (I:Inv X pins σ H s)
  (hch:∀ b ∈ ch,(b ∈ X.ex\/X.dg.heap.objs.size<=b)/\b ≠ X.env.locals/\(∀ x c,X.env.cells.lookup x=some c->c ≠ b)/\∀ p ∈ X.pn++pins,p.1 ≠ b)
  (keep:∀ b o,b ≠ X.env.locals->b ∉ X.fs->b ∉ ch->s.heap.get? b=some o->H b=none->h'.get? b=some o)
  (slot:∀ b o,b ≠ X.env.locals->b ∈ X.fs->b ∉ ch->s.heap.get? b=some o->H b=none->∃ sl,h'.get? b=some { o with slots:=sl }) (free:∀ b o,b ∉ ch->s.heap.get? b=some o->H b=none->H' b=none)
  (there:∀ b o,b ∉ ch->s.heap.get? b=some o->∃ o',h'.get? b=some o')
  (df:∀ b xs,H b=some (.tup xs)->H' b=some (.tup xs)) (iu:∀ b o u,H b=some (.eW o u)->H' b=some (.eW o u)) (iM:∀ b ps,H b=some (.kd ps)->∃ more,H' b=some (.kd (ps++more)))
  (ns:∀ m,s.heap.Ns X.env.locals m->h'.Ns X.env.locals m) (aP:dm X.prog X.w H' h') (hg:AllBare g') :
  Inv X pins σ H' { s with heap:=h',gens:=g',drawn:=d',toks:=t' }:=by
 have neL:∀ b o,X.dg.heap.get? b=some o->b ≠ X.env.locals:=fun b o e=>Nat.ne_of_lt (Nat.lt_of_lt_of_le (Heap.lt_size e) I.ok.above)
 have neC:∀ b o,X.dg.heap.get? b=some o->b ∉ X.ex->b ∉ ch:=fun b o e hx hb=>by
  rcases (hch b hb).1 with z | z
  ·exact hx z
  ·exact absurd (Nat.lt_of_lt_of_le (Heap.lt_size e) z) (Nat.lt_irrefl _)
 have cellK:∀ x c,X.env.cells.lookup x=some c->∀ v,s.heap.IsCell c v->h'.IsCell c v:=fun x c e v ⟨o,ho,hd⟩=>by
  have nch:c ∉ ch:=fun z=>(hch c z).2.2.1 x c e rfl
  by_cases hc:c ∈ X.fs
  ·obtain⟨sl,q⟩:=slot c o (I.pd x c e) hc nch ho (I.eh x c e)
   exact⟨_,q,hd⟩
  ·exact⟨o,keep c o (I.pd x c e) hc nch ho (I.eh x c e),hd⟩
 refine⟨I.ok,I.os,hg,⟨fun b o e n hb hx=>?_,fun b o e n hb hx=>?_,fun b o e n hx=>?_,fun b o e hx=>?_,fun b xs e=>df b xs (I.base.df b xs e),fun b o xs e=>iu b o xs (I.base.iu b o xs e),fun b ps e=>?_⟩,?_,fun x c e=>?_,?_,fun x c e=>?_,fun p hp=>?_,aP,I.len⟩
 ·exact keep b o (neL b o e) hb (neC b o e hx) (I.base.keep b o e n hb hx) (I.base.free b o e n hx)
 ·obtain⟨sl,e1⟩:=I.base.slot b o e n hb hx
  obtain⟨sl',e2⟩:=slot b _ (neL b o e) hb (neC b o e hx) e1 (I.base.free b o e n hx)
  exact⟨sl',e2⟩
 ·obtain⟨o',e1⟩:=I.base.there b o e hx
  exact free b o' (neC b o e hx) e1 (I.base.free b o e n hx)
 ·obtain⟨o',e1⟩:=I.base.there b o e hx
  exact there b o' (neC b o e hx) e1
 ·obtain⟨m1,e1⟩:=I.base.iM b ps e
  obtain⟨m2,e2⟩:=iM b _ e1
  exact⟨m1++m2,by rw [e2,Array.append_assoc]⟩
 ·obtain⟨m,hn,hl⟩:=I.loc
  refine⟨m,ns m hn,fun i x v e1 e2 e3=>?_⟩
  obtain⟨u,r,l⟩:=hl i x v e1 e2 e3
  refine⟨u,r,?_⟩
  rcases l with l | ⟨k,c,e,z⟩
  ·exact .inl l
  ·exact .inr ⟨k,c,e,cellK x c e _ z⟩
 ·obtain⟨v,z⟩:=I.cell x c e
  exact⟨v,cellK x c e v z⟩
 ·obtain⟨m,⟨o,_,_,ho,_⟩,_⟩:=I.loc
  exact free _ o (fun z=>(hch _ z).2.1 rfl) ho I.free
 ·obtain⟨v,o,ho,hd⟩:=I.cell x c e
  exact free c o (fun z=>(hch c z).2.2.1 x c e rfl) ho (I.eh x c e)
 ·obtain⟨e,n,ne,nf,d⟩:=I.pin p hp
  have nch:p.1 ∉ ch:=fun z=>(hch p.1 z).2.2.2 p hp rfl
  exact⟨keep p.1 p.2 ne nf nch e n,free p.1 p.2 nch e n,ne,nf,d⟩
theorem Inv.un {t':Nat} (I:Inv X pins σ H s) (u:Un X.fs [] H H' s.heap h') (aP:dm X.prog X.w H' h'):Inv X pins σ H' { s with heap:=h',toks:=t' }:=by
  obtain⟨m,⟨o,es,ep,ho,r⟩,_⟩:=id I.loc
  obtain⟨sl,hL⟩:=u.any ho I.free (by simp)
  exact I.step (g':=s.gens) (d':=s.drawn) (ch:=[]) (fun _ z=>nomatch z) (fun b o _ hb _ e n=>u.keep b o e n hb (by simp)) (fun b o _ hb _ e n=>u.slot b o e n hb (by simp)) (fun b o _ e n=>u.free b o e n (by simp)) (fun b o _ e=>u.there b o e (by simp)) u.df u.iu u.iM (fun m' hm=>by
    obtain⟨o',es',ep',ho',r'⟩:=hm
    rw [ho] at ho';cases ho'
    exact⟨_,es',ep',hL,r'⟩) aP I.bare
theorem Inv.call {g':Array GenState} {t':Nat} {d':Drawn} {ch:List Addr} (I:Inv X pins σ H s) (u:Un (ke X.stack) ch H H' s.heap h') (aP:dm X.prog X.w H' h') (hg:AllBare g')
  (hch:∀ b ∈ ch,(b ∈ X.ex\/X.dg.heap.objs.size<=b)/\b ≠ X.env.locals/\(∀ x c,X.env.cells.lookup x=some c->c ≠ b)/\∀ p ∈ X.pn++pins,p.1 ≠ b) :
  Inv X pins σ H' { s with heap:=h',gens:=g',drawn:=d',toks:=t' }:=by
 obtain⟨m,⟨o,es,ep,ho,r⟩,_⟩:=id I.loc
 obtain⟨sl,hL⟩:=u.any ho I.free fun z=>(hch _ z).2.1 rfl
 exact I.step (ch:=ch) hch (fun b o hL hb hc e n=>u.keep b o e n (fun z=>(List.mem_cons.mp (I.jv b z)).elim hL hb) hc) (fun b o _ _ hc e n=>u.any e n hc) (fun b o hc e n=>u.free b o e n hc) (fun b o hc e=>u.there b o e hc) u.df u.iu u.iM (fun m' hm=>by
  obtain⟨o',es',ep',ho',r'⟩:=hm
  rw [ho] at ho';cases ho'
  exact⟨_,es',ep',hL,r'⟩) aP hg
theorem Inv.turned {t':Nat} {it:Addr} (I:Inv X pins σ H s) (k:∀ b o,b ≠ it->s.heap.get? b=some o->h'.get? b=some o) (hn:H it=none) (hL:it ≠ X.env.locals)
  (h1:it ∈ X.ex\/X.dg.heap.objs.size<=it) (h2:∀ x c,X.env.cells.lookup x=some c->c ≠ it) (h3:∀ p ∈ X.pn++pins,p.1 ≠ it):Inv X pins σ H { s with heap:=h',toks:=t' }:=by
 have nit:∀ b u,H b=some u->b ≠ it:=fun b u e z=>by rw [z,hn] at e;cases e
 refine I.step (g':=s.gens) (d':=s.drawn) (ch:=[it]) (fun b hb=>?_) (fun b o _ _ hc e _=>k b o (fun z=>hc (by simp [z])) e) (fun b o _ _ hc e _=>⟨o.slots,k b o (fun z=>hc (by simp [z])) e⟩) (fun _ _ _ _ n=>n)
  (fun b o hc e=>⟨o,k b o (fun z=>hc (by simp [z])) e⟩) (fun _ _ e=>e) (fun _ _ _ e=>e) (fun b ps e=>⟨#[],by rw [e];simp⟩) (fun m hm=>?_) (fun b u e=>?_) I.bare
 ·have e:b=it:=by simpa using hb
  subst e
  exact⟨h1,hL,h2,h3⟩
 ·obtain⟨o,es,ep,ho,r⟩:=hm
  exact⟨o,es,ep,k _ o (Ne.symm hL) ho,r⟩
 ·refine (I.aP b u e).lV (fun c v hc q=>k c v ?_ q) (fun _ q=>q) fun _ _ q=>q
  rcases hc with z | z
  ·rw [z];exact nit b u e
  ·exact nit c _ z
theorem Inv.tok (I:Inv X pins σ H s) (t:Nat):Inv X pins σ H { s with toks:=t }:=I.un (h':=s.heap) (t':=t) Un.refl I.aP
theorem Inv.kept {t':Nat} (I:Inv X pins σ H s) (k:∀ b u,s.heap.get? b=some u->h'.get? b=some u):Inv X pins σ H { s with heap:=h',toks:=t' }:=I.un (Un.kept k) (I.aP.kept k)
theorem Inv.laid {a:Addr} {o:HO} {t':Nat} (I:Inv X pins σ H s) (k:∀ b u,s.heap.get? b=some u->h'.get? b=some u) (hp:s.heap.objs.size<=a) (new:bV X.prog X.w (upd H a o) h' a o) :
  Inv X pins σ (upd H a o) { s with heap:=h',toks:=t' }:=I.un (Un.laid k hp (I.aP.fresh hp)) (I.aP.laid k hp new)
theorem Inv.write {x e:Addr} {o:HO} {t':Nat} (I:Inv X pins σ H s) (mu:ux (H x)) (he:e=x\/H e=some (.own x)) (k:∀ b u,b ≠ e->s.heap.get? b=some u->h'.get? b=some u) (heo:∃ u,h'.get? e=some u)
  (new:bV X.prog X.w (upd H x o) h' x o):Inv X pins σ (upd H x o) { s with heap:=h',toks:=t' }:=I.un (Un.write mu he k heo) (I.aP.write mu he k heo new)
theorem Inv.rO {pins':List (Addr × Obj)} (I:Inv X pins σ H s) (h:∀ p ∈ pins',s.heap.get? p.1=some p.2/\H p.1=none/\p.1 ≠ X.env.locals/\p.1 ∉ X.fs/\∀ v,p.2.data ≠ .cell v):Inv X pins' σ H s :=
 ⟨I.ok,I.os,I.bare,I.base,I.loc,I.cell,I.free,I.eh,fun p hp=>(List.mem_append.mp hp).elim (fun z=>I.pin p (List.mem_append_left _ z)) (h p),I.aP,I.len⟩
theorem ph {N:List Str} (hN:N.Nodup) {i j:Nat} {x:Str} (a:N[i]? = some x) (b:N[j]? = some x):i=j:=by
 obtain⟨h1,e1⟩:=List.getElem?_eq_some_iff.mp a
 obtain⟨h2,e2⟩:=List.getElem?_eq_some_iff.mp b
 exact (List.getElem_inj hN).mp (e1.trans e2.symm)
theorem kf {M:Model} {A:Around} {E:Value->Shared->Prop} {i:Nat} {x:Str} {v:V} {u:Value} {Q:Unit->Shared->Prop} (I:Inv X pins σ H s) (hN:X.N.Nodup) (hi:X.N[i]? = some x) (hx:Loc X.env.scope x) (r:RelV v u)
  (h:∀ s',Inv X pins (σ.set i (some v)) H s'->(∃ a,Heap.SameBut a s.heap s'.heap/\(a=X.env.locals\/X.env.cells.lookup x=some a))->Q () s') (hf:X.fn x=true\/X.env.scope.names.lookup x=some .local:=by first | exact .inl rfl | exact .inr rfl | assumption):wpAny M A (storeName X.env x u) Q E s:=by
 obtain⟨m,hn,hl⟩:=id I.loc
 have hcls:(X.env.scope.kind == .class || (X.env.scope.kind == .module && X.env.locals != X.env.globals))=false:=by rw [I.ok.kind];rfl
 have hiσ : i < σ.length:=by rw [I.len];exact (List.getElem?_eq_some_iff.mp hi).1
 have pd:=I.pd
 have tracked:∀ {a:Addr} {h':Heap},(∃ o,s.heap.get? a=some o/\H a=none)->Heap.SameBut a s.heap h'->dm X.prog X.w H h':=fun {a h'} ha hs b ob e=>by
  obtain⟨_,_,hfree⟩:=ha
  refine (I.aP b ob e).lV (fun c w' hc q=>(hs.2 c ?_).trans q) (fun _ q=>q) fun _ _ q=>q
  rintro rfl
  rcases hc with rfl | hc
  ·rw [hfree] at e;cases e
  ·rw [hfree] at hc;cases hc
 rcases hx with hk | hk
 ·refine wpAny_storeName_local hk hn (fun h' hn' hs=>?_) hcls
  obtain⟨oL,_,_,hoL,_⟩:=id hn
  refine h _ ⟨I.ok,I.os,I.bare,⟨fun b o e n hb hx=>?_,fun b o e n hb hx=>?_,I.base.free,fun b o e hx=>?_,I.base.df,I.base.iu,I.base.iM⟩,⟨_,hn',fun j y v' e1 e2 e3=>?_⟩,fun y c e=>?_,I.free,I.eh,fun p hp=>?_,tracked ⟨oL,hoL,I.free⟩ hs,by simpa using I.len⟩ ⟨_,hs,.inl rfl⟩
  ·exact (hs.2 b (Nat.ne_of_lt (Nat.lt_of_lt_of_le (Heap.lt_size e) I.ok.above))).trans (I.base.keep b o e n hb hx)
  ·obtain⟨sl,e1⟩:=I.base.slot b o e n hb hx
   exact⟨sl,(hs.2 b (Nat.ne_of_lt (Nat.lt_of_lt_of_le (Heap.lt_size e) I.ok.above))).trans e1⟩
  ·obtain⟨o',e1⟩:=I.base.there b o e hx
   exact⟨o',(hs.2 b (Nat.ne_of_lt (Nat.lt_of_lt_of_le (Heap.lt_size e) I.ok.above))).trans e1⟩
  ·by_cases hj:j=i
   ·subst hj
    rw [hi] at e1;cases e1
    rw [List.getElem?_set_self hiσ] at e2
    cases e2
    exact⟨u,r,.inl ⟨hk,by simp⟩⟩
   ·rw [List.getElem?_set_ne (Ne.symm hj)] at e2
    obtain⟨u',r',q⟩:=hl j y v' e1 e2 e3
    refine⟨u',r',?_⟩
    rcases q with ⟨k,e⟩ | ⟨k,c,e,z⟩
    ·refine .inl ⟨k,?_⟩
     have:y ≠ x:=fun e=>hj (ph hN e1 (e ▸ hi))
     simp [this,e]
    ·exact .inr ⟨k,c,e,z.sameBut hs (pd y c e)⟩
  ·obtain⟨w',z⟩:=I.cell y c e
   exact⟨w',z.sameBut hs (pd y c e)⟩
  ·obtain⟨e,n,ne,nf,d⟩:=I.pin p hp
   exact⟨(hs.2 p.1 ne).trans e,n,ne,nf,d⟩
 ·have hfn:X.fn x=true:=by
   rcases hf with z | z
   ·exact z
   ·rw [z] at hk;cases hk
  obtain⟨c,hc⟩:=I.ok.has x (.inl hk)
  obtain⟨w',z⟩:=I.cell x c hc
  refine wpAny_storeName_cell I.ok.kind hk hc z (fun h' hc' hs=>?_)
  obtain⟨oc,hoc,hocd⟩:=id z
  refine h { s with heap:=h' } ⟨I.ok,I.os,I.bare,⟨fun b o e n hb hx=>?_,fun b o e n hb hx=>?_,I.base.free,fun b o e hx=>?_,I.base.df,I.base.iu,I.base.iM⟩,⟨m,hn.sameBut hs (Ne.symm (pd x c hc)),fun j y v' e1 e2 e3=>?_⟩,fun y c' e=>?_,I.free,I.eh,fun p hp=>?_,tracked ⟨oc,hoc,I.eh x c hc⟩ hs,by simpa using I.len⟩ ⟨c,hs,.inr hc⟩
  ·exact (hs.2 b (Nat.ne_of_lt (Nat.lt_of_lt_of_le (Heap.lt_size e) (I.ok.uA x c hfn hc)))).trans (I.base.keep b o e n hb hx)
  ·obtain⟨sl,e1⟩:=I.base.slot b o e n hb hx
   exact⟨sl,(hs.2 b (Nat.ne_of_lt (Nat.lt_of_lt_of_le (Heap.lt_size e) (I.ok.uA x c hfn hc)))).trans e1⟩
  ·obtain⟨o',e1⟩:=I.base.there b o e hx
   exact⟨o',(hs.2 b (Nat.ne_of_lt (Nat.lt_of_lt_of_le (Heap.lt_size e) (I.ok.uA x c hfn hc)))).trans e1⟩
  ·by_cases hj:j=i
   ·subst hj
    rw [hi] at e1;cases e1
    rw [List.getElem?_set_self hiσ] at e2
    cases e2
    exact⟨u,r,.inr ⟨.inl hk,c,hc,hc'⟩⟩
   ·rw [List.getElem?_set_ne (Ne.symm hj)] at e2
    obtain⟨u',r',q⟩:=hl j y v' e1 e2 e3
    refine⟨u',r',?_⟩
    rcases q with q | ⟨k,c',e,z'⟩
    ·exact .inl q
    ·refine .inr ⟨k,c',e,z'.sameBut hs ?_⟩
     rintro rfl
     exact hj (ph hN e1 (I.ok.inj _ _ _ e hc ▸ hi))
  ·by_cases hcc:c' = c
   ·subst hcc;exact⟨_,hc'⟩
   ·obtain⟨w2,z2⟩:=I.cell y c' e
    exact⟨w2,z2.sameBut hs hcc⟩
  ·obtain⟨e,n,ne,nf,d⟩:=I.pin p hp
   refine⟨(hs.2 p.1 ?_).trans e,n,ne,nf,d⟩
   intro q
   rw [q,hoc] at e
   have q':oc=p.2:=Option.some.inj e
   exact d w' (by rw [<-q'];exact hocd)
theorem iO {M:Model} {A:Around} {E:Value->Shared->Prop} {i:Nat} {x:Str} {v:V} {u:Value} {Q:Unit->Shared->Prop} (I:Inv X pins σ H s) (hN:X.N.Nodup) (hi:X.N[i]? = some x) (hx:Loc X.env.scope x) (r:RelV v u)
  (h:∀ s',Inv X pins (σ.set i (some v)) H s'->Q () s') (hf:X.fn x=true\/X.env.scope.names.lookup x=some .local:=by first | exact .inl rfl | exact .inr rfl | assumption):wpAny M A (storeName X.env x u) Q E s :=
 kf I hN hi hx r (fun s' I' _=>h s' I') hf
theorem Inv.sO {s':Shared} {ch:List Addr} (I:Inv X pins σ H s) (ho:s'.os=s.os) (u:Un (ke X.stack) ch H H' s.heap s'.heap) (aP:dm X.prog X.w H' s'.heap) (hg:AllBare s'.gens)
  (hch:∀ b ∈ ch,(b ∈ X.ex\/X.dg.heap.objs.size<=b)/\b ≠ X.env.locals/\(∀ x c,X.env.cells.lookup x=some c->c ≠ b)/\∀ p ∈ X.pn++pins,p.1 ≠ b):Inv X pins σ H' s':=by
 obtain⟨h',g',d',t',o'⟩:=s'
 have e:o' = s.os:=ho
 subst e
 exact I.call (g':=g') (t':=t') (d':=d') u aP hg hch
end
abbrev XK:=Value->Option Addr->Hp->Prop
abbrev St:=List (Option V)
abbrev VK:=V->Hp->Prop
abbrev TE:=St->Hp->VK->Prop
abbrev TT:=St->Hp->(Bool->Hp->Prop)->Prop
abbrev TA:=St->Hp->(List V->Hp->Prop)->Prop
structure Ends where
 nx:St->Hp->Prop
 rt:VK
 bk:St->Hp->Prop:=fun _ _=>False
 ct:St->Hp->Prop:=fun _ _=>False
abbrev TS:=Ends->St->Hp->Prop
def EP (X:Cx) (pins:List (Addr × Obj)) (σ : St) (Q:VK) (u:Value) (s':Shared):Prop:=∃ v H',Inv X pins σ H' s'/\RelV v u/\Q v H'
def TP (X:Cx) (pins:List (Addr × Obj)) (σ : St) (Q:Bool->Hp->Prop) (b:Bool) (s':Shared):Prop:=∃ H',Inv X pins σ H' s'/\Q b H'
def AP (X:Cx) (pins:List (Addr × Obj)) (σ : St) (Q:List V->Hp->Prop) (us:List Value) (s':Shared):Prop:=∃ vs H',Inv X pins σ H' s'/\Vals vs us/\Q vs H'
def SP (X:Cx) (pins:List (Addr × Obj)) (D:Ends) (f:Flow) (s':Shared):Prop :=
 match f with
 | .next=>∃ σ' H',Inv X pins σ' H' s'/\D.nx σ' H'
 | .brk=>∃ σ' H',Inv X pins σ' H' s'/\D.bk σ' H'
 | .cont=>∃ σ' H',Inv X pins σ' H' s'/\D.ct σ' H'
 | .ret u=>∃ v σ' H',Inv X pins σ' H' s'/\RelV v u/\D.rt v H'
def PE (X:Cx) (e:Expr) (t:TE):Prop :=
 ∀ (pins:List (Addr × Obj)) (s:Shared) (σ : St) (H:Hp) (Q:VK),Inv X pins σ H s->t σ H Q->wpAny (model X.prog X.w) X.A (eval e X.env) (EP X pins σ Q) X.xe s
def PT (X:Cx) (e:Expr) (t:TT):Prop :=
 ∀ (pins:List (Addr × Obj)) (s:Shared) (σ : St) (H:Hp) (Q:Bool->Hp->Prop),Inv X pins σ H s->t σ H Q->wpAny (model X.prog X.w) X.A (isTrue e X.env (eval e X.env)) (TP X pins σ Q) X.xe s
def PW (X:Cx) (e:Expr) (t:TT):Prop :=
 ∀ (whole:Sem Value) (pins:List (Addr × Obj)) (s:Shared) (σ : St) (H:Hp) (Q:Bool->Hp->Prop),Inv X pins σ H s->t σ H Q->wpAny (model X.prog X.w) X.A (isTrue e X.env whole) (TP X pins σ Q) X.xe s
theorem PW.pt {X:Cx} {e:Expr} {t:TT} (h:PW X e t):PT X e t:=h _
def PA (X:Cx) (es:List Expr) (t:TA):Prop :=
 ∀ (pos:Pos) (pins:List (Addr × Obj)) (s:Shared) (σ : St) (H:Hp) (Q:List V->Hp->Prop),Inv X pins σ H s->t σ H Q->wpAny (model X.prog X.w) X.A (spliced (backTo pos (starEach es X.env))) (AP X pins σ Q) X.xe s
def PS (X:Cx) (st:Stmt) (t:TS):Prop :=
 ∀ (pins:List (Addr × Obj)) (s:Shared) (σ : St) (H:Hp) (D:Ends),Inv X pins σ H s->t D σ H->wpAny (model X.prog X.w) X.A (exec st X.env) (SP X pins D) X.xe s
def jw (X:Cx) (st:List Stmt) (t:TS):Prop :=
 ∀ (pins:List (Addr × Obj)) (s:Shared) (σ : St) (H:Hp) (D:Ends),Inv X pins σ H s->t D σ H->wpAny (model X.prog X.w) X.A (execs st X.env) (SP X pins D) X.xe s
theorem aU {α : Type} {t:Sem α} {Q Q':α->Shared->Prop} {M:Model} {A:Around} {E:Value->Shared->Prop} {s:Shared} (h:wpAny M A t Q E s) (hQ:∀ a s,Q a s->Q' a s):wpAny M A t Q' E s:=wpAny_mono h hQ fun _ _ x=>x
section
variable {X:Cx}
def sP (i:Nat):TE:=fun σ H Q=>∃ v,σ[i]? = some (some v)/\Q v H
def tC (v:V):TE:=fun _ H Q=>Q v H
theorem y8 {i:Nat} {x:Str} {pos:Pos} (hN:X.N[i]? = some x) (hv:xx X.env.scope x) (hd:(x == ("__debug__" : Str))=false:=by decide) (hcd:(x == ("__classdict__" : Str))=false:=by decide):PE X (.Name x pos) (sP i):=by
 intro pins s σ H Q I h
 obtain⟨v,e,h⟩:=h
 obtain⟨m,hn,hl⟩:=I.loc
 obtain⟨u,r,l⟩:=hl i x v hN e hv
 have fin:EP X pins σ Q u s:=⟨v,H,I,r,h⟩
 rcases l with ⟨hk,hm⟩ | ⟨hk,c,hc,hcell⟩
 ·exact wpAny_Name (wpAny_loadName_local I.ok.kind hk hn hm fin) hd
 ·rcases hk with hk | hk
  ·exact wpAny_Name (wpAny_loadName_cell I.ok.kind hk hc hcell fin) hd
  ·exact wpAny_Name (wpAny_loadName_free I.ok.kind hk hc hcell fin hcd) hd
theorem ai {i j pos}:PE X (.Constant (.int i) j pos) (tC (.int i)):=fun _ _ _ H _ I h=>wpAny_Constant_int ⟨.int i,H,I.tok _,⟨_,rfl⟩,h⟩
theorem fF {b j pos}:PE X (.Constant (.bool b) j pos) (tC (.bl b)):=fun _ _ _ H _ I h=>Constant_bool ⟨.bl b,H,I,rfl,h⟩
theorem kg {j pos}:PE X (.Constant .none j pos) (tC .bx):=fun _ _ _ H _ I h=>Constant_none ⟨.bx,H,I,rfl,h⟩
theorem aJ {x j pos}:PE X (.Constant (.str x) j pos) (tC (.str x)):=fun _ _ _ H _ I h=>Calls.Constant_str ⟨.str x,H,I.tok _,⟨_,rfl⟩,h⟩
def Gl (X:Cx) (x:Str):Prop:=X.env.kindOf x=some .globalImplicit
theorem nv {E:Value->Shared->Prop} {pins:List (Addr × Obj)} {s:Shared} {σ : St} {H:Hp} {x:Str} {u:Value} {pos:Pos} {Q:Value->Shared->Prop} (I:Inv X pins σ H s) (hg:Gl X x) (hm:X.mg x=some u) (h:Q u s)
  (hd:(x == ("__debug__" : Str))=false:=by decide):wpAny (model X.prog X.w) X.A (eval (.Name x pos) X.env) Q E s :=
 Calls.Name_function_global I.ok.kind hg (Calls.loadGlobal_global (by rw [I.ok.glob];exact I.mod.glob.keeps I.bk) hm h) hd
theorem jx {E:Value->Shared->Prop} {pins:List (Addr × Obj)} {s:Shared} {σ : St} {H:Hp} {x:Str} {u:Value} {pos:Pos} {Q:Value->Shared->Prop} (I:Inv X pins σ H s) (hg:Gl X x) (hm:X.mg x=none) (hv:bootBuiltins x=some u) (h:Q u s)
  (hn:x ≠ "__name__" := by decide) (hd:(x == ("__debug__" : Str))=false:=by decide):wpAny (model X.prog X.w) X.A (eval (.Name x pos) X.env) Q E s:=by
 obtain⟨mb,h1,h2⟩:=I.mod.blt
 exact Calls.Name_function_global I.ok.kind hg (Calls.loadGlobal_builtin (by rw [I.ok.glob];exact I.mod.glob.keeps I.bk) hm (by rw [I.ok.blt];exact h1.keeps I.bk) ((h2 x hn).trans hv) h) hd
theorem xY {x:Str} {v:V} {u:Value} {pos:Pos} (hg:Gl X x) (hm:X.mg x=some u) (r:RelV v u) (hd:(x == ("__debug__" : Str))=false:=by decide):PE X (.Name x pos) (tC v) :=
 fun _ _ _ H _ I h=>nv I hg hm ⟨v,H,I,r,h⟩ hd
variable {a b:Expr} {ta tb:TE} {pos:Pos}
def PC (X:Cx) (op:CmpOp) (a b:Expr) (t:TE):Prop :=
 ∀ (pins:List (Addr × Obj)) (s:Shared) (σ : St) (H:Hp) (Q:VK),Inv X pins σ H s->t σ H Q ->
  wpAny (model X.prog X.w) X.A (eval a X.env) (fun v s₁=>wpAny (model X.prog X.w) X.A (eval b X.env) (fun u s₂=>wpAny (model X.prog X.w) X.A (compareOp op v u) (EP X pins σ Q) X.xe s₂) X.xe s₁) X.xe s
theorem pA (b:Expr) {op:CmpOp} (h:op ≠ .In) (h2:op ≠ .NotIn):behindInMarks op b=false:=by
 have e1:(op == CmpOp.In)=false:=by cases op <;> first | rfl | exact absurd rfl h
 have e2:(op == CmpOp.NotIn)=false:=by cases op <;> first | rfl | exact absurd rfl h2
 cases b <;> simp [behindInMarks,e1,e2]
def AX (ta:TE):TE:=fun σ H Q=>ta σ H fun x H1=>Q (.bl (decide (x=.bx))) H1
def Af (ta:TE):TE:=fun σ H Q=>ta σ H fun x H1=>Q (.bl (!decide (x=.bx))) H1
theorem RelV.pB {x:V} {v:Value} (r:RelV x v):(v == Value.none)=decide (x=.bx):=by
 cases x with
 | bx=>cases r;rfl
 | bl _=>cases r;rfl
 | int _=>obtain⟨t,rfl⟩:=r;rfl
 | str _=>obtain⟨t,rfl⟩:=r;rfl
 | iL _=>obtain⟨t,rfl⟩:=r;rfl
 | uw _=>obtain⟨t,rfl⟩:=r;rfl
 | ref _=>cases r;rfl
 | ty _=>cases r;rfl
theorem jy {j pos'} (ha:PE X a ta):PC X .Is a (.Constant .none j pos') (AX ta):=by
 intro pins s σ H Q I h
 refine aU (ha pins s σ H _ I h) fun v s1 ⟨x,H1,I1,r1,q1⟩=>?_
 exact Constant_none (is_none_gen ⟨.bl _,H1,I1,by rw [r1.pB];rfl,q1⟩)
theorem kZ {j pos'} (ha:PE X a ta):PC X .IsNot a (.Constant .none j pos') (Af ta):=by
 intro pins s σ H Q I h
 refine aU (ha pins s σ H _ I h) fun v s1 ⟨x,H1,I1,r1,q1⟩=>?_
 exact Constant_none (isnot_none_gen ⟨.bl _,H1,I1,by rw [r1.pB];rfl,q1⟩)
def tB (t:TE):TT:=fun σ H Q=>t σ H fun x H1=>∃ c,x=.bl c/\Q c H1
theorem uB {op:CmpOp} {t:TE} (h:PC X op a b t) (h1:behindInMarks op b=false:=by first | exact pA _ (by decide) (by decide) | rfl):PE X (.Compare a [op] [b] pos) t:=fun pins s σ H Q I hw=>wpAny_Compare1 (h pins s σ H Q I hw) h1
theorem gG {op:CmpOp} {t:TE} (h:PC X op a b t) (h1:behindInMarks op b=false:=by first | exact pA _ (by decide) (by decide) | rfl):PT X (.Compare a [op] [b] pos) (tB t):=by
 intro pins s σ H Q I hw
 refine wpAny_isTrue_Compare1 (aU (h pins s σ H _ I hw) fun v s1 h1=>aU h1 fun u s2 h2=>aU h2 fun c s3 ⟨x,H1,I1,r1,q1⟩=>?_) h1
 obtain⟨d,rfl,q⟩:=q1
 cases r1
 exact wpAny_truthy_bool ⟨H1,I1,q⟩
theorem jA {e:Expr} {t:TE} (h:PE X e t) (he:∀ whole,isTrue e X.env whole=(do let v <-whole;standAt e.pos;holding [v] (truthy v)):=by intro _;rfl):PT X e (tB t):=by
 intro pins s σ H Q I hw
 refine isTrue_plain (aU (h pins s σ H _ I hw) fun v s1 ⟨x,H1,I1,r1,q1⟩=>?_) (he _)
 obtain⟨d,rfl,q⟩:=q1
 cases r1
 exact wpAny_truthy_bool ⟨H1,I1,q⟩
variable {tA tB':TT} {rest:List Expr}
def AY (t u:TT):TT:=fun σ H Q=>t σ H fun c H1=>if c=true then u σ H1 Q else Q false H1
def BC (t u:TT):TT:=fun σ H Q=>t σ H fun c H1=>if c=true then Q true H1 else u σ H1 Q
def AZ (t:TT):TT:=fun σ H Q=>t σ H fun c H1=>Q (!c) H1
theorem gU (ha:PT X a tA):PW X (.BoolOp .And [a] pos) tA:=by
 intro wh pins s σ H Q I h
 refine isTrue_and (aU (ha pins s σ H Q I h) fun c s1 e=>?_)
 cases c with
 | true=>exact isTrue_and_nil e
 | false=>exact e
theorem pC (ha:PT X a tA):PW X (.BoolOp .Or [a] pos) tA:=by
 intro wh pins s σ H Q I h
 refine isTrue_or (aU (ha pins s σ H Q I h) fun c s1 e=>?_)
 cases c with
 | false=>exact isTrue_or_nil e
 | true=>exact e
theorem iP (ha:PT X a tA) (hb:PW X (.BoolOp .And (b :: rest) pos) tB'):PW X (.BoolOp .And (a :: b :: rest) pos) (AY tA tB'):=by
 intro wh pins s σ H Q I h
 refine isTrue_and (aU (ha pins s σ H _ I h) fun c s1 ⟨H1,I1,q1⟩=>?_)
 cases c with
 | true=>exact hb wh pins s1 σ H1 Q I1 q1
 | false=>exact⟨H1,I1,q1⟩
theorem sQ (ha:PT X a tA) (hb:PW X (.BoolOp .Or (b :: rest) pos) tB'):PW X (.BoolOp .Or (a :: b :: rest) pos) (BC tA tB'):=by
 intro wh pins s σ H Q I h
 refine isTrue_or (aU (ha pins s σ H _ I h) fun c s1 ⟨H1,I1,q1⟩=>?_)
 cases c with
 | true=>exact⟨H1,I1,q1⟩
 | false=>exact hb wh pins s1 σ H1 Q I1 q1
theorem uC (ha:PT X a tA):PT X (.UnaryOp .Not a pos) (AZ tA):=by
 intro pins s σ H Q I h
 exact isTrue_not (ha pins s σ H (fun c H1=>Q (!c) H1) I h)
def Ag (ta tb:TE):TE:=fun σ H Q=>ta σ H fun x H1=>∃ c,x=.bl c/\if c=true then tb σ H1 Q else Q (.bl false) H1
def A3 (ta tb:TE):TE:=fun σ H Q=>ta σ H fun x H1=>∃ c,x=.bl c/\if c=true then Q (.bl true) H1 else tb σ H1 Q
theorem kh {op} {t:TE} (h:PE X a t):PE X (.BoolOp op [a] pos) t:=fun pins s σ H Q I hw=>BoolOp_one (h pins s σ H Q I hw)
theorem uD (ha:PE X a ta) (hb:PE X (.BoolOp .And (b :: rest) pos) tb):PE X (.BoolOp .And (a :: b :: rest) pos) (Ag ta tb):=by
 intro pins s σ H Q I h
 refine BoolOp_and (aU (ha pins s σ H _ I h) fun v s1 ⟨x,H1,I1,r1,q1⟩=>?_)
 obtain⟨c,rfl,q1⟩:=q1
 cases r1
 refine wpAny_truthy_bool ?_
 cases c with
 | true=>exact hb pins s1 σ H1 Q I1 q1
 | false=>exact⟨.bl false,H1,I1,rfl,q1⟩
theorem sR (ha:PE X a ta) (hb:PE X (.BoolOp .Or (b :: rest) pos) tb):PE X (.BoolOp .Or (a :: b :: rest) pos) (A3 ta tb):=by
 intro pins s σ H Q I h
 refine BoolOp_or (aU (ha pins s σ H _ I h) fun v s1 ⟨x,H1,I1,r1,q1⟩=>?_)
 obtain⟨c,rfl,q1⟩:=q1
 cases r1
 refine wpAny_truthy_bool ?_
 cases c with
 | false=>exact hb pins s1 σ H1 Q I1 q1
 | true=>exact⟨.bl true,H1,I1,rfl,q1⟩
def BD (t:TT) (ta tb:TE):TE:=fun σ H Q=>t σ H fun c H1=>if c=true then ta σ H1 Q else tb σ H1 Q
theorem eQ {c:Expr} (hc:PT X c tA) (ha:PE X a ta) (hb:PE X b tb):PE X (.IfExp c a b pos) (BD tA ta tb):=by
 intro pins s σ H Q I h
 refine wpAny_IfExp (aU (hc pins s σ H _ I h) fun d s1 ⟨H1,I1,q1⟩=>?_)
 cases d with
 | true=>exact ha pins s1 σ H1 Q I1 q1
 | false=>exact hb pins s1 σ H1 Q I1 q1
end
def aM (K:PySem.W.Frag) (H:Hp) (a:Addr) (xs:List V):Prop :=
 Rd H a (.lst xs) \/
  ∃ (o:Obj) (its:Array Value) (n:Nat),K.lookup a=some o/\o.cls=.type "list" /\ o.dict=none/\o.data=.seq its n/\its.size<=sizeLine/\Vals xs its.toList
def av (K:PySem.W.Frag) (H:Hp) (a:Addr) (xs:List V):Prop :=
 Rd H a (.tup xs) \/
  ∃ (o:Obj) (its:Array Value) (n:Nat),K.lookup a=some o/\o.cls=.type "tuple" /\ o.data=.seq its n/\its.size<=sizeLine/\Vals xs its.toList
def A4:Value->Option V
 | .none=>some .bx
 | .bool b=>some (.bl b)
 | .int i _=>some (.int i)
 | .str x _=>some (.str x)
 | .bytes b _=>some (.iL b)
 | .float b _=>some (.uw b)
 | .ref a=>some (.ref a)
 | .type n=>some (.ty n)
 | _=>none
theorem RelV.abs {x:V} {u:Value} (r:RelV x u):A4 u=some x:=by
 cases x with
 | bx=>cases r;rfl
 | bl _=>cases r;rfl
 | int _=>obtain⟨t,rfl⟩:=r;rfl
 | str _=>obtain⟨t,rfl⟩:=r;rfl
 | iL _=>obtain⟨t,rfl⟩:=r;rfl
 | uw _=>obtain⟨t,rfl⟩:=r;rfl
 | ref _=>cases r;rfl
 | ty _=>cases r;rfl
theorem RelV.inj {x y:V} {u:Value} (r:RelV x u) (q:RelV y u):x=y:=Option.some.inj (r.abs.symm.trans q.abs)
theorem Vals.inj:∀ {xs ys:List V} {us:List Value},Vals xs us->Vals ys us->xs=ys
 | _,_,_,.nil,.nil=>rfl
 | _,_,_,.cons r t,.cons r' t'=>by rw [r.inj r',Vals.inj t t']
section
variable {X:Cx} {pins:List (Addr × Obj)} {σ : St} {H:Hp} {s:Shared} {a:Addr} {xs ys:List V}
theorem aM.of {K:PySem.W.Frag} (h:H a=some (.lst xs)):aM K H a xs:=.inl (.inl h)
theorem av.of {K:PySem.W.Frag} (h:H a=some (.tup xs)):av K H a xs:=.inl (.inl h)
theorem Inv.list (I:Inv X pins σ H s) (h:aM X.K H a xs):∃ its:List Value,Vals xs its/\PlainL s.heap a its.toArray/\xs.length<=sizeLine:=by
 rcases h with h | ⟨o,its,n,hk,hc,hd,hs,hz,r⟩
 ·obtain⟨z,its,n,r,e⟩:=h.ok I.aP
  exact⟨its,r,⟨_,n,e,rfl,rfl,rfl⟩,z⟩
 ·refine⟨its.toList,r,⟨o,n,I.iN a o hk,hc,hd,by simpa using hs⟩,?_⟩
  have e:=r.length
  simp only [Array.length_toList] at e
  omega
theorem Inv.tuple (I:Inv X pins σ H s) (h:av X.K H a xs):∃ its:List Value,Vals xs its/\IsTup s.heap a its.toArray/\xs.length<=sizeLine:=by
 rcases h with h | ⟨o,its,n,hk,hc,hs,hz,r⟩
 ·obtain⟨z,its,r,o,e,c,n,d,_⟩:=h.ok I.aP
  exact⟨its,r,⟨o,e,c,n,d⟩,z⟩
 ·refine⟨its.toList,r,⟨o,I.iN a o hk,hc,n,by simpa using hs⟩,?_⟩
  have e:=r.length
  simp only [Array.length_toList] at e
  omega
theorem Inv.pD (I:Inv X pins σ H s) (h:aM X.K H a xs) (h':aM X.K H a ys):xs=ys:=by
 obtain⟨its,r,⟨o,n,e,_,_,d⟩,_⟩:=I.list h
 obtain⟨its',r',⟨o',n',e',_,_,d'⟩,_⟩:=I.list h'
 rw [e] at e';cases e'
 rw [d] at d'
 injection d' with d1 _
 have:its=its':=by simpa using congrArg Array.toList d1
 subst this
 exact r.inj r'
theorem Inv.ia (I:Inv X pins σ H s) (h:av X.K H a xs) (h':av X.K H a ys):xs=ys:=by
 obtain⟨its,r,⟨o,e,_,n,d⟩,_⟩:=I.tuple h
 obtain⟨its',r',⟨o',e',_,n',d'⟩,_⟩:=I.tuple h'
 rw [e] at e';cases e'
 rw [d] at d'
 injection d' with d1 _
 have:its=its':=by simpa using congrArg Array.toList d1
 subst this
 exact r.inj r'
end
abbrev Cx.jm (X:Cx) (E:Value->Shared->Prop):Cx:={ X with xe:=E }
abbrev Cx.xA (X:Cx):Cx:=X.jm fun _ _=>False
theorem Cx.Ok.jm {X:Cx} (ok:X.Ok) (E:Value->Shared->Prop):(X.jm E).Ok :=
 ⟨ok.mod,ok.kind,ok.glob,ok.blt,ok.above,ok.inj,ok.has,ok.uA,ok.hd,ok.frames,ok.xy,ok.AF,ok.bs,ok.mJ,ok.o8,ok.sN,ok.iw,ok.o9⟩
theorem Cx.Ok.ib {X:Cx} {E:Value->Shared->Prop} (ok:(X.jm E).Ok):X.Ok :=
 ⟨ok.mod,ok.kind,ok.glob,ok.blt,ok.above,ok.inj,ok.has,ok.uA,ok.hd,ok.frames,ok.xy,ok.AF,ok.bs,ok.mJ,ok.o8,ok.sN,ok.iw,ok.o9⟩
section
variable {X:Cx} {pins:List (Addr × Obj)} {σ : St} {H:Hp} {s:Shared} {E:Value->Shared->Prop}
theorem Inv.jm (I:Inv X pins σ H s) (E:Value->Shared->Prop):Inv (X.jm E) pins σ H s:=⟨I.ok.jm E,I.os,I.bare,I.base,I.loc,I.cell,I.free,I.eh,I.pin,I.aP,I.len⟩
theorem Inv.ib (I:Inv (X.jm E) pins σ H s):Inv X pins σ H s:=⟨I.ok.ib,I.os,I.bare,I.base,I.loc,I.cell,I.free,I.eh,I.pin,I.aP,I.len⟩
theorem SP.ib {D:Ends} {f:Flow} {s':Shared} (h:SP (X.jm E) pins D f s'):SP X pins D f s':=by
 cases f with
 | next=>obtain⟨σ',H',I,q⟩:=h;exact⟨σ',H',I.ib,q⟩
 | brk=>obtain⟨σ',H',I,q⟩:=h;exact⟨σ',H',I.ib,q⟩
 | cont=>obtain⟨σ',H',I,q⟩:=h;exact⟨σ',H',I.ib,q⟩
 | ret u=>obtain⟨v,σ',H',I,r,q⟩:=h;exact⟨v,σ',H',I.ib,r,q⟩
theorem jw.xA {st:List Stmt} {t:TS} (h:jw X.xA st t):jw X st t:=fun pins s σ H D I hw =>
 wpAny_mono (h pins s σ H D (I.jm _) hw) (fun _ _ q=>q.ib) fun _ _ z=>False.elim z
end
section
variable {X:Cx} {st:Stmt} {rest:List Stmt} {t u:TS} {e:Expr} {te:TE} {pos:Pos}
def Ah:TS:=fun D σ H=>D.nx σ H
def A5 (t u:TS):TS:=fun D σ H=>t { D with nx:=u D } σ H
theorem aX:jw X [] Ah:=fun _ _ σ H _ I h=>wpAny_execs_nil ⟨σ,H,I,h⟩
theorem ah (h1:PS X st t) (h2:jw X rest u):jw X (st :: rest) (A5 t u):=by
 intro pins s σ H D I h
 refine wpAny_execs_cons (aU (h1 pins s σ H { D with nx:=u D } I h) fun f s1 q=>?_)
 cases f with
 | next =>
  obtain⟨σ',H',I',q⟩:=q
  exact h2 pins s1 σ' H' D I' q
 | ret v=>exact q
 | brk=>exact q
 | cont=>exact q
theorem ar (h1:PS X st t):jw X [st] t:=by
 intro pins s σ H D I h
 refine wpAny_execs_cons (aU (h1 pins s σ H D I h) fun f s1 q=>?_)
 cases f with
 | next=>exact wpAny_execs_nil q
 | ret v=>exact q
 | brk=>exact q
 | cont=>exact q
def Ai:TS:=fun D σ H=>D.ct σ H
theorem q9:PS X (.Continue pos) Ai:=fun _ _ σ H _ I h=>wpAny_Continue ⟨σ,H,I,h⟩
theorem Inv.quiet {pins:List (Addr × Obj)} {σ : St} {H:Hp} {s:Shared} (I:Inv X pins σ H s):interactive X.env=false:=by simp [interactive,I.ok.kind]
def Aj (te:TE):TS:=fun D σ H=>te σ H fun _ H1=>D.nx σ H1
theorem bT (he:PE X e te) (hs:swapsWith e none pos.line X.env=pure false:=by rfl):PS X (.Expr e pos) (Aj te):=by
 intro pins s σ H D I h
 exact wpAny_Expr_any (aU (he pins s σ H _ I h) fun v s1 ⟨x,H1,I1,r1,q1⟩=>⟨σ,H1,I1,q1⟩) I.quiet hs
def A6 (te:TE):TS:=fun D σ H=>te σ H D.rt
theorem aI (he:PE X e te):PS X (.Return (some e) pos) (A6 te):=by
 intro pins s σ H D I h
 exact wpAny_Return_some (aU (he pins s σ H _ I h) fun v s1 ⟨x,H1,I1,r1,q1⟩=>⟨x,σ,H1,I1,r1,q1⟩)
def A7 (c:TT) (t u:TS):TS:=fun D σ H=>c σ H fun b H1=>if b=true then t D σ H1 else u D σ H1
theorem bc {c:Expr} {a b:List Stmt} {tc:TT} (hc:PT X c tc) (ha:jw X a t) (hb:jw X b u):PS X (.If c a b pos) (A7 tc t u):=by
 intro pins s σ H D I h
 refine wpAny_If (aU (hc pins s σ H _ I h) fun d s1 ⟨H1,I1,q1⟩=>?_)
 cases d with
 | true=>exact ha pins s1 σ H1 D I1 q1
 | false=>exact hb pins s1 σ H1 D I1 q1
end
abbrev TG:=V->St->Hp->(St->Hp->Prop)->Prop
abbrev oq:=List V->St->Hp->(St->Hp->Prop)->Prop
def PG (X:Cx) (target:Expr) (t:TG):Prop :=
 ∀ (pins:List (Addr × Obj)) (s:Shared) (σ : St) (H:Hp) (v:V) (u:Value) (Q:St->Hp->Prop),Inv X pins σ H s->RelV v u->t v σ H Q ->
  wpAny (model X.prog X.w) X.A (assign target X.env u) (fun _ s'=>∃ σ' H',Inv X pins σ' H' s'/\Q σ' H') X.xe s
def xB (X:Cx) (ts:List Expr) (t:oq):Prop :=
 ∀ (pins:List (Addr × Obj)) (s:Shared) (σ : St) (H:Hp) (vs:List V) (us:List Value) (Q:St->Hp->Prop),Inv X pins σ H s->Vals vs us->t vs σ H Q ->
  wpAny (model X.prog X.w) X.A (assignInOrder ((assignEach ts X.env).map (·.2)) us) (fun _ s'=>∃ σ' H',Inv X pins σ' H' s'/\Q σ' H') X.xe s
abbrev vS:=V->V->V->Hp->(Hp->Prop)->Prop
def y9 (X:Cx) (t:vS):Prop :=
 ∀ (pins:List (Addr × Obj)) (s:Shared) (σ : St) (H:Hp) (o i v:V) (ov iv u:Value) (Q:Hp->Prop),Inv X pins σ H s->RelV o ov->RelV i iv->RelV v u->t o i v H Q ->
  wpAny (model X.prog X.w) X.A (setItem ov iv u) (fun _ s'=>∃ H',Inv X pins σ H' s'/\Q H') X.xe s
abbrev xC:=V->V->Hp->VK->Prop
def AG (X:Cx) (op:Operator) (t:xC):Prop :=
 ∀ (pins:List (Addr × Obj)) (s:Shared) (σ : St) (H:Hp) (x y:V) (v u:Value) (Q:VK),Inv X pins σ H s->RelV x v->RelV y u->t x y H Q ->
  wpAny (model X.prog X.w) X.A (inplaceOp op v u) (EP X pins σ Q) X.xe s
section
variable {X:Cx} {pos:Pos}
def mK (i:Nat):TG:=fun v σ H Q=>Q (σ.set i (some v)) H
theorem aA {i:Nat} {x:Str} (hN:X.N.Nodup) (hi:X.N[i]? = some x) (hx:Loc X.env.scope x) (hf:X.fn x=true\/X.env.scope.names.lookup x=some .local:=by first | exact .inl rfl | exact .inr rfl | assumption):PG X (.Name x pos) (mK i):=by
 intro pins s σ H v u Q I r h
 exact wpAny_assign_Name (iO I hN hi hx r (fun s' I'=>⟨_,H,I',h⟩) hf)
def A8:oq:=fun vs σ H Q=>vs = []/\Q σ H
def Ak (t:TG) (u:oq):oq:=fun vs σ H Q=>∃ v r,vs=v :: r/\t v σ H fun σ' H'=>u r σ' H' Q
theorem cv:xB X [] A8:=by
 intro pins s σ H vs us Q I r h
 obtain⟨e,h⟩:=h
 subst e
 cases r
 exact assignInOrder_nil ⟨σ,H,I,h⟩
theorem aL {e:Expr} {es:List Expr} {t:TG} {u:oq} (h1:PG X e t) (h2:xB X es u)
  (hs:(assignEach (e :: es) X.env).map (·.2)=assign e X.env :: (assignEach es X.env).map (·.2):=by rfl):xB X (e :: es) (Ak t u):=by
 intro pins s σ H vs us Q I r h
 obtain⟨v,vr,e1,h⟩:=h
 subst e1
 cases r with
 | cons r rr =>
  rw [hs]
  refine assignInOrder_cons (aU (h1 pins s σ H _ _ _ I r h) fun _ s1 ⟨σ1,H1,I1,q1⟩=>?_)
  exact h2 pins s1 σ1 H1 _ _ Q I1 rr q1
def vT (K:PySem.W.Frag) (n:Nat) (t:oq):TG:=fun v σ H Q=>∃ a xs,v=.ref a/\av K H a xs/\xs.length=n/\t xs σ H Q
theorem cI {es:List Expr} {k:Nat} {t:oq} {n:Nat} (hc:X.calm=true) (h:xB X es t)
  (hn:(assignEach es X.env).length=n:=by rfl) (hst:(assignEach es X.env).findIdx? (·.1)=none:=by rfl):PG X (.Tuple es k pos) (vT X.K n t):=by
 intro pins s σ H v u Q I r hw
 obtain⟨a,xs,e1,hq,hl,hw⟩:=hw
 subst e1
 cases r
 obtain⟨its,rv,ht,hz⟩:=I.tuple hq
 refine assign_Tuple_tuple (I.ok.hd hc) ht (by simp [hn,<-hl,rv.length]) hst fun h' hx=>?_
 have I1:Inv X pins σ H { s with heap:=h' }:=I.kept (t':=s.toks) fun b o e=>hx b o (Nat.ne_of_lt (Heap.lt_size e)) e
 exact h pins _ σ H xs _ Q I1 (by simpa using rv) hw
def A9 (to ti:TE) (t:vS):TG:=fun v σ H Q=>to σ H fun o H1=>ti σ H1 fun i H2=>t o i v H2 fun H3=>Q σ H3
theorem pE {o i:Expr} {to ti:TE} {t:vS} (ho:PE X o to) (hi:PE X i ti) (hs:y9 X t)
  (ha:∀ v,assign (.Subscript o i pos) X.env v=(do
   let ov <-holding [v] (eval o X.env)
   let iv <-holding [v,ov] (eval i X.env)
   standAt pos
   holding [v,ov,iv] (setItem ov iv v)
   release [v,ov,iv] []):=by intro _;rfl):PG X (.Subscript o i pos) (A9 to ti t):=by
 intro pins s σ H v u Q I r h
 rw [ha]
 refine wpAny_bind (wpAny_holding (aU (ho pins s σ H _ I h) fun ov s1 ⟨x,H1,I1,r1,q1⟩=>?_))
 refine wpAny_bind (wpAny_holding (aU (hi pins s1 σ H1 _ I1 q1) fun iv s2 ⟨y,H2,I2,r2,q2⟩=>?_))
 refine wpAny_bind (wpAny_standAt (wpAny_bind (wpAny_holding (aU (hs pins s2 σ H2 x y v ov iv u _ I2 r1 r2 r q2) fun _ s3 ⟨H3,I3,q3⟩=>?_))))
 exact wpAny_release ⟨σ,H3,I3,q3⟩
def sS (te:TE) (g:TG):TS:=fun D σ H=>te σ H fun x H1=>g x σ H1 D.nx
theorem dz {tg e:Expr} {te:TE} {g:TG} (he:PE X e te) (hg:PG X tg g) (hs:swapsWithSole [tg] e pos.line X.env=pure false:=by rfl) (hw:swappedStores [tg] e X.env=pure none:=by rfl)
  (h1:(assignEach [tg] X.env).map (·.2) = [assign tg X.env]:=by rfl):PS X (.Assign [tg] e pos) (sS te g):=by
 intro pins s σ H D I h
 refine wpAny_Assign_stores (aU (he pins s σ H _ I h) fun v s1 ⟨x,H1,I1,r1,q1⟩=>?_) hs hw
 rw [h1]
 exact aU (hg pins s1 σ H1 x v _ I1 r1 q1) fun _ s2 q=>q
theorem aT {i:Nat} {x:Str} {e:Expr} {te:TE} {pos':Pos} (hN:X.N.Nodup) (hi:X.N[i]? = some x) (hx:Loc X.env.scope x) (he:PE X e te) (hs:swapsWith e (some (.Name x pos')) pos.line X.env=pure false:=by rfl) (hf:X.fn x=true\/X.env.scope.names.lookup x=some .local:=by first | exact .inl rfl | exact .inr rfl | assumption) :
  PS X (.Assign [.Name x pos'] e pos) (sS te (mK i)):=by
 intro pins s σ H D I h
 refine wpAny_Assign_Name (aU (he pins s σ H _ I h) fun v s1 ⟨y,H1,I1,r1,q1⟩=>?_) hs
 exact iO I1 hN hi hx r1 (fun s2 I2=>⟨_,H1,I2,q1⟩) hf
def Ba (i j:Nat) (ta:TA):TS:=fun D σ H=>ta σ H fun vs H1=>∃ v w,vs = [v,w]/\D.nx ((σ.set i (some v)).set j (some w)) H1
theorem pF {i j:Nat} {x y:Str} {a b:Expr} {ta:TA} {px py pt:Pos} {kt k2 pt2} (hc:X.calm=true) (hN:X.N.Nodup) (hi:X.N[i]? = some x) (hj:X.N[j]? = some y) (hij:i ≠ j)
  (hx:X.env.scope.names.lookup x=some .local) (hy:X.env.scope.names.lookup y=some .local) (ha:PA X [a,b] ta)
  (hw:swappedStores [.Tuple [.Name x px,.Name y py] kt pt] (.Tuple [a,b] k2 pt2) X.env=pure (some [x,y]))
  (hs:swapsWithSole [.Tuple [.Name x px,.Name y py] kt pt] (.Tuple [a,b] k2 pt2) pos.line X.env=pure false:=by rfl) :
  PS X (.Assign [.Tuple [.Name x px,.Name y py] kt pt] (.Tuple [a,b] k2 pt2) pos) (Ba i j ta):=by
 intro pins s σ H D I h
 rw [exec_Assign_arm]
 refine wpAny_bind (wpAny_standAt ?_)
 rw [hs]
 refine wpAny_bind (wpAny_pure ?_)
 rw [if_neg (by decide)]
 refine wpAny_bind (Tuple_ (aU (ha _ pins s σ H _ I h) fun us s1 ⟨vs,H1,I1,r1,q1⟩=>?_))
 obtain⟨v,w,e1,q1⟩:=q1
 subst e1
 obtain⟨u1,u2,rfl,rv,rw'⟩:∃ u1 u2,us = [u1,u2]/\RelV v u1/\RelV w u2:=by
  cases r1 with
  | cons p q =>
   cases q with
   | cons p' q' =>
    cases q'
    exact⟨_,_,rfl,p,p'⟩
 refine wpAny_newObj_type ?_ (by show 2<=sizeLine;decide)
 have I2:Inv X pins σ H1 { s1 with heap:=s1.heap.push { cls:=.type "tuple",data:=.seq [u1,u2].toArray } }:=I1.kept (t':=s1.toks) fun b o e=>Heap.get?_push_of_some _ e
 rw [hw]
 refine wpAny_bind (wpAny_pure ?_)
 show wpAny (model X.prog X.w) X.A (do rule "assign.swapped-stores";let items <-unpackItems (.ref s1.heap.objs.size) 2 none;assignInOrder [fun v=>bindName X.env y v,fun v=>bindName X.env x v] items.reverse;pure Flow.next) _ _ _
 refine wpAny_bind (wpAny_rule (wpAny_bind (unpackItems_tuple (items:=#[u1,u2]) (I.ok.hd hc) (IsTup.new s1.heap _) fun h' hx'=>?_)))
 have I3:=I2.kept (h':=h') (t':=s1.toks) fun b o e=>hx' b o (Nat.ne_of_lt (Heap.lt_size e)) e
 show wpAny _ _ (assignInOrder [fun v=>bindName X.env y v,fun v=>bindName X.env x v] [u2,u1] >>= fun _=>pure Flow.next) _ _ _
 refine wpAny_bind (assignInOrder_cons (wpAny_bindName (iO I3 hN hj (.inl hy) rw' (fun s2 I4=>?_) (.inr hy))))
 refine assignInOrder_cons (wpAny_bindName (iO I4 hN hi (.inl hx) rv (fun s3 I5=>assignInOrder_nil (wpAny_pure ?_)) (.inr hx)))
 rw [List.set_comm _ _ (Ne.symm hij)] at I5
 exact⟨_,H1,I5,q1⟩
def Bb (i:Nat) (te:TE) (ti:xC):TS:=fun D σ H=>∃ x,σ[i]? = some (some x)/\te σ H fun y H1=>ti x y H1 fun z H2=>D.nx (σ.set i (some z)) H2
theorem za {i:Nat} {x:Str} {e:Expr} {te:TE} {op:Operator} {ti:xC} {pos':Pos} (hN:X.N.Nodup) (hi:X.N[i]? = some x) (hx:Loc X.env.scope x) (he:PE X e te) (ho:AG X op ti) (hf:X.fn x=true\/X.env.scope.names.lookup x=some .local:=by first | exact .inl rfl | exact .inr rfl | assumption) :
  PS X (.AugAssign (.Name x pos') op e pos) (Bb i te ti):=by
 intro pins s σ H D I h
 obtain⟨v,e1,h⟩:=h
 obtain⟨m,hn,hl⟩:=I.loc
 have vis:xx X.env.scope x:=by rcases hx with k | k;exact .inl k;exact .inr (.inl k)
 obtain⟨u,r,l⟩:=hl i x v hi e1 vis
 refine wpAny_AugAssign_Name ?_
 have go:wpAny (model X.prog X.w) X.A (eval e X.env) (fun w s₂=>wpAny (model X.prog X.w) X.A (inplaceOp op u w) (fun r s₃=>wpAny (model X.prog X.w) X.A (storeName X.env x r) (fun _=>SP X pins D .next) X.xe s₃) X.xe s₂) X.xe s:=by
  refine aU (he pins s σ H _ I h) fun w s1 ⟨y,H1,I1,r1,q1⟩=>?_
  refine aU (ho pins s1 σ H1 v y u w _ I1 r r1 q1) fun z s2 ⟨zv,H2,I2,r2,q2⟩=>?_
  exact iO I2 hN hi hx r2 (fun s3 I3=>⟨_,H2,I3,q2⟩) hf
 rcases l with ⟨hk,hm⟩ | ⟨hk,c,hc,hcell⟩
 ·exact wpAny_loadName_local I.ok.kind hk hn hm go
 ·rcases hk with hk | hk
  ·exact wpAny_loadName_cell I.ok.kind hk hc hcell go
  ·rcases hx with k | k
   ·have:X.env.scope.names.lookup x=some .free:=hk
    rw [k] at this;cases this
   ·have:X.env.scope.names.lookup x=some .free:=hk
    rw [k] at this;cases this
def BE (f:Int->Int->Int):xC:=fun x y H Q=>∃ i j,x=.int i/\y=.int j/\Q (.int (f i j)) H
theorem zb:AG X .Add (BE fun i j=>i+j):=by
 intro pins s σ H x y v u Q I r1 r2 h
 obtain⟨i,j,e1,e2,q⟩:=h
 subst e1;subst e2
 obtain⟨t,rfl⟩:=r1
 obtain⟨t',rfl⟩:=r2
 exact iadd_int ⟨.int _,H,I.tok _,⟨_,rfl⟩,q⟩
end
section
variable {X:Cx} {pos:Pos}
def zc (c:TT) (tb:TS):TS:=fun D σ H=>∃ W:Nat->St->Hp->Prop,(∃ m,W m σ H)/\∀ m σ H,W m σ H ->
 c σ H fun b H1=>if b=true then ∃ N:St->Hp->Prop,(∀ σ' H',N σ' H'->∃ m',m' < m/\W m' σ' H')/\tb { D with nx:=N,ct:=N,bk:=D.nx } σ H1 else D.nx σ H1
theorem pG {c:Expr} {body:List Stmt} {tc:TT} {tb:TS} (hp:PassesOwn (model X.prog X.w) X.A X.env X.xe) (hc:PT X c tc) (hb:jw X body tb):PS X (.While c body [] pos) (zc tc tb):=by
 intro pins s σ H D I h
 obtain⟨W,⟨m0,w0⟩,turn⟩:=h
 refine wpAny_While (codeAny_whileLoop (fun n s'=>∃ σ' H',Inv X pins σ' H' s'/\W n σ' H') ?_ m0 ⟨σ,H,I,w0⟩)
 rintro n s1 ⟨σ1,H1,I1,w1⟩
 refine wpAny_passesOwn hp (aU (hc pins s1 σ1 H1 _ I1 (turn n σ1 H1 w1)) fun b s2 ⟨H2,I2,q2⟩=>?_)
 cases b with
 | true =>
  obtain⟨N,hN,q2⟩:=q2
  rw [if_pos rfl]
  refine wpAny_passesOwn hp (aU (hb pins s2 σ1 H2 _ I2 q2) fun f s3 q3=>?_)
  cases f with
  | next =>
   obtain⟨σ3,H3,I3,n3⟩:=q3
   obtain⟨m',hm,w3⟩:=hN σ3 H3 n3
   exact⟨m',hm,σ3,H3,I3,w3⟩
  | cont =>
   obtain⟨σ3,H3,I3,n3⟩:=q3
   obtain⟨m',hm,w3⟩:=hN σ3 H3 n3
   exact⟨m',hm,σ3,H3,I3,w3⟩
  | brk=>exact q3
  | ret v=>exact q3
 | false =>
  rw [if_neg Bool.false_ne_true]
  exact wpAny_execs_nil ⟨σ1,H2,I2,q2⟩
end
structure It where
 go:Nat->Hp->Prop
 ki:Nat->Hp->V->Hp->Prop
 stop:Nat->Hp->Prop
def fi (X:Cx) (pins:List (Addr × Obj)) (H:Hp) (b:Addr):Prop :=
 H b=none/\b ≠ X.env.locals/\b ∉ X.fs/\(b ∈ X.ex\/X.dg.heap.objs.size<=b)/\(∀ x c,X.env.cells.lookup x=some c->c ≠ b)/\∀ p ∈ X.pn++pins,p.1 ≠ b
theorem Inv.iQ {X:Cx} {pins:List (Addr × Obj)} {σ : St} {H H':Hp} {s:Shared} {b:Addr} (I:Inv X pins σ H s) (hb:s.heap.objs.size<=b) (hn:H' b=none):fi X pins H' b:=by
 refine⟨hn,Nat.ne_of_gt (Nat.lt_of_lt_of_le I.lt hb),I.AW hb,.inr (Nat.le_trans I.sz hb),fun x c e z=>?_,fun p hp z=>?_⟩
 ·obtain⟨v,q⟩:=I.cell x c e
  exact absurd (Nat.lt_of_lt_of_le q.lt (by rw [z];exact hb)) (Nat.lt_irrefl _)
 ·exact absurd (Nat.lt_of_lt_of_le (Heap.lt_size (I.pin p hp).1) (by rw [z];exact hb)) (Nat.lt_irrefl _)
structure Turn (P:Program) (w:World) (K:PySem.W.Frag) (tg:Expr) (J:It) (fp:List Addr) (it:Addr) (tn:Nat->Heap->Prop):Prop where
 mem:it ∈ fp
 obj:∀ i h,tn i h->∀ b ∈ fp,∃ o,h.get? b=some o/\∀ v,o.data ≠ .cell v
 keep:∀ i h h',tn i h->(∀ b ∈ fp,∀ o,h.get? b=some o->h'.get? b=some o)->tn i h'
 item:∀ (X:Cx),X.prog=P->X.w=w->X.K=K->X.calm=true->∀ (i:Nat) (pins:List (Addr × Obj)) (s:Shared) (σ : St) (H:Hp) (E:Value->Shared->Prop),Inv X pins σ H s->(∀ b ∈ fp,fi X pins H b)->tn i s.heap->J.go i H ->
  wpAny (model P w) X.A (pyNext (.ref it)) (fun r s1=>∃ u,r=some u /\
   wpAny (model P w) X.A (letOwnedTupleGo tg (.ref it) u) (fun _ s2=>∃ x H',Inv X pins σ H' s2/\RelV x u/\J.ki i H x H'/\tn (i+1) s2.heap/\∀ b ∈ fp,H' b=none) E s1) E s
 done:∀ (X:Cx),X.prog=P->X.w=w->X.K=K->X.calm=true->∀ (i:Nat) (pins:List (Addr × Obj)) (s:Shared) (σ : St) (H:Hp) (E:Value->Shared->Prop),Inv X pins σ H s->(∀ b ∈ fp,fi X pins H b)->tn i s.heap->J.stop i H ->
  wpAny (model P w) X.A (pyNext (.ref it)) (fun r s1=>r=none/\Inv X pins σ H s1) E s
 self:∀ (A:Around) (i:Nat) (s:Shared) (Q:Value->Shared->Prop) (E:Value->Shared->Prop),tn i s.heap->Q (.ref it) s->wpAny (model P w) A (pyIter (.ref it)) Q E s
abbrev TI:=St->Hp->(It->Hp->Prop)->Prop
def AH (X:Cx) (pins:List (Addr × Obj)) (σ : St) (tg:Expr) (R:It->Hp->Prop) (itv:Value) (s2:Shared):Prop :=
 ∃ (it:Addr) (fp:List Addr) (tn:Nat->Heap->Prop) (J:It) (H':Hp),itv=.ref it/\Inv X pins σ H' s2/\Turn X.prog X.w X.K tg J fp it tn/\tn 0 s2.heap/\(∀ b ∈ fp,fi X pins H' b)/\R J H'
def PI (X:Cx) (tg iter:Expr) (wi:TI):Prop :=
 ∀ (pins:List (Addr × Obj)) (s:Shared) (σ : St) (H:Hp) (R:It->Hp->Prop),Inv X pins σ H s->wi σ H R ->
  wpAny (model X.prog X.w) X.A (eval iter X.env) (fun v s1=>wpAny (model X.prog X.w) X.A (pyIter v) (AH X pins σ tg R) X.xe s1) X.xe s
theorem mL {M:Model} {A:Around} {E:Value->Shared->Prop} {s:Shared} {tg:Expr} {it:Addr} {u:Value} {o:Obj} {n:String} {vs:Array Value} {Q:Unit->Shared->Prop} (ho:s.heap.get? it=some o) (hc:o.cls=.type n) (hd:o.data=.fields vs)
    (hn:["enumerate", "zip", "dict_itemiterator", "dict_reverseitemiterator", "odict_iterator", "itertools.zip_longest", "itertools.pairwise"].contains n=false) (hQ:Q () s):wpAny M A (letOwnedTupleGo tg (.ref it) u) Q E s:=by
  unfold letOwnedTupleGo
  cases tg <;> first
    | exact wpAny_pure hQ
    | (cases u <;> first
        | exact wpAny_pure hQ
        | (refine wpAny_bind (wpAny_load ho ?_)
           rw [hc,hd]
           show wpAny M A (if (["enumerate", "zip", "dict_itemiterator", "dict_reverseitemiterator", "odict_iterator", "itertools.zip_longest", "itertools.pairwise"].contains n && vs[0]? == some (rawInt _))=true then _ else _) Q E s
           rw [if_neg (by intro h;rw [hn,Bool.false_and] at h;cases h)]
           exact wpAny_pure hQ))
def pH (K:PySem.W.Frag) (a:Addr):It :=
 ⟨fun i H=>∃ xs x,aM K H a xs/\xs[i]? = some x,fun i H x H'=>H' = H/\∀ xs,aM K H a xs->xs[i]? = some x,fun i H=>∃ xs,aM K H a xs/\xs.length<=i⟩
def rP (K:PySem.W.Frag) (a:Addr):It :=
 ⟨fun i H=>∃ xs x,av K H a xs/\xs[i]? = some x,fun i H x H'=>H' = H/\∀ xs,av K H a xs->xs[i]? = some x,fun i H=>∃ xs,av K H a xs/\xs.length<=i⟩
def pI (lo:Int) (n:Nat):It:=⟨fun i _=>i < n,fun i H x H'=>H' = H/\x=.int (lo+i),fun i _=>n<=i⟩
theorem uE {P:Program} {w:World} {K:PySem.W.Frag} {tg:Expr} (a it:Addr):Turn P w K tg (pH K a) [it] it (fun i h=>h.IsListIter it a i) where
 mem:=by simp
 obj:=fun i h st b hb=>by
  have e:b=it:=by simpa using hb
  subst e
  obtain⟨o,e,c,d⟩:=st
  exact⟨o,e,fun v z=>by rw [d] at z;cases z⟩
 keep:=fun i h h' st k=>st.at fun o e=>k it (by simp) o e
 item:=by
  intro X hP hw hK hc i pins s σ H E I hf st hg
  subst hP hw hK
  obtain⟨xs,x,hq,hx⟩:=hg
  obtain⟨its,rv,p,hz⟩:=I.list hq
  obtain⟨u,hu,ru⟩:=rv.get hx
  obtain⟨f0,f1,f2,f3,f4,f5⟩:=hf it (by simp)
  refine wpAny_pyNext_list_item st p.isList (x:=u) (by simpa using hu) fun h' st' sb=>?_
  have I1:Inv X pins σ H { s with heap:=h' }:=I.turned (t':=s.toks) (fun b o hb e=>(sb.2 b hb).trans e) f0 f1 f3 f4 f5
  obtain⟨o,e,c,d⟩:=id st'
  exact⟨u,rfl,mL (s:={ s with heap:=h' }) e c d (by decide) ⟨x,H,I1,ru,⟨rfl,fun ys hy=>by rw [I.pD hy hq];exact hx⟩,st',fun b hb=>(hf b hb).1⟩⟩
 done:=by
  intro X hP hw hK hc i pins s σ H E I hf st hg
  subst hP hw hK
  obtain⟨xs,hq,hx⟩:=hg
  obtain⟨its,rv,p,hz⟩:=I.list hq
  obtain⟨f0,f1,f2,f3,f4,f5⟩:=hf it (by simp)
  have hl:=rv.length
  exact wpAny_pyNext_list_end (I.ok.hd hc) st p.isList (by simp;omega) fun h' eb=>⟨rfl,I.turned (t':=s.toks) (fun b o hb e=>eb b o hb e) f0 f1 f3 f4 f5⟩
 self:=fun _ _ _ _ _ st h=>wpAny_pyIter_listiter st h
theorem sT {P:Program} {w:World} {K:PySem.W.Frag} {tg:Expr} (a it:Addr):Turn P w K tg (rP K a) [it] it (fun i h=>h.IsTupleIter it a i) where
 mem:=by simp
 obj:=fun i h st b hb=>by
  have e:b=it:=by simpa using hb
  subst e
  obtain⟨o,e,c,d⟩:=st
  exact⟨o,e,fun v z=>by rw [d] at z;cases z⟩
 keep:=fun i h h' st k=>st.at fun o e=>k it (by simp) o e
 item:=by
  intro X hP hw hK hc i pins s σ H E I hf st hg
  subst hP hw hK
  obtain⟨xs,x,hq,hx⟩:=hg
  obtain⟨its,rv,p,hz⟩:=I.tuple hq
  obtain⟨u,hu,ru⟩:=rv.get hx
  obtain⟨f0,f1,f2,f3,f4,f5⟩:=hf it (by simp)
  refine wpAny_pyNext_tuple_item st (show s.heap.IsTuple a its.toArray from p) (x:=u) (by simpa using hu) fun h' st' sb=>?_
  have I1:Inv X pins σ H { s with heap:=h' }:=I.turned (t':=s.toks) (fun b o hb e=>(sb.2 b hb).trans e) f0 f1 f3 f4 f5
  obtain⟨o,e,c,d⟩:=id st'
  exact⟨u,rfl,mL (s:={ s with heap:=h' }) e c d (by decide) ⟨x,H,I1,ru,⟨rfl,fun ys hy=>by rw [I.ia hy hq];exact hx⟩,st',fun b hb=>(hf b hb).1⟩⟩
 done:=by
  intro X hP hw hK hc i pins s σ H E I hf st hg
  subst hP hw hK
  obtain⟨xs,hq,hx⟩:=hg
  obtain⟨its,rv,p,hz⟩:=I.tuple hq
  obtain⟨f0,f1,f2,f3,f4,f5⟩:=hf it (by simp)
  have hl:=rv.length
  exact wpAny_pyNext_tuple_end (I.ok.hd hc) st (show s.heap.IsTuple a its.toArray from p) (by simp;omega) fun h' eb=>⟨rfl,I.turned (t':=s.toks) (fun b o hb e=>eb b o hb e) f0 f1 f3 f4 f5⟩
 self:=fun _ _ _ _ _ st h=>wpAny_pyIter_tupleiter st h
theorem sU {P:Program} {w:World} {K:PySem.W.Frag} {tg:Expr} (it:Addr) (lo:Int) (n:Nat):Turn P w K tg (pI lo n) [it] it (fun i h=>IsRangeIter h it (lo+(i:Nat) * 1) ((n:Int) - (i:Nat)) 1) where
 mem:=by simp
 obj:=fun i h st b hb=>by
  have e:b=it:=by simpa using hb
  subst e
  exact⟨_,st,fun v z=>by
   have z':Data.fields _=Data.cell v:=z
   cases z'⟩
 keep:=fun i h h' st k=>k it (by simp) _ st
 item:=by
  intro X hP hw hK hc i pins s σ H E I hf st hg
  subst hP hw hK
  obtain⟨f0,f1,f2,f3,f4,f5⟩:=hf it (by simp)
  have W:=Walks.range (prog:=X.prog) (w:=X.w) (I.ok.hd hc) it lo 1 n
  refine W.item i s _ _ hg st fun v h' tk hv st' kk=>?_
  obtain⟨t,rfl⟩:=hv
  have I1:Inv X pins σ H { s with heap:=h',toks:=tk }:=I.turned (fun b o hb e=>kk b o (by simpa using hb) e) f0 f1 f3 f4 f5
  refine⟨_,rfl,mL (s:={ s with heap:=h',toks:=tk }) (n := "range_iterator") st' rfl rfl (by decide) ⟨.int (lo+i),H,I1,⟨t,?_⟩,⟨rfl,rfl⟩,st',fun b hb=>(hf b hb).1⟩⟩
  rw [Int.mul_one]
 done:=by
  intro X hP hw hK hc i pins s σ H E I hf st hg
  subst hP hw hK
  obtain⟨f0,f1,f2,f3,f4,f5⟩:=hf it (by simp)
  exact wpAny_pyNext_range_end (I.ok.hd hc) st (by have:n<=i:=hg;omega) fun h' eb=>⟨rfl,I.turned (t':=s.toks) (fun b o hb e=>eb b o hb e) f0 f1 f3 f4 f5⟩
 self:=fun _ _ _ _ _ st h=>wpAny_pyIter_rangeiter st h
section
variable {X:Cx} {tg:Expr}
def xD (K:PySem.W.Frag) (tl:TE):TI:=fun σ H R=>tl σ H fun x H1=>∃ a,x=.ref a/\(∃ xs,aM K H1 a xs)/\R (pH K a) H1
def Bc (K:PySem.W.Frag) (tl:TE):TI:=fun σ H R=>tl σ H fun x H1=>∃ a,x=.ref a/\(∃ xs,av K H1 a xs)/\R (rP K a) H1
theorem iH {l:Expr} {tl:TE} (hl:PE X l tl):PI X tg l (xD X.K tl):=by
 intro pins s σ H R I h
 refine aU (hl pins s σ H _ I h) fun v s1 ⟨x,H1,I1,r1,q1⟩=>?_
 obtain⟨a,e,⟨xs,hq⟩,q⟩:=q1
 subst e
 cases r1
 obtain⟨its,rv,p,hz⟩:=I1.list hq
 refine wpAny_pyIter_list p.isList ?_
 refine⟨s1.heap.objs.size,[s1.heap.objs.size],_,_,H1,rfl,I1.kept (t':=s1.toks) fun b o e=>Heap.get?_push_of_some _ e,uE a _,⟨_,Heap.get?_push_size _ rfl,rfl,rfl⟩,fun b hb=>?_,q⟩
 have e:b=s1.heap.objs.size:=by simpa using hb
 subst e
 exact I1.iQ (Nat.le_refl _) (I1.aP.fresh (Nat.le_refl _))
theorem iR {l:Expr} {tl:TE} (hl:PE X l tl):PI X tg l (Bc X.K tl):=by
 intro pins s σ H R I h
 refine aU (hl pins s σ H _ I h) fun v s1 ⟨x,H1,I1,r1,q1⟩=>?_
 obtain⟨a,e,⟨xs,hq⟩,q⟩:=q1
 subst e
 cases r1
 obtain⟨its,rv,p,hz⟩:=I1.tuple hq
 refine wpAny_pyIter_tuple (show s1.heap.IsTuple a its.toArray from p) ?_
 refine⟨s1.heap.objs.size,[s1.heap.objs.size],_,_,H1,rfl,I1.kept (t':=s1.toks) fun b o e=>Heap.get?_push_of_some _ e,sT a _,⟨_,Heap.get?_push_size _ rfl,rfl,rfl⟩,fun b hb=>?_,q⟩
 have e:b=s1.heap.objs.size:=by simpa using hb
 subst e
 exact I1.iQ (Nat.le_refl _) (I1.aP.fresh (Nat.le_refl _))
theorem vU {pins:List (Addr × Obj)} {σ : St} {H:Hp} {s:Shared} {R:It->Hp->Prop} {E:Value->Shared->Prop} {lo hi:Int} {t u v:Tok} {tk:Nat} (I:Inv X pins σ H s) (h1:-(2 ^ 62)<=lo) (h2:lo < 2 ^ 62) (h3:-(2 ^ 62)<=hi) (h4:hi < 2 ^ 62)
  (q:R (pI lo (hi - lo).toNat) H):wpAny (model X.prog X.w) X.A (pyIter (.ref s.heap.objs.size)) (AH X pins σ tg R) E { s with heap:=s.heap.push { cls:=.type "range",data:=.fields #[.int lo t,.int hi u,.int 1 v] },toks:=tk }:=by
 refine wpAny_pyIter_range (IsRange.new ..) (small_one h1 h2 h3 h4) ?_
 have I1:Inv X pins σ H { s with heap:=s.heap.push { cls:=.type "range",data:=.fields #[.int lo t,.int hi u,.int 1 v] },toks:=tk }:=I.kept fun b o e=>Heap.get?_push_of_some _ e
 refine⟨(s.heap.push { cls:=.type "range",data:=.fields #[.int lo t,.int hi u,.int 1 v] }).objs.size,[(s.heap.push { cls:=.type "range",data:=.fields #[.int lo t,.int hi u,.int 1 v] }).objs.size],_,_,H,rfl,
  I1.kept (t':=tk) fun b o e=>Heap.get?_push_of_some _ e,sU _ lo (hi - lo).toNat,?_,fun b hb=>?_,q⟩
 ·have e1:lo+((0:Nat):Int) * 1=lo:=by simp
  have e2:(((hi - lo).toNat:Nat):Int) - ((0:Nat):Int)=Builtin.Range.rangeSize lo hi 1:=by rw [rangeSize_one];split <;> omega
  show IsRangeIter _ _ (lo+((0:Nat):Int) * 1) ((((hi - lo).toNat:Nat):Int) - ((0:Nat):Int)) 1
  rw [e1,e2]
  exact Heap.get?_push_size _ rfl
 ·have e:b=(s.heap.push { cls:=.type "range",data:=.fields #[.int lo t,.int hi u,.int 1 v] }).objs.size:=by simpa using hb
  subst e
  exact I1.iQ (Nat.le_refl _) (I1.aP.fresh (Nat.le_refl _))
def Al (ta:TA):TI:=fun σ H R=>ta σ H fun vs H1=>∃ j:Int,vs = [.int j]/\-(2 ^ 62)<=j/\j < 2 ^ 62/\R (pI 0 j.toNat) H1
theorem eN {a:Expr} {ta:TA} {p pos:Pos} (hg:Gl X "range") (hm:X.mg "range" = none) (ha:PA X [a] ta) (hs:starEach [a] X.env = [(false,eval a X.env)]:=by rfl):PI X tg (.Call (.Name "range" p) [a] [] pos) (Al ta):=by
 intro pins s σ H R I h
 refine Call_ (jx I hg hm boot_range (PyProof.Rows.callWith_type1 (aU (ha pos pins s σ H _ I h) fun us s1 ⟨vs,H1,I1,r1,q1⟩=>?_) hs rfl))
 obtain⟨j,e,q1,q2,q⟩:=q1
 subst e
 cases r1 with
 | cons r rr =>
  cases rr
  obtain⟨t,rfl⟩:=r
  exact call_range_1 (vU I1 (by omega) (by omega) q1 q2 (by simpa using q))
def Be (wi:TI) (g:TG) (tb:TS):TS:=fun D σ H=>wi σ H fun J H1=>∃ W:Nat->Nat->St->Hp->Prop,(∃ m,W 0 m σ H1)/\∀ i m σ H,W i m σ H ->
 (J.stop i H/\D.nx σ H)\/(J.go i H/\∃ N:St->Hp->Prop,(∀ σ' H',N σ' H'->∃ m',m' < m/\W (i+1) m' σ' H')/\∀ x H',J.ki i H x H'->g x σ H' fun σ2 H2=>tb { D with nx:=N,ct:=N,bk:=D.nx } σ2 H2)
def ic (fp:List Addr) (h:Heap):List (Addr × Obj):=fp.filterMap fun b=>(h.get? b).map fun o=>(b,o)
theorem cK {fp:List Addr} {h:Heap} {b:Addr} {o:Obj} (hb:b ∈ fp) (e:h.get? b=some o):(b,o) ∈ ic fp h:=List.mem_filterMap.mpr ⟨b,hb,by rw [e];rfl⟩
theorem uF {fp:List Addr} {h:Heap} {p:Addr × Obj} (hp:p ∈ ic fp h):p.1 ∈ fp/\h.get? p.1=some p.2:=by
 obtain⟨b,hb,e⟩:=List.mem_filterMap.mp hp
 cases q:h.get? b with
 | none=>rw [q] at e;cases e
 | some o =>
  rw [q] at e
  have e':(b,o)=p:=Option.some.inj e
  subst e'
  exact⟨hb,q⟩
theorem Inv.pinned {pins:List (Addr × Obj)} {σ : St} {H:Hp} {s:Shared} {fp:List Addr} (I:Inv X pins σ H s) (hf:∀ b ∈ fp,fi X pins H b) (ho:∀ b ∈ fp,∃ o,s.heap.get? b=some o/\∀ v,o.data ≠ .cell v):Inv X (pins++ic fp s.heap) σ H s :=
 I.rO fun p hp=>(List.mem_append.mp hp).elim (fun z=>I.pin p (List.mem_append_right _ z)) fun z=>by
  obtain⟨hb,e⟩:=uF z
  obtain⟨f0,f1,f2,_⟩:=hf p.1 hb
  obtain⟨o,e',d⟩:=ho p.1 hb
  rw [e] at e';cases e'
  exact⟨e,f0,f1,f2,d⟩
theorem Inv.dA {pins pl:List (Addr × Obj)} {σ : St} {H:Hp} {s:Shared} (I:Inv X (pins++pl) σ H s):Inv X pins σ H s:=I.rO fun p hp=>I.pin p (List.mem_append_right _ (List.mem_append_left _ hp))
theorem eX {iter:Expr} {body:List Stmt} {wi:TI} {g:TG} {tb:TS} {pos:Pos} (hp:PassesOwn (model X.prog X.w) X.A X.env X.xe) (hc:X.calm=true) (hi:PI X tg iter wi) (hg:PG X tg g) (hb:jw X body tb)
  (hs:∀ x,foldedSetIterable iter X.env x=pure x:=by intro _;rfl):PS X (.For tg iter body [] pos) (Be wi g tb):=by
 intro pins s σ H D I h
 refine wpAny_For (aU (hi pins s σ H _ I h) fun v s1 h1=>aU h1 fun itv s2 h2=>?_) hs
 obtain⟨it,fp,tn,J,H2,e,I2,T,st2,f2,W,⟨m0,w0⟩,turn⟩:=h2
 subst e
 have stat:∀ {H':Hp},(∀ b ∈ fp,H' b=none)->∀ b ∈ fp,fi X pins H' b:=fun hn b hb=>⟨hn b hb,(f2 b hb).2⟩
 refine codeAny_forLoop_any (fun n s'=>∃ i σ' H',Inv X pins σ' H' s'/\tn i s'.heap/\(∀ b ∈ fp,H' b=none)/\W i n σ' H') ?_ m0 ⟨0,σ,H2,I2,st2,fun b hb=>(f2 b hb).1,w0⟩
 rintro n s3 ⟨i,σ3,H3,I3,st3,fr3,w3⟩
 rcases turn i n σ3 H3 w3 with ⟨stop,qn⟩ | ⟨go,N,hN,step⟩
 ·refine wpAny_passesOwn hp (aU (T.done X rfl rfl rfl hc i pins s3 σ3 H3 X.xe I3 (stat fr3) st3 stop) fun r s4 ⟨hr,I4⟩=>?_)
  subst hr
  exact wpAny_execs_nil ⟨σ3,H3,I4,qn⟩
 ·refine wpAny_passesOwn hp (aU (T.item X rfl rfl rfl hc i pins s3 σ3 H3 X.xe I3 (stat fr3) st3 go) fun r s4 ⟨u,hr,h4⟩=>?_)
  subst hr
  refine wpAny_passesOwn hp (aU h4 fun _ s5 ⟨x,H5,I5,r5,y5,st5,fr5⟩=>?_)
  have I5':=I5.pinned (stat fr5) (T.obj _ _ st5)
  refine wpAny_passesOwn hp (aU (hg _ s5 σ3 H5 x u _ I5' r5 (step x H5 y5)) fun _ s6 ⟨σ6,H6,I6,q6⟩=>?_)
  refine wpAny_passesOwn hp (aU (hb _ s6 σ6 H6 _ I6 q6) fun f s7 q7=>?_)
  have again:∀ {σ7:St} {H7:Hp},Inv X (pins++ic fp s5.heap) σ7 H7 s7->N σ7 H7->∃ m,m < n/\∃ i σ' H',Inv X pins σ' H' s7/\tn i s7.heap/\(∀ b ∈ fp,H' b=none)/\W i m σ' H':=fun {σ7 H7} I7 n7=>by
   obtain⟨m',hm,w7⟩:=hN σ7 H7 n7
   refine⟨m',hm,i+1,σ7,H7,I7.dA,T.keep _ _ _ st5 fun b hb o e=>(I7.pin (b,o) (List.mem_append_right _ (List.mem_append_right _ (cK hb e)))).1,fun b hb=>?_,w7⟩
   obtain⟨o,e,d⟩:=T.obj _ _ st5 b hb
   exact (I7.pin (b,o) (List.mem_append_right _ (List.mem_append_right _ (cK hb e)))).2.1
  cases f with
  | next=>obtain⟨σ7,H7,I7,n7⟩:=q7;exact again I7 n7
  | cont=>obtain⟨σ7,H7,I7,n7⟩:=q7;exact again I7 n7
  | brk=>obtain⟨σ7,H7,I7,q7⟩:=q7;exact⟨σ7,H7,I7.dA,q7⟩
  | ret v=>obtain⟨x7,σ7,H7,I7,r7,q7⟩:=q7;exact⟨x7,σ7,H7,I7.dA,r7,q7⟩
end
theorem vV {K:PySem.W.Frag} {a:Addr} {xs:List V} {g:TG} {tb:TS} {D:Ends} {σ : St} {H:Hp} (Pv:Nat->St->Hp->Prop) (h0:Pv 0 σ H) (hl:∀ i σ H,i<=xs.length->Pv i σ H->aM K H a xs)
  (hs:∀ i x σ H,xs[i]? = some x->Pv i σ H->g x σ H fun σ2 H2=>tb { D with nx:=Pv (i+1),ct:=Pv (i+1),bk:=D.nx } σ2 H2) (hd:∀ σ H,Pv xs.length σ H->D.nx σ H) :
  ∃ W:Nat->Nat->St->Hp->Prop,(∃ m,W 0 m σ H)/\∀ i m σ H,W i m σ H ->
   ((pH K a).stop i H/\D.nx σ H)\/((pH K a).go i H/\∃ N:St->Hp->Prop,(∀ σ' H',N σ' H'->∃ m',m' < m/\W (i+1) m' σ' H')/\∀ x H',(pH K a).ki i H x H'->g x σ H' fun σ2 H2=>tb { D with nx:=N,ct:=N,bk:=D.nx } σ2 H2):=by
 refine⟨fun i m σ H=>m=xs.length - i/\i<=xs.length/\Pv i σ H,⟨xs.length,by simp,Nat.zero_le _,h0⟩,?_⟩
 rintro i m σ H ⟨rfl,hi,p⟩
 have q:=hl i σ H hi p
 by_cases hlt:i < xs.length
 ·refine .inr ⟨⟨xs,xs[i],q,by simp [hlt]⟩,Pv (i+1),fun σ' H' p'=>⟨xs.length - (i+1),by omega,rfl,hlt,p'⟩,fun x H' y=>?_⟩
  obtain⟨e,y⟩:=y
  subst e
  exact hs i x σ _ (y xs q) p
 ·have e:i=xs.length:=by omega
  subst e
  exact .inl ⟨⟨xs,q,Nat.le_refl _⟩,hd σ H p⟩
theorem lg {K:PySem.W.Frag} {a:Addr} {xs:List V} {g:TG} {tb:TS} {D:Ends} {σ : St} {H:Hp} (Pv:Nat->St->Hp->Prop) (h0:Pv 0 σ H) (hl:∀ i σ H,i<=xs.length->Pv i σ H->av K H a xs)
  (hs:∀ i x σ H,xs[i]? = some x->Pv i σ H->g x σ H fun σ2 H2=>tb { D with nx:=Pv (i+1),ct:=Pv (i+1),bk:=D.nx } σ2 H2) (hd:∀ σ H,Pv xs.length σ H->D.nx σ H) :
  ∃ W:Nat->Nat->St->Hp->Prop,(∃ m,W 0 m σ H)/\∀ i m σ H,W i m σ H ->
   ((rP K a).stop i H/\D.nx σ H)\/((rP K a).go i H/\∃ N:St->Hp->Prop,(∀ σ' H',N σ' H'->∃ m',m' < m/\W (i+1) m' σ' H')/\∀ x H',(rP K a).ki i H x H'->g x σ H' fun σ2 H2=>tb { D with nx:=N,ct:=N,bk:=D.nx } σ2 H2):=by
 refine⟨fun i m σ H=>m=xs.length - i/\i<=xs.length/\Pv i σ H,⟨xs.length,by simp,Nat.zero_le _,h0⟩,?_⟩
 rintro i m σ H ⟨rfl,hi,p⟩
 have q:=hl i σ H hi p
 by_cases hlt:i < xs.length
 ·refine .inr ⟨⟨xs,xs[i],q,by simp [hlt]⟩,Pv (i+1),fun σ' H' p'=>⟨xs.length - (i+1),by omega,rfl,hlt,p'⟩,fun x H' y=>?_⟩
  obtain⟨e,y⟩:=y
  subst e
  exact hs i x σ _ (y xs q) p
 ·have e:i=xs.length:=by omega
  subst e
  exact .inl ⟨⟨xs,q,Nat.le_refl _⟩,hd σ H p⟩
theorem ie {lo:Int} {n:Nat} {g:TG} {tb:TS} {D:Ends} {σ : St} {H:Hp} (Pv:Nat->St->Hp->Prop) (h0:Pv 0 σ H)
  (hs:∀ i σ H,i < n->Pv i σ H->g (.int (lo+i)) σ H fun σ2 H2=>tb { D with nx:=Pv (i+1),ct:=Pv (i+1),bk:=D.nx } σ2 H2) (hd:∀ σ H,Pv n σ H->D.nx σ H) :
  ∃ W:Nat->Nat->St->Hp->Prop,(∃ m,W 0 m σ H)/\∀ i m σ H,W i m σ H ->
   ((pI lo n).stop i H/\D.nx σ H)\/((pI lo n).go i H/\∃ N:St->Hp->Prop,(∀ σ' H',N σ' H'->∃ m',m' < m/\W (i+1) m' σ' H')/\∀ x H',(pI lo n).ki i H x H'->g x σ H' fun σ2 H2=>tb { D with nx:=N,ct:=N,bk:=D.nx } σ2 H2):=by
 refine⟨fun i m σ H=>m=n - i/\i<=n/\Pv i σ H,⟨n,by simp,Nat.zero_le _,h0⟩,?_⟩
 rintro i m σ H ⟨rfl,hi,p⟩
 by_cases hlt:i < n
 ·refine .inr ⟨hlt,Pv (i+1),fun σ' H' p'=>⟨n - (i+1),by omega,rfl,hlt,p'⟩,fun x H' y=>?_⟩
  obtain⟨e,y⟩:=y
  subst e y
  exact hs i σ _ hlt p
 ·have e:i=n:=by omega
  subst e
  exact .inl ⟨Nat.le_refl _,hd σ H p⟩
abbrev R2:=V->V->Hp->VK->Prop
def fo (X:Cx) (f:Value->Value->Sem Value) (r:R2):Prop :=
 ∀ (pins:List (Addr × Obj)) (s:Shared) (σ : St) (H:Hp) (x y:V) (v u:Value) (Q:VK),Inv X pins σ H s->RelV x v->RelV y u->r x y H Q ->
  wpAny (model X.prog X.w) X.A (f v u) (EP X pins σ Q) X.xe s
def zd (X:Cx) (f:Value->Sem Value) (r:V->Hp->VK->Prop):Prop :=
 ∀ (pins:List (Addr × Obj)) (s:Shared) (σ : St) (H:Hp) (x:V) (v:Value) (Q:VK),Inv X pins σ H s->RelV x v->r x H Q ->
  wpAny (model X.prog X.w) X.A (f v) (EP X pins σ Q) X.xe s
def fZ (X:Cx) (f:Value) (r:List V->Hp->VK->Prop):Prop :=
 ∀ (pins:List (Addr × Obj)) (s:Shared) (σ : St) (H:Hp) (xs:List V) (us:List Value) (Q:VK),Inv X pins σ H s->Vals xs us->r xs H Q ->
  wpAny (model X.prog X.w) X.A (call f us) (EP X pins σ Q) X.xe s
def Bf (X:Cx) (r:V->Hp->(Bool->Hp->Prop)->Prop):Prop :=
 ∀ (pins:List (Addr × Obj)) (s:Shared) (σ : St) (H:Hp) (x:V) (v:Value) (Q:Bool->Hp->Prop),Inv X pins σ H s->RelV x v->r x H Q ->
  wpAny (model X.prog X.w) X.A (truthy v) (TP X pins σ Q) X.xe s
def xE (r:R2) (ta tb:TE):TE:=fun σ H Q=>ta σ H fun x H1=>tb σ H1 fun y H2=>r x y H2 Q
def BF (r:V->Hp->VK->Prop) (ta:TE):TE:=fun σ H Q=>ta σ H fun x H1=>r x H1 Q
def rI (C:Int->Int->Prop) (g:Int->Int->V):R2:=fun x y H Q=>∃ i j,x=.int i/\y=.int j/\C i j/\Q (g i j) H
def pJ (g:Int->Int->V):R2:=fun x y H Q=>∃ i j,x=.int i/\y=.int j/\Q (g i j) H
def rU (g:Int->V):V->Hp->VK->Prop:=fun x H Q=>∃ i,x=.int i/\Q (g i) H
section
variable {X:Cx} {a b c:Expr} {ta tb tc:TE} {pos:Pos}
theorem vW (ha:PE X a ta) (hb:PE X b tb) {pins:List (Addr × Obj)} {s:Shared} {σ : St} {H:Hp} {R:V->V->Hp->Prop} (I:Inv X pins σ H s)
  (h:ta σ H fun x H1=>tb σ H1 fun y H2=>R x y H2) {Q:Value->Shared->Prop} {f:Value->Value->Sem Value}
  (hf:∀ v u s2 x y H2,Inv X pins σ H2 s2->RelV x v->RelV y u->R x y H2->wpAny (model X.prog X.w) X.A (f v u) Q X.xe s2) :
  wpAny (model X.prog X.w) X.A (eval a X.env) (fun v s₁=>wpAny (model X.prog X.w) X.A (eval b X.env) (fun u s₂=>wpAny (model X.prog X.w) X.A (f v u) Q X.xe s₂) X.xe s₁) X.xe s:=by
 refine aU (ha pins s σ H _ I h) fun v s1 ⟨x,H1,I1,r1,q1⟩=>?_
 refine aU (hb pins s1 σ H1 _ I1 q1) fun u s2 ⟨y,H2,I2,r2,q2⟩=>?_
 exact hf v u s2 x y H2 I2 r1 r2 q2
theorem bh {op:Operator} {r:R2} (ho:fo X (binaryOp op) r) (ha:PE X a ta) (hb:PE X b tb):PE X (.BinOp a op b pos) (xE r ta tb):=by
 intro pins s σ H Q I h
 exact wpAny_BinOp (vW ha hb I h fun v u s2 x y H2 I2 rx ry q=>ho pins s2 σ H2 x y v u Q I2 rx ry q)
theorem sV {op:UnaryOp} {r:V->Hp->VK->Prop} (ho:zd X (unaryOp op) r) (ha:PE X a ta):PE X (.UnaryOp op a pos) (BF r ta):=by
 intro pins s σ H Q I h
 exact UnaryOp_ (aU (ha pins s σ H _ I h) fun v s1 ⟨x,H1,I1,r1,q1⟩=>ho pins s1 σ H1 x v Q I1 r1 q1)
theorem rQ {f:Value->Value->Sem Value} {C:Int->Int->Prop} {g:Int->Int->Int}
  (rule:∀ (i j:Int) (t u:Tok) (s:Shared) (Q:Value->Shared->Prop) (E:Value->Shared->Prop),C i j->Q (.int (g i j) s.toks) { s with toks:=s.toks+1 }->wpAny (model X.prog X.w) X.A (f (.int i t) (.int j u)) Q E s) :
  fo X f (rI C fun i j=>.int (g i j)):=by
 intro pins s σ H x y v u Q I rx ry h
 obtain⟨i,j,rfl,rfl,hc,q⟩:=h
 obtain⟨t,rfl⟩:=rx
 obtain⟨t',rfl⟩:=ry
 exact rule i j t t' s _ _ hc ⟨.int (g i j),H,I.tok _,⟨_,rfl⟩,q⟩
theorem ze {f:Value->Value->Sem Value} {g:Int->Int->Int}
  (rule:∀ (i j:Int) (t u:Tok) (s:Shared) (Q:Value->Shared->Prop) (E:Value->Shared->Prop),Q (.int (g i j) s.toks) { s with toks:=s.toks+1 }->wpAny (model X.prog X.w) X.A (f (.int i t) (.int j u)) Q E s) :
  fo X f (pJ fun i j=>.int (g i j)):=by
 intro pins s σ H x y v u Q I rx ry h
 obtain⟨i,j,rfl,rfl,q⟩:=h
 obtain⟨t,rfl⟩:=rx
 obtain⟨t',rfl⟩:=ry
 exact rule i j t t' s _ _ ⟨.int (g i j),H,I.tok _,⟨_,rfl⟩,q⟩
theorem vX {f:Value->Value->Sem Value} {g:Int->Int->Bool}
  (rule:∀ (i j:Int) (t u:Tok) (s:Shared) (Q:Value->Shared->Prop) (E:Value->Shared->Prop),Q (.bool (g i j)) s->wpAny (model X.prog X.w) X.A (f (.int i t) (.int j u)) Q E s) :
  fo X f (pJ fun i j=>.bl (g i j)):=by
 intro pins s σ H x y v u Q I rx ry h
 obtain⟨i,j,rfl,rfl,q⟩:=h
 obtain⟨t,rfl⟩:=rx
 obtain⟨t',rfl⟩:=ry
 exact rule i j t t' s _ _ ⟨.bl (g i j),H,I,rfl,q⟩
def Bg (i j:Int):Prop:=0 < j/\j < 1073741824
def Bh (i j:Int):Prop:=0<=j/\j<=1000000/\i.natAbs < 2 ^ 64
def vY (i j:Int):Prop:=(-(2 ^ 64) < i/\i < 2 ^ 64)\/(-(2 ^ 64) < j/\j < 2 ^ 64)
theorem vY.ok {i j:Int} (h:vY i j):IntMulOk i j:=by
 rcases h with ⟨h1,h2⟩ | ⟨h1,h2⟩
 ·exact .of_left (intBits_le_64 h1 h2)
 ·exact .of_right (intBits_le_64 h1 h2)
theorem dB:fo X (binaryOp .Add) (pJ fun i j=>.int (i+j)):=ze fun _ _ _ _ _ _ _ q=>add_int q
theorem gH:fo X (binaryOp .Sub) (pJ fun i j=>.int (i - j)):=ze fun _ _ _ _ _ _ _ q=>sub_int q
theorem iS:fo X (binaryOp .Mult) (rI vY fun i j=>.int (i * j)):=rQ fun _ _ _ _ _ _ _ hc q=>mul_int q hc.ok
theorem rR:fo X (binaryOp .FloorDiv) (rI Bg fun i j=>.int (i / j)):=rQ fun i j _ _ _ _ _ hc q=>by
 have h1:(0:Int) < j:=hc.1
 have h2:j < 1073741824:=hc.2
 exact floordiv_int (by omega) (by rw [Int.fdiv_eq_ediv_of_nonneg i (by omega)];exact q) (.inl (PyProof.noPylong_small (by omega)))
theorem iT:fo X (binaryOp .Mod) (rI (fun _ j=>0 < j) fun i j=>.int (i % j)):=rQ fun i j _ _ _ _ _ hc q=>by
 have h1:(0:Int) < j:=hc
 exact mod_int' (by omega) (by rw [Int.fmod_eq_emod_of_nonneg i (by omega)];exact q)
theorem mM:fo X (binaryOp .Pow) (rI Bh fun i j=>.int (i ^ j.toNat)):=rQ fun _ _ _ _ _ _ _ hc q=>pow_int_small hc.1 hc.2.1 hc.2.2 q
theorem BG {f:Value->Sem Value} {g:Int->Int}
  (rule:∀ (i:Int) (t:Tok) (s:Shared) (Q:Value->Shared->Prop) (E:Value->Shared->Prop),Q (.int (g i) s.toks) { s with toks:=s.toks+1 }->wpAny (model X.prog X.w) X.A (f (.int i t)) Q E s) :
  zd X f (rU fun i=>.int (g i)):=by
 intro pins s σ H x v Q I rx h
 obtain⟨i,rfl,q⟩:=h
 obtain⟨t,rfl⟩:=rx
 exact rule i t s _ _ ⟨.int (g i),H,I.tok _,⟨_,rfl⟩,q⟩
theorem pK:zd X (unaryOp .USub) (rU fun i=>.int (-i)):=BG fun _ _ _ _ _ q=>neg_int q
end
def vZ:V->V->Bool
 | .bx,.bx=>true | .bx,.int _=>true | .int _,.bx=>true | .bx,.bl _=>true | .bl _,.bx=>true | .bx,.str _=>true | .str _,.bx=>true
 | .int _,.int _=>true | .bl _,.bl _=>true | .str _,.str _=>true | .iL _,.iL _=>true
 | .int _,.str _=>true | .str _,.int _=>true | .bl _,.str _=>true | .str _,.bl _=>true
 | _,_=>false
def BH:R2:=fun x y H Q=>vZ x y=true/\Q (.bl (decide (x=y))) H
def BI:R2:=fun x y H Q=>vZ x y=true/\Q (.bl (!decide (x=y))) H
theorem ny {i j:Int}:decide (V.int i=V.int j)=(i == j):=by
 rw [Bool.eq_iff_iff]
 simp
theorem uG {i j:Bool}:decide (V.bl i=V.bl j)=(i == j):=by
 rw [Bool.eq_iff_iff]
 simp
theorem rS {i j:Str}:decide (V.str i=V.str j)=(i == j):=by
 rw [Bool.eq_iff_iff]
 simp
theorem rT {i j:Array UInt8}:decide (V.iL i=V.iL j)=(i.toList == j.toList):=by
 rw [Bool.eq_iff_iff]
 cases i
 cases j
 simp
section
variable {X:Cx} {a b c:Expr} {ta tb tc:TE} {pos:Pos}
theorem bG {pins:List (Addr × Obj)} {σ : St} {H:Hp} {s:Shared} {Q:VK} {k k':Bool} (I:Inv X pins σ H s) (q:Q (.bl k) H) (e:k=k'):EP X pins σ Q (.bool k') s:=by
 subst e
 exact⟨.bl k,H,I,rfl,q⟩
theorem bE:fo X (compareOp .Eq) BH:=by
 intro pins s σ H x y v u Q I rx ry h
 obtain⟨hs,q⟩:=h
 cases x with
 | bx =>
  cases rx
  cases y with
  | bx=>cases ry;exact PySem.EqNone.eq_none_none (bG I q (by simp))
  | bl j=>cases ry;exact PySem.EqNone.eq_none_bool (bG I q (by simp))
  | int j=>obtain⟨t',rfl⟩:=ry;exact PySem.EqNone.eq_none_int (bG I q (by simp))
  | str j=>obtain⟨t',rfl⟩:=ry;exact PySem.EqNone.eq_none_str (bG I q (by simp))
  | _=>exact absurd (show false=true from hs) Bool.false_ne_true
 | bl i =>
  cases rx
  cases y with
  | bx=>cases ry;exact PySem.EqNone.eq_bool_none (bG I q (by simp))
  | bl j=>cases ry;exact eq_bool (bG I q uG)
  | str j=>obtain⟨t',rfl⟩:=ry;exact PySem.EqMixed.eq_bool_str (bG I q (by simp))
  | _=>exact absurd (show false=true from hs) Bool.false_ne_true
 | int i =>
  obtain⟨t,rfl⟩:=rx
  cases y with
  | bx=>cases ry;exact PySem.EqNone.eq_int_none (bG I q (by simp))
  | int j=>obtain⟨t',rfl⟩:=ry;exact eq_int (bG I q ny)
  | str j=>obtain⟨t',rfl⟩:=ry;exact PySem.EqMixed.eq_int_str (bG I q (by simp))
  | _=>exact absurd (show false=true from hs) Bool.false_ne_true
 | str i =>
  obtain⟨t,rfl⟩:=rx
  cases y with
  | bx=>cases ry;exact PySem.EqNone.eq_str_none (bG I q (by simp))
  | bl j=>cases ry;exact PySem.EqMixed.eq_str_bool (bG I q (by simp))
  | int j=>obtain⟨t',rfl⟩:=ry;exact PySem.EqMixed.eq_str_int (bG I q (by simp))
  | str j=>obtain⟨t',rfl⟩:=ry;exact eq_str (bG I q rS)
  | _=>exact absurd (show false=true from hs) Bool.false_ne_true
 | iL i =>
  obtain⟨t,rfl⟩:=rx
  cases y with
  | iL j=>obtain⟨t',rfl⟩:=ry;exact PySem.W.eq_bytes (bG I q rT)
  | _=>exact absurd (show false=true from hs) Bool.false_ne_true
 | _=>cases y <;> exact absurd (show false=true from hs) Bool.false_ne_true
theorem sW:fo X (compareOp .NotEq) BI:=by
 intro pins s σ H x y v u Q I rx ry h
 obtain⟨hs,q⟩:=h
 cases x with
 | bx =>
  cases rx
  cases y with
  | bx=>cases ry;exact PySem.EqNone.ne_none_none (bG I q (by simp))
  | bl j=>cases ry;exact PySem.EqNone.ne_none_bool (bG I q (by simp))
  | int j=>obtain⟨t',rfl⟩:=ry;exact PySem.EqNone.ne_none_int (bG I q (by simp))
  | str j=>obtain⟨t',rfl⟩:=ry;exact PySem.EqNone.ne_none_str (bG I q (by simp))
  | _=>exact absurd (show false=true from hs) Bool.false_ne_true
 | bl i =>
  cases rx
  cases y with
  | bx=>cases ry;exact PySem.EqNone.ne_bool_none (bG I q (by simp))
  | bl j=>cases ry;exact ne_bool (bG I q (congrArg not uG))
  | str j=>obtain⟨t',rfl⟩:=ry;exact PySem.EqMixed.ne_bool_str (bG I q (by simp))
  | _=>exact absurd (show false=true from hs) Bool.false_ne_true
 | int i =>
  obtain⟨t,rfl⟩:=rx
  cases y with
  | bx=>cases ry;exact PySem.EqNone.ne_int_none (bG I q (by simp))
  | int j=>obtain⟨t',rfl⟩:=ry;exact ne_int (bG I q (congrArg not ny))
  | str j=>obtain⟨t',rfl⟩:=ry;exact PySem.EqMixed.ne_int_str (bG I q (by simp))
  | _=>exact absurd (show false=true from hs) Bool.false_ne_true
 | str i =>
  obtain⟨t,rfl⟩:=rx
  cases y with
  | bx=>cases ry;exact PySem.EqNone.ne_str_none (bG I q (by simp))
  | bl j=>cases ry;exact PySem.EqMixed.ne_str_bool (bG I q (by simp))
  | int j=>obtain⟨t',rfl⟩:=ry;exact PySem.EqMixed.ne_str_int (bG I q (by simp))
  | str j=>obtain⟨t',rfl⟩:=ry;exact ne_str (bG I q (congrArg not rS))
  | _=>exact absurd (show false=true from hs) Bool.false_ne_true
 | iL i =>
  obtain⟨t,rfl⟩:=rx
  cases y with
  | iL j=>obtain⟨t',rfl⟩:=ry;exact PySem.W.ne_bytes (bG I q (congrArg not rT))
  | _=>exact absurd (show false=true from hs) Bool.false_ne_true
 | _=>cases y <;> exact absurd (show false=true from hs) Bool.false_ne_true
theorem iA:fo X (compareOp .Lt) (pJ fun i j=>.bl (decide (i < j))):=vX fun _ _ _ _ _ _ _ q=>lt_int q
theorem xF:fo X (compareOp .LtE) (pJ fun i j=>.bl (decide (i<=j))):=vX fun _ _ _ _ _ _ _ q=>le_int q
theorem sX:fo X (compareOp .Gt) (pJ fun i j=>.bl (decide (j < i))):=vX fun _ _ _ _ _ _ _ q=>gt_int q
theorem aK (b:Expr) {op:CmpOp} (h:op ≠ .In:=by decide) (h2:op ≠ .NotIn:=by decide):behindInMarks op b=false:=by
 have e1:(op == CmpOp.In)=false:=by cases op <;> first | rfl | exact absurd rfl h
 have e2:(op == CmpOp.NotIn)=false:=by cases op <;> first | rfl | exact absurd rfl h2
 cases b <;> simp [behindInMarks,e1,e2]
theorem fG {op:CmpOp} {r:R2} (ho:fo X (compareOp op) r) (ha:PE X a ta) (hb:PE X b tb) (hm:behindInMarks op b=false):PE X (.Compare a [op] [b] pos) (xE r ta tb):=by
 intro pins s σ H Q I h
 exact wpAny_Compare1 (vW ha hb I h fun v u s2 x y H2 I2 rx ry q=>ho pins s2 σ H2 x y v u Q I2 rx ry q) hm
def Am (t:TE):TT:=fun σ H Q=>t σ H fun x H'=>∃ k,x=.bl k/\Q k H'
theorem aC {op:CmpOp} {r:R2} (ho:fo X (compareOp op) r) (ha:PE X a ta) (hb:PE X b tb) (hm:behindInMarks op b=false):PT X (.Compare a [op] [b] pos) (Am (xE r ta tb)):=by
 intro pins s σ H Q I h
 refine wpAny_isTrue_Compare1 (aU (ha pins s σ H _ I h) fun v s1 ⟨x,H1,I1,r1,q1⟩=>aU (hb pins s1 σ H1 _ I1 q1) fun u s2 ⟨y,H2,I2,r2,q2⟩ =>
  aU (ho pins s2 σ H2 x y v u _ I2 r1 r2 q2) fun c s3 ⟨z,H3,I3,r3,k,e,q3⟩=>?_) hm
 subst e
 cases r3
 exact wpAny_truthy_bool ⟨H3,I3,q3⟩
def zf (K:PySem.W.Frag) (x:V) (H:Hp) (k:Bool):Prop :=
 match x with
 | .bx=>k=false
 | .bl b=>k=b
 | .int i=>k=(i != 0)
 | .str y=>y.length<=sizeLine/\k=((y.length:Int) != 0)
 | .iL y=>y.size<=sizeLine/\k=((y.size:Int) != 0)
 | .ref p=>(∃ xs,aM K H p xs/\k = !xs.isEmpty)\/(∃ xs,av K H p xs/\k = !xs.isEmpty)\/∃ kvs,H p=some (.dK kvs)/\k = !kvs.isEmpty
 | _=>False
theorem sY {κ : Type} {kvs:List (κ × V)} {vs:List (κ × Value)} (r:KV kvs vs):(!vs.isEmpty) = !kvs.isEmpty:=by
 cases r <;> rfl
theorem mN {xs:List V} {its:List Value} (r:Vals xs its):(!its.toArray.isEmpty) = !xs.isEmpty:=by
 cases r <;> simp
theorem jB:(sizeLine:Nat) < 2 ^ 63:=by rw [sizeLine_eq];decide
theorem zg:Bf X (fun x H Q=>∃ k,zf X.K x H k/\Q k H):=by
 intro pins s σ H x v Q I rx h
 obtain⟨k,e,q⟩:=h
 have hl:=jB
 have hs:sizeLine=16777216:=sizeLine_eq
 cases x with
 | bx =>
  cases rx
  have e':k=false:=e
  subst e'
  exact truthy_none ⟨H,I,q⟩
 | bl b =>
  cases rx
  have e':k=b:=e
  subst e'
  exact wpAny_truthy_bool ⟨H,I,q⟩
 | int i =>
  obtain⟨t,rfl⟩:=rx
  have e':k=(i != 0):=e
  subst e'
  exact PySem.P.truthy_int ⟨H,I,q⟩
 | str y =>
  obtain⟨t,rfl⟩:=rx
  obtain⟨hy,e'⟩:y.length<=sizeLine/\k=((y.length:Int) != 0):=e
  subst e'
  exact PySem.P.truthy_str (by omega) ⟨H,I.tok _,q⟩
 | iL y =>
  obtain⟨t,rfl⟩:=rx
  obtain⟨hy,e'⟩:y.size<=sizeLine/\k=((y.size:Int) != 0):=e
  subst e'
  exact PySem.W.truthy_bytes (by omega) ⟨H,I.tok _,q⟩
 | ref p =>
  cases rx
  have e':(∃ xs,aM X.K H p xs/\k = !xs.isEmpty)\/(∃ xs,av X.K H p xs/\k = !xs.isEmpty)\/∃ kvs,H p=some (.dK kvs)/\k = !kvs.isEmpty:=e
  rcases e' with ⟨xs,hx,e'⟩ | ⟨xs,hx,e'⟩ | ⟨kvs,hx,e'⟩
  ·subst e'
   obtain⟨its,r,pl,hz⟩:=I.list hx
   have hlen:=r.length
   exact wpAny_truthy_list pl.isList (by simp only [List.size_toArray];omega) ⟨H,I.tok _,by rw [mN r];exact q⟩
  ·subst e'
   obtain⟨its,r,pl,hz⟩:=I.tuple hx
   have hlen:=r.length
   exact truthy_tuple pl (by simp only [List.size_toArray];omega) ⟨H,I.tok _,by rw [mN r];exact q⟩
  ·subst e'
   obtain⟨hz,hS,vs,r,m⟩:kvs.length<=sizeLine/\(p == sysModules)=false/\∃ vs,KV kvs vs/\s.heap.DictOf (aN X.prog X.w) p vs:=I.aP p _ hx
   have hlen:kvs.length=vs.length:=Paired.length r
   exact wpAny_truthy_dict hS m (by omega) ⟨H,I.tok _,by rw [sY r];exact q⟩
 | _=>exact (show False from e).elim
theorem v7 (ha:PE X a ta) (he:∀ whole,isTrue a X.env whole=(do let v <-whole;standAt a.pos;holding [v] (truthy v))) :
  PT X a (fun σ H Q=>ta σ H fun x H'=>∃ k,zf X.K x H' k/\Q k H'):=by
 intro pins s σ H Q I h
 exact isTrue_plain (aU (ha pins s σ H _ I h) fun v s1 ⟨x,H1,I1,r1,q1⟩=>zg pins s1 σ H1 x v Q I1 r1 q1) (he _)
theorem vals1 {x:V} {us:List Value} (r:Vals [x] us):∃ u,us = [u]/\RelV x u:=by
 cases r with
 | cons r1 r2=>cases r2;exact⟨_,rfl,r1⟩
theorem vals2 {x y:V} {us:List Value} (r:Vals [x,y] us):∃ u w',us = [u,w']/\RelV x u/\RelV y w':=by
 cases r with
 | cons r1 r2 =>
  cases r2 with
  | cons r3 r4=>cases r4;exact⟨_,_,rfl,r1,r3⟩
theorem uH (hc:X.calm=true):fZ X (.builtin "max") (fun xs H Q=>∃ i j,xs = [.int i,.int j]/\Q (.int (if j > i then j else i)) H):=by
 intro pins s σ H xs us Q I r h
 obtain⟨i,j,rfl,q⟩:=h
 obtain⟨u,w',rfl,⟨t,rfl⟩,⟨t',rfl⟩⟩:=vals2 r
 refine max_two_ints (I.ok.hd hc) fun h' tk k=>⟨_,H,I.kept k,?_,q⟩
 by_cases hj:j > i
 ·rw [if_pos hj,if_pos hj];exact⟨_,rfl⟩
 ·rw [if_neg hj,if_neg hj];exact⟨_,rfl⟩
theorem kj (hc:X.calm=true):fZ X (.builtin "min") (fun xs H Q=>∃ i j,xs = [.int i,.int j]/\Q (.int (if j < i then j else i)) H):=by
 intro pins s σ H xs us Q I r h
 obtain⟨i,j,rfl,q⟩:=h
 obtain⟨u,w',rfl,⟨t,rfl⟩,⟨t',rfl⟩⟩:=vals2 r
 refine min_two_ints (I.ok.hd hc) fun h' tk k=>⟨_,H,I.kept k,?_,q⟩
 by_cases hj:j < i
 ·rw [if_pos hj,if_pos hj];exact⟨_,rfl⟩
 ·rw [if_neg hj,if_neg hj];exact⟨_,rfl⟩
theorem km:fZ X (.type "int") (fun xs H Q=>(∃ i,xs = [.int i]/\Q (.int i) H)\/∃ k,xs = [.bl k]/\Q (.int (if k then 1 else 0)) H):=by
 intro pins s σ H xs us Q I r h
 rcases h with ⟨i,rfl,q⟩ | ⟨k,rfl,q⟩
 ·obtain⟨u,rfl,t,rfl⟩:=vals1 r
  exact call_int_int ⟨.int i,H,I,⟨_,rfl⟩,q⟩
 ·obtain⟨u,rfl,r1⟩:=vals1 r
  cases r1
  exact call_int_bool ⟨.int (if k then 1 else 0),H,I.tok _,⟨_,rfl⟩,q⟩
end
structure lW (h:Heap) (x dx C:Addr) (mA:Str->Option Value):Prop where
 obj:h.get? x=some (PySem.W.instObj C dx)
 ns:h.Ns1 dx mA
 ne:dx ≠ x
theorem uI {h:Heap} {dx:Addr} {mA:Str->Option Value} (n:h.Ns1 dx mA):∃ od,h.get? dx=some od/\∀ name,PySem.W.lookIn name od=some (mA name):=by
 obtain⟨o,es,ep,ho,hd,hk,_,hm⟩:=n
 refine⟨o,ho,fun name=>?_⟩
 have e:=hm name
 unfold nsFind findBy at e
 rw [<-Array.find?_toList] at e
 unfold PySem.W.lookIn
 rw [hd]
 dsimp only
 split
 ·rename_i y q
  rw [q] at e
  exact congrArg some e
 ·rename_i q
  rw [q] at e
  have a:es.toList.any (·.refKey)=false:=by
   rw [List.any_eq_false]
   intro y hy
   obtain⟨z,t,hkey⟩:=hk y (Array.mem_toList_iff.mp hy)
   simp [DictEntry.refKey,hkey]
  have a':¬ es.toList.any (·.refKey)=true:=by rw [a];exact Bool.false_ne_true
  rw [if_neg a']
  exact congrArg some e
theorem lW.look {h:Heap} {x dx C:Addr} {mA:Str->Option Value} (I:lW h x dx C mA):∃ od,PySem.W.InstAt h x (PySem.W.instObj C dx) C (some od)/\∀ name,PySem.W.lookIn name od=some (mA name) :=
 let ⟨od,ho,hl⟩:=uI I.ns
 ⟨od,⟨I.obj,rfl,rfl,ho⟩,hl⟩
section
variable {prog:Program} {w:World} {A:Around} {E:Value->Shared->Prop} {s:Shared} {K:PySem.W.Frag} {x dx C f:Addr} {mA:Str->Option Value} {name:Str} {v:Value}
theorem get_map {expr:Bool} {Q:Value->Shared->Prop} (X:K.In s.heap) (I:lW s.heap x dx C mA) (hg:PySem.W.plainGet K C name=true) (hh:PySem.W.hasDictIn K C=true)
  (ha:PySem.W.findIn K (.ref C) name=some none) (hv:mA name=some v) (hv':PySem.W.handedIn v=true) (h:Q v { s with toks:=s.toks+1 }) :
  wpAny (model prog w) A (getAttr (.ref x) name expr) Q E s:=by
 obtain⟨od,J,hl⟩:=I.look
 exact PySem.W.get_value X J (PySem.W.plainGet_of hg).1 (PySem.W.findObj_own hh ha rfl (by rw [hl,hv])) hv' h
theorem v8 {pl:Sem Bool} {Q:Value × List Value->Shared->Prop} (X:K.In s.heap) (I:lW s.heap x dx C mA) (hg:PySem.W.plainGet K C name=true)
  (hf:PySem.W.findIn K (.ref C) name=some (some (.ref f))) (ht:PySem.W.isFn K (.ref f)=true) (hv:mA name=none) (h:Q (.ref f,[.ref x]) s) :
  wpAny (model prog w) A (getMethod (.ref x) name pl) Q E s:=by
 obtain⟨od,J,hl⟩:=I.look
 exact PySem.W.method_fn X J (PySem.W.plainGet_of hg).1 (PySem.W.plainGet_of hg).2 hf (beq_iff_eq.mp ht) (by show (PySem.W.lookIn name od).map (·.isSome)=some false;rw [hl,hv];rfl) h
theorem xZ {ns:List Str} {Q:Unit->Shared->Prop} (X:K.In s.heap) (I:lW s.heap x dx C mA)
  (hs:PySem.W.findIn K (.ref C) "__setattr__" = some (some (.builtin "object.__setattr__"))) (hp:PySem.W.plainOver K C=true) (ht:PySem.W.takerIn K C name=some none) (hh:PySem.W.hasDictIn K C=true)
  (hw:PySem.Within mA ns) (hsz:ns.length<=sizeLine)
  (h:∀ h',lW h' x dx C (fun y=>if y=name then some v else mA y)->Heap.SameBut dx s.heap h'->Q () { s with heap:=h',toks:=s.toks+2 }) :
  wpAny (model prog w) A (setAttr (.ref x) name v) Q E s:=by
 obtain⟨od,J,hl⟩:=I.look
 refine PySem.W.set_plain X J hs (PySem.W.osa_open (s:={ s with toks:=s.toks+1 }) (r:=none) X J hp ht fun b=>?_)
 obtain⟨cd,hc,hd'⟩:=PySem.W.any_some hh
 have hx:s.heap.get? x=some ⟨.ref C,some dx,.plain,#[]⟩:=I.obj
 refine wpAny_bind (wpAny_pure (wpAny_bind (wpAny_bind (wpAny_loadPart hx (wpAny_bind (PySem.W.Looks.here (s:={ s with toks:=s.toks+1 }) (PySem.W.looks_clsIn X hc) ?_))))))
 rw [hd']
 refine wpAny_pure (a:=some dx) (wpAny_bind (wpAny_pure (wpAny_bind ?_)))
 refine wpAny_nsSet1 (s:={ s with toks:=s.toks+1 }) I.ns fun h' hn2 hs2=>?_
 obtain⟨oD,esD,epD,hoD,hdD,hcD⟩:=hn2.count (PySem.Within.cons name v hw)
 refine wpAny_bind (wpAny_lookBehind hoD (by rw [hdD];exact pastItsLine_dict (Nat.le_trans hcD (by rw [List.length_cons];omega))) ?_)
 exact wpAny_pure (h _ ⟨(hs2.2 _ (Ne.symm I.ne)).trans I.obj,hn2,I.ne⟩ hs2)
theorem v9 {R:Result->Shared->Prop} {vs:List Value} {kw:List (Str × Value)} (X:K.In s.heap) (hm:PySem.W.makesIn K C=true)
  (hi:PySem.W.findIn K (.ref C) "__init__" = some (some (.ref f))) (hf:PySem.W.typeIn K (.ref f)=some (.type "function"))
  (h:codeAny (model prog w) (A.under (.builtin "type.__call__" ⟨.ref C :: vs,kw⟩)) (.call (.ref f) ⟨.ref (s.heap.objs.size+1) :: vs,kw⟩) (PySem.W.InitBack (s.heap.objs.size+1) R)
   { s with heap:=(s.heap.push PySem.W.emptyDict).push (PySem.W.instObj C s.heap.objs.size) }) :
  codeAny (model prog w) A (.call (.ref C) ⟨vs,kw⟩) R s:=by
 obtain⟨hh,g,d,t,os⟩:=s
 exact PySem.W.make_core (PySem.W.makes_of X hm) (PySem.W.looks_findIn X hi) (fun self=>PySem.W.bind_fn X self hf) (.inl rfl) h
end
def bX (f:Str) (v:V):List (Str × V)->List (Str × V)
 | []=>[(f,v)]
 | (g,x) :: r=>if g=f then (g,v) :: r else (g,x) :: bX f v r
theorem lH (f g:Str) (v:V):∀ fs:List (Str × V),(bX f v fs).lookup g=if g=f then some v else fs.lookup g
 | []=>by
  show List.lookup g [(f,v)] = _
  by_cases h:g=f
  ·have hb:(g == f)=true:=beq_iff_eq.mpr h
   simp only [List.lookup,hb,if_pos h]
  ·have hb:(g == f)=false:=beq_eq_false_iff_ne.mpr h
   simp only [List.lookup,hb,if_neg h]
 | (k,x) :: r=>by
  have ih:=lH f g v r
  rw [show bX f v ((k,x) :: r)=(if k=f then (k,v) :: r else (k,x) :: bX f v r) from rfl]
  by_cases hk:k=f
  ·rw [if_pos hk]
   by_cases h:g=k
   ·have hb:(g == k)=true:=beq_iff_eq.mpr h
    simp only [List.lookup,hb,if_pos (h.trans hk)]
   ·have hb:(g == k)=false:=beq_eq_false_iff_ne.mpr h
    simp only [List.lookup,hb,if_neg (fun e:g=f=>h (e.trans hk.symm))]
  ·rw [if_neg hk]
   by_cases h:g=k
   ·have hb:(g == k)=true:=beq_iff_eq.mpr h
    simp only [List.lookup,hb,if_neg (fun e:g=f=>hk (h.symm.trans e))]
   ·have hb:(g == k)=false:=beq_eq_false_iff_ne.mpr h
    simp only [List.lookup,hb]
    exact ih
theorem kn (f:Str) (v:V):∀ fs:List (Str × V),f ∈ (bX f v fs).map (·.1)/\∀ g,g ∈ fs.map (·.1)->g ∈ (bX f v fs).map (·.1)
 | []=>⟨by simp [bX],fun g h=>by simp at h⟩
 | (k,x) :: r=>by
  obtain⟨i1,i2⟩:=kn f v r
  rw [show bX f v ((k,x) :: r)=(if k=f then (k,v) :: r else (k,x) :: bX f v r) from rfl]
  by_cases hk:k=f
  ·rw [if_pos hk]
   subst hk
   exact⟨by simp,fun g h=>by simpa using h⟩
  ·rw [if_neg hk]
   refine⟨?_,fun g h=>?_⟩
   ·rw [List.map_cons]
    exact List.mem_cons_of_mem _ i1
   ·rw [List.map_cons] at h ⊢
    rcases List.mem_cons.mp h with e | e
    ·exact List.mem_cons.mpr (.inl e)
    ·exact List.mem_cons_of_mem _ (i2 g e)
theorem lI (f:Str) (v:V):∀ fs:List (Str × V),(bX f v fs).length<=fs.length+1
 | []=>by simp [bX]
 | (k,x) :: r=>by
  have ih:=lI f v r
  rw [show bX f v ((k,x) :: r)=(if k=f then (k,v) :: r else (k,x) :: bX f v r) from rfl]
  by_cases hk:k=f
  ·rw [if_pos hk,List.length_cons,List.length_cons];omega
  ·rw [if_neg hk,List.length_cons,List.length_cons];omega
theorem fS.some_of {v:V} {o:Option Value} (r:fS (some v) o):∃ u,o=some u/\RelV v u:=by
 cases o with
 | none=>exact (show False from r).elim
 | some u=>exact⟨u,rfl,r⟩
theorem fS.none_of {o:Option Value} (r:fS none o):o=none:=by
 cases o with
 | none=>rfl
 | some u=>exact (show False from r).elim
theorem uJ {v:V} {u:Value} (r:RelV v u):PySem.W.handedIn u=true:=by
 cases v with
 | bx=>cases (show u=Value.none from r);rfl
 | bl b=>cases (show u=Value.bool b from r);rfl
 | int i=>obtain⟨t,e⟩:=(show ∃ t,u=Value.int i t from r);cases e;rfl
 | str x=>obtain⟨t,e⟩:=(show ∃ t,u=Value.str x t from r);cases e;rfl
 | iL b=>obtain⟨t,e⟩:=(show ∃ t,u=Value.bytes b t from r);cases e;rfl
 | uw b=>obtain⟨t,e⟩:=(show ∃ t,u=Value.float b t from r);cases e;rfl
 | ref a=>cases (show u=Value.ref a from r);rfl
 | ty n=>cases (show u=Value.type n from r);rfl
section
variable {P:Program} {w:World} {H H':Hp} {h h':Heap} {a C dx:Addr} {fs fs':List (Str × V)}
theorem nz (aP:dm P w H h) (e:H a=some (.ins C dx fs)):∃ mA,lW h a dx C mA/\(∀ f,fS (fs.lookup f) (mA f))/\PySem.Within mA (fs.map (·.1))/\fs.length<=1000/\H dx=some (.own a):=by
 obtain⟨d,z,ne,ob,mA,n,r,q⟩:=(show bV P w H h a (.ins C dx fs) from aP a _ e)
 exact⟨mA,⟨ob,n,ne⟩,r,q,z,d⟩
end
structure j7 (K:PySem.W.Frag) (C:Addr):Prop where
 pg:PySem.W.plainGet K C Str.empty=true
 hd:PySem.W.hasDictIn K C=true
 po:PySem.W.plainOver K C=true
 sa:PySem.W.findIn K (.ref C) "__setattr__" = some (some (.builtin "object.__setattr__"))
theorem j7.get {K:PySem.W.Frag} {C:Addr} (c:j7 K C) (f:Str):PySem.W.plainGet K C f=true:=c.pg
def dC (K:PySem.W.Frag) (C:Addr) (f:Str):Prop:=PySem.W.findIn K (.ref C) f=some none
theorem dC.An {K:PySem.W.Frag} {C:Addr} {f:Str} (n:dC K C f):PySem.W.takerIn K C f=some none:=by
 unfold PySem.W.takerIn
 rw [show PySem.W.findIn K (.ref C) f=some none from n]
 rfl
structure Meth (K:PySem.W.Frag) (C:Addr) (m:Str) (f:Addr):Prop where
 at_:PySem.W.findIn K (.ref C) m=some (some (.ref f))
 fn:PySem.W.isFn K (.ref f)=true
 kp:PySem.W.keepIn K (.ref f)=true
section
variable {X:Cx} {pins:List (Addr × Obj)} {σ : St} {H:Hp} {s:Shared} {a C dx:Addr} {fs:List (Str × V)} {f:Str} {v:V} {A:Around} {E:Value->Shared->Prop}
theorem mO {b:Bool} {Q:Value->Shared->Prop} (I:Inv X pins σ H s) (e:H a=some (.ins C dx fs)) (c:j7 X.K C) (n:dC X.K C f) (l:fs.lookup f=some v)
  (h:∀ u s',Inv X pins σ H s'->RelV v u->Q u s'):wpAny (model X.prog X.w) A (getAttr (.ref a) f b) Q E s:=by
 obtain⟨mA,O,r,_,_,_⟩:=nz I.aP e
 obtain⟨u,hu,ru⟩:=fS.some_of (v:=v) (o:=mA f) (by rw [<-l];exact r f)
 exact get_map I.iN O (c.get f) c.hd n hu (uJ ru) (h u _ (I.tok _) ru)
theorem mP {m:Str} {g:Addr} {pl:Sem Bool} {Q:Value × List Value->Shared->Prop} (I:Inv X pins σ H s) (e:H a=some (.ins C dx fs)) (c:j7 X.K C) (k:Meth X.K C m g) (l:fs.lookup m=none)
  (h:Q (.ref g,[.ref a]) s):wpAny (model X.prog X.w) A (getMethod (.ref a) m pl) Q E s:=by
 obtain⟨mA,O,r,_,_,_⟩:=nz I.aP e
 have hn:mA m=none:=fS.none_of (by rw [<-l];exact r m)
 exact v8 I.iN O (c.get m) k.at_ k.fn hn h
theorem mQ {y:V} {u:Value} {Q:Unit->Shared->Prop} (I:Inv X pins σ H s) (e:H a=some (.ins C dx fs)) (c:j7 X.K C) (n:dC X.K C f) (hl:fs.length < 1000) (ry:RelV y u)
  (h:∀ s',Inv X pins σ (upd H a (.ins C dx (bX f y fs))) s'->Q () s'):wpAny (model X.prog X.w) A (setAttr (.ref a) f u) Q E s:=by
 obtain⟨mA,O,r,wi,_,ho⟩:=nz I.aP e
 have hz:(fs.map (·.1)).length<=sizeLine:=by rw [List.length_map,sizeLine_eq];omega
 refine xZ I.iN O c.sa c.po n.An c.hd wi hz fun h' O' sb=>h _ ?_
 have hd:∃ o,h'.get? dx=some o:=let ⟨o,_,_,e',_⟩:=O'.ns;⟨o,e'⟩
 refine I.write (x:=a) (e:=dx) (by rw [e];exact True.intro) (.inr ho) (fun b q hb z=>(sb.2 b hb).trans z) hd ?_
 refine⟨by rw [af O.ne];exact ho,?_,O.ne,O'.obj,_,O'.ns,fun g=>?_,fun g hg=>?_⟩
 ·have:=lI f y fs;omega
 ·show fS ((bX f y fs).lookup g) (if g=f then some u else mA g)
  rw [lH]
  by_cases q:g=f
  ·rw [if_pos q,if_pos q];exact ry
  ·rw [if_neg q,if_neg q];exact r g
 ·by_cases q:g=f
  ·rw [q];exact (kn f y fs).1
  ·refine (kn f y fs).2 g (wi g fun z=>hg ?_)
   show (if g=f then some u else mA g)=none
   rw [if_neg q];exact z
theorem Inv.made (I:Inv X pins σ H s):Inv X pins σ (upd (upd H s.heap.objs.size (.own (s.heap.objs.size+1))) (s.heap.objs.size+1) (.ins C s.heap.objs.size []))
  { s with heap:=(s.heap.push PySem.W.emptyDict).push (PySem.W.instObj C s.heap.objs.size) }:=by
 have e1:(s.heap.push PySem.W.emptyDict).get? s.heap.objs.size=some PySem.W.emptyDict:=Heap.get?_push_size s.heap rfl
 have e2:((s.heap.push PySem.W.emptyDict).push (PySem.W.instObj C s.heap.objs.size)).get? (s.heap.objs.size+1)=some (PySem.W.instObj C s.heap.objs.size):=by
  have:=Heap.get?_push_size (s.heap.push PySem.W.emptyDict) (o:=PySem.W.instObj C s.heap.objs.size) rfl
  rwa [Heap.size_push] at this
 have e3:(s.heap.push PySem.W.emptyDict).Ns s.heap.objs.size (fun _=>none):=⟨PySem.W.emptyDict,#[],_,e1,rfl,(fun e he=>absurd he (by simp)),fun _=>rfl⟩
 have I1:=I.laid (a:=s.heap.objs.size) (o:=.own (s.heap.objs.size+1)) (h':=s.heap.push PySem.W.emptyDict) (t':=s.toks) (fun b u q=>Heap.get?_push_of_some _ q) (Nat.le_refl _) ⟨_,e1⟩
 refine I1.laid (a:=s.heap.objs.size+1) (o:=.ins C s.heap.objs.size []) (t':=s.toks) (fun b u q=>Heap.get?_push_of_some _ q) (Nat.le_of_eq (Heap.size_push _ _)) ?_
 have ne:s.heap.objs.size ≠ s.heap.objs.size+1:=Nat.ne_of_lt (Nat.lt_succ_self _)
 refine⟨by rw [af ne,aa],Nat.zero_le _,ne,e2,fun _=>none,(Heap.Ns1.of_empty e3).at fun o q=>Heap.get?_push_of_some _ q,fun _=>True.intro,fun y hy=>absurd rfl hy⟩
theorem x9 {prog:Program} {w:World} {env:Env} {e:Expr} {f:Str} {pos:Pos} {s:Shared} {Q:Value->Shared->Prop} (hb:attributeBase e f env (eval e env)=eval e env)
  (h:wpAny (model prog w) A (eval e env) (fun o s₁=>wpAny (model prog w) A (getAttr o f true) Q E s₁) E s):wpAny (model prog w) A (eval (.Attribute e f pos) env) Q E s :=
 Attribute_any_ h (by rw [arm_eval_Attribute,hb])
end
def Bi (K:PySem.W.Frag) (ta:TE) (f:Str):TE:=fun σ H Q=>ta σ H fun x H1=>∃ a C dx fs v,x=.ref a/\H1 a=some (.ins C dx fs)/\j7 K C/\dC K C f/\fs.lookup f=some v/\Q v H1
def Bj (K:PySem.W.Frag) (ta tv:TE) (f:Str):TS:=fun D σ H=>tv σ H fun y H1=>ta σ H1 fun x H2=>∃ a C dx fs,x=.ref a/\H2 a=some (.ins C dx fs)/\j7 K C/\dC K C f/\fs.length < 1000 /\
 D.nx σ (upd H2 a (.ins C dx (bX f y fs)))
def zh (X:Cx) (op:Operator) (rd:V->V->Hp->VK->Prop):Prop :=
 ∀ (pins:List (Addr × Obj)) (s:Shared) (σ : St) (H:Hp) (x y:V) (u v:Value) (Q:VK),Inv X pins σ H s->RelV x u->RelV y v->rd x y H Q->wpAny (model X.prog X.w) X.A (inplaceOp op u v) (EP X pins σ Q) X.xe s
def ya (K:PySem.W.Frag) (ta tv:TE) (rd:V->V->Hp->VK->Prop) (f:Str):TS:=fun D σ H=>ta σ H fun x H1=>∃ a C dx fs v,x=.ref a/\H1 a=some (.ins C dx fs)/\j7 K C/\dC K C f/\fs.lookup f=some v /\
 tv σ H1 fun y H2=>rd v y H2 fun z H3=>∃ dx' fs',H3 a=some (.ins C dx' fs')/\fs'.length < 1000/\D.nx σ (upd H3 a (.ins C dx' (bX f z fs')))
section
variable {X:Cx} {o e value:Expr} {f:Str} {pos pos' tpos:Pos} {ta tv:TE}
theorem cm (he:PE X e ta) (hb:attributeBase e f X.env (eval e X.env)=eval e X.env):PE X (.Attribute e f pos) (Bi X.K ta f):=by
 intro pins s σ H Q I h
 refine x9 hb (aU (he pins s σ H _ I h) fun u s1 ⟨x,H1,I1,rx,a,C,dx,fs,v,ex,ea,c,n,l,q⟩=>?_)
 subst ex
 obtain rfl:u=Value.ref a:=rx
 exact mO I1 ea c n l fun u' s2 I2 ru=>⟨v,H1,I2,ru,q⟩
theorem fV (ha:PE X o ta) (hv:PE X value tv) (hs:swapsWith value (some (.Attribute o f pos')) pos.line X.env=pure false):PS X (.Assign [.Attribute o f pos'] value pos) (Bj X.K ta tv f):=by
 intro pins s σ H D I h
 refine plainObj_wpAny_Assign_Attribute (aU (hv pins s σ H _ I h) fun u s1 ⟨y,H1,I1,ry,q⟩=>aU (ha pins s1 σ H1 _ I1 q) fun ov s2 ⟨x,H2,I2,rx,a,C,dx,fs,ex,ea,c,n,l,q2⟩=>?_) hs
 subst ex
 obtain rfl:ov=Value.ref a:=rx
 exact mQ I2 ea c n l ry fun s3 I3=>⟨σ,_,I3,q2⟩
theorem ou {op:Operator} {rd:V->V->Hp->VK->Prop} (ha:PE X o ta) (hv:PE X value tv) (hop:zh X op rd):PS X (.AugAssign (.Attribute o f tpos) op value pos) (ya X.K ta tv rd f):=by
 intro pins s σ H D I h
 refine wpAny_AugAssign_AttributeAny (aU (ha pins s σ H _ I h) fun ov s1 ⟨x,H1,I1,rx,a,C,dx,fs,v,ex,ea,c,n,l,q⟩=>?_)
 subst ex
 obtain rfl:ov=Value.ref a:=rx
 refine mO I1 ea c n l fun u s2 I2 ru=>aU (hv pins s2 σ H1 _ I2 q) fun w3 s3 ⟨y,H2,I3,ry,q3⟩=>aU (hop pins s3 σ H2 v y u w3 _ I3 ru ry q3) fun w4 s4 ⟨z,H3,I4,rz,dx',fs',ea',l',q4⟩=>?_
 exact mQ I4 ea' c n l' rz fun s5 I5=>⟨σ,_,I5,q4⟩
def Bk:V->V->Hp->VK->Prop:=fun x y H Q=>∃ i j,x=.int i/\y=.int j/\Q (.int (i+j)) H
theorem uK:zh X .Add Bk:=by
 rintro pins s σ H x y u v Q I rx ry ⟨i,j,rfl,rfl,q⟩
 obtain⟨t,rfl⟩:=(show ∃ t,u=Value.int i t from rx)
 obtain⟨t',rfl⟩:=(show ∃ t',v=Value.int j t' from ry)
 exact PyProof.Rows.iadd_int ⟨.int (i+j),H,I.tok _,⟨_,rfl⟩,q⟩
end
section
variable {X:Cx} {pins:List (Addr × Obj)} {σ : St} {H:Hp} {s:Shared} {A:Around} {E:Value->Shared->Prop} {Q:Value->Shared->Prop} {c:Value} {b:Bool}
end
structure cE (k:Nat) (A:Around):Prop where
 hd:A.handled=none
 dp:A.depth+3 * k+5 < recursionLimit
 un:A.units+16 * k+200 < cLine
theorem cE.mono {j k:Nat} {A:Around} (r:cE k A) (h:j<=k):cE j A:=⟨r.hd,by have:=r.dp;omega,by have:=r.un;omega⟩
theorem cE.deeper {k:Nat} {A:Around} (r:cE (k+1) A) (env:Env):cE k (A.deeper env) :=
 ⟨r.hd,by have:=r.dp;show A.depth+1+3 * k+5 < _;omega,by have:=r.un;show A.units+3+16 * k+200 < _;omega⟩
theorem sZ {A:Around} {C:Addr} {us:List Value} {kw:List (Str × Value)}:(A.under (.builtin "type.__call__" ⟨.ref C :: us,kw⟩)).depth=A.depth+1:=by
 first | rfl | simp [Around.under,Code.weight,Code.isCreation,Code.isGuard,Code.isCaller,Code.frames,Code.isFrame,guardIds]
theorem tf {A:Around} {C:Addr} {us:List Value} {kw:List (Str × Value)}:(A.under (.builtin "type.__call__" ⟨.ref C :: us,kw⟩)).units=A.units+1:=by
 first | rfl | simp [Around.under,Code.cUnits,Code.frames,Code.isFrame]
theorem cE.make {k:Nat} {A:Around} (r:cE (k+1) A) (C:Addr) (us:List Value) (kw:List (Str × Value)):cE k (A.under (.builtin "type.__call__" ⟨.ref C :: us,kw⟩)) :=
 ⟨r.hd,by have:=r.dp;rw [sZ];omega,by have:=r.un;rw [tf];omega⟩
theorem cE.depth {k:Nat} {A:Around} (r:cE k A):A.depth < recursionLimit:=by have:=r.dp;omega
theorem cE.units {k:Nat} {A:Around} (r:cE k A):A.units+64 < cLine:=by have:=r.un;omega
def wc:TA:=fun _ H Q=>Q [] H
def Ao (ta:TE) (tr:TA):TA:=fun σ H Q=>ta σ H fun x H1=>tr σ H1 fun xs H2=>Q (x :: xs) H2
section
variable {X:Cx} {e:Expr} {es:List Expr} {te:TE} {t:TA} {pos:Pos}
theorem ae:PA X [] wc:=fun _ _ _ _ H Q I h=>Calls.spliced_nil ⟨[],H,I,.nil,h⟩
theorem U (ha:PE X e te) (hr:PA X es t) (hs:starEach (e :: es) X.env=(false,eval e X.env) :: starEach es X.env:=by rfl):PA X (e :: es) (Ao te t):=by
 intro pos pins s σ H Q I h
 rw [hs]
 show wpAny _ _ (spliced ((false,eval e X.env) :: backTo pos (starEach es X.env))) _ _ s
 refine Calls.spliced_cons (aU (ha pins s σ H _ I h) fun u s1 ⟨x,H1,I1,r1,q1⟩=>?_)
 exact aU (hr pos pins s1 σ H1 _ I1 q1) fun us s2 ⟨xs,H2,I2,r2,q2⟩=>⟨x :: xs,H2,I2,.cons r1 r2,q2⟩
def Bm (t:TA):TE:=fun σ H Q=>t σ H fun xs H1=>xs.length<=sizeLine/\∀ p,H1 p=none->Q (.ref p) (upd H1 p (.tup xs))
def Bn (t:TA):TE:=fun σ H Q=>t σ H fun xs H1=>xs.length<=sizeLine/\∀ p,H1 p=none->Q (.ref p) (upd H1 p (.lst xs))
theorem bJ {x1} (h:PA X es t):PE X (.Tuple es x1 pos) (Bm t):=by
 intro pins s σ H Q I hq
 refine wpAny_Tuple_spliced (aU (h pos pins s σ H _ I hq) fun us s1 ⟨xs,H1,I1,r,z,q⟩=>⟨by rw [<-r.length];exact z,?_⟩)
 have hf:H1 s1.heap.objs.size=none:=I1.aP.fresh (Nat.le_refl _)
 refine⟨.ref s1.heap.objs.size,upd H1 s1.heap.objs.size (.tup xs),I1.laid (t':=s1.toks) (fun b u e=>Heap.get?_push_of_some _ e) (Nat.le_refl _) ?_,rfl,q _ hf⟩
 exact⟨z,us,r,⟨_,Heap.get?_push_size _ rfl,rfl,_,rfl,rfl⟩⟩
theorem cq (h:PA X es t):PE X (.List es pos) (Bn t):=by
 intro pins s σ H Q I hq
 refine wpAny_List_spliced (aU (h pos pins s σ H _ I hq) fun us s1 ⟨xs,H1,I1,r,z,q⟩=>⟨by rw [<-r.length];exact z,?_⟩)
 have hf:H1 s1.heap.objs.size=none:=I1.aP.fresh (Nat.le_refl _)
 refine⟨.ref s1.heap.objs.size,upd H1 s1.heap.objs.size (.lst xs),I1.laid (t':=s1.toks) (fun b u e=>Heap.get?_push_of_some _ e) (Nat.le_refl _) ?_,rfl,q _ hf⟩
 exact⟨z,us,0,r,Heap.get?_push_size _ rfl⟩
end
abbrev Sp:=List V->Hp->VK->XK->Prop
abbrev ko:=List Env->Hp->Shared->XK->Value->Shared->Prop
structure lX (P:Program) (w:World) (K:PySem.W.Frag) (mg:Str->Option Value) (base:Heap) (A:Around) (outer:List Env) (s:Shared) (H:Hp):Prop where
 frames:A.frames=some outer
 mod:Mod K mg base
 bs:∀ b o,base.get? b=some o->s.heap.get? b=some o/\H b=none
 mJ:base.objs.size<=s.heap.objs.size
 iw:s.heap.FunFrames base outer
 o9:∀ b ∈ ke outer,H b=none
 aP:dm P w H s.heap
 bare:AllBare s.gens
def CE (outer:List Env) (P:Program) (w:World) (H:Hp) (s:Shared) (Q:VK) (u:Value) (s':Shared):Prop :=
 ∃ v H',s'.os=s.os/\AllBare s'.gens/\Un (ke outer) [] H H' s.heap s'.heap/\dm P w H' s'.heap/\RelV v u/\Q v H'
def CR (CX:ko) (outer:List Env) (P:Program) (w:World) (H:Hp) (s:Shared) (Q:VK) (E:XK) (r:Result) (s':Shared):Prop :=
 match r with
 | .ok (.ret u)=>CE outer P w H s Q u s'
 | .ok _=>False
 | .error e=>CX outer H s E e s'
structure bg (P:Program) (w:World) (K:PySem.W.Frag) (mg:Str->Option Value) (base:Heap) (CX:ko) (k:Nat) (f:Addr) (fd:FuncData) (ps:List Str) (sp:Sp):Prop where
 len:∀ vs H Q E,sp vs H Q E->vs.length=ps.length
 run:∀ (A:Around) (outer:List Env) (s:Shared) (H:Hp) (args:Args) (us:List Value) (vs:List V) (Q:VK) (E:XK),cE k A->lX P w K mg base A outer s H->BindsTo s fd args (ps.zip us)->Vals vs us->sp vs H Q E ->
  codeAny (model P w) A (.call (.ref f) args) (CR CX outer P w H s Q E) s
theorem lX.make {P:Program} {w:World} {K:PySem.W.Frag} {mg:Str->Option Value} {base:Heap} {A:Around} {outer:List Env} {s:Shared} {H:Hp} (e:lX P w K mg base A outer s H) (C:Addr) (us:List Value) (kw:List (Str × Value)) :
  lX P w K mg base (A.under (.builtin "type.__call__" ⟨.ref C :: us,kw⟩)) outer s H:=⟨by first | exact e.frames | (simpa [Around.under,Code.envs,Code.isFrame,pushEnvs] using e.frames),e.mod,e.bs,e.mJ,e.iw,e.o9,e.aP,e.bare⟩
section
variable {X:Cx} {pins:List (Addr × Obj)} {σ : St} {H:Hp} {s s':Shared}
theorem Inv.zi (I:Inv X pins σ H s):lX X.prog X.w X.K X.mg X.base X.A X.stack s H :=
 ⟨I.ok.frames,I.ok.mod,I.bs,Nat.le_trans I.ok.mJ I.sz,I.stack,I.rN,I.aP,I.bare⟩
theorem Inv.after {Q:VK} {u:Value} (I:Inv X pins σ H s) (h:CE X.stack X.prog X.w H s Q u s'):EP X pins σ Q u s':=by
 obtain⟨v,H',os,bare,un,aP,r,q⟩:=h
 obtain⟨hh,g,d,t,os'⟩:=s'
 obtain rfl:os' = s.os:=os
 exact⟨v,H',I.call (h':=hh) (g':=g) (d':=d) (t':=t) (ch:=[]) un aP bare (fun b z=>absurd z (by simp)),r,q⟩
end
def xG (sp:Sp) (dvs:List V) (E:XK) (t:TA):TE:=fun σ H Q=>t σ H fun vs H1=>sp (vs++dvs) H1 Q E
def oY (C:Addr) (m:Str) (sp:Sp) (dvs:List V) (E:XK) (ta:TE) (t:TA):TE:=fun σ H Q=>ta σ H fun x H1=>∃ a dx fs,x=.ref a/\H1 a=some (.ins C dx fs)/\fs.lookup m=none /\
 t σ H1 fun vs H2=>sp (x :: (vs++dvs)) H2 Q E
def xH (C:Addr) (sp:Sp) (dvs:List V) (E:XK) (t:TA):TE:=fun σ H Q=>t σ H fun vs H1=>∀ x dx,H1 x=none->H1 dx=none->dx ≠ x ->
 sp (.ref x :: (vs++dvs)) (upd (upd H1 dx (.own x)) x (.ins C dx [])) (fun v H2=>v=.bx/\Q (.ref x) H2) E
def Binds (K:PySem.W.Frag) (fd:FuncData) (ps:List Str) (ds:List Value):Prop :=
 ∀ (s:Shared) (us:List Value),K.In s.heap->(us++ds).length=ps.length->BindsTo s fd ⟨us,[]⟩ (ps.zip (us++ds))
theorem Binds.all {K:PySem.W.Frag} {fd:FuncData} {ps:List Str} (h:∀ us:List Value,us.length=ps.length->bindArgs fd ⟨us,[]⟩=pure (ps.zip us)):Binds K fd ps []:=fun s us _ hl=>by
 rw [List.append_nil] at hl ⊢
 exact .of_eq (h us hl)
def Passes (CX:ko) (X:Cx) (E:XK):Prop:=∀ (pins:List (Addr × Obj)) (σ : St) (H:Hp) (s:Shared) (e:Value) (s':Shared),Inv X pins σ H s->CX X.stack H s E e s'->X.xe e s'
section
variable {X:Cx} {CX:ko} {k:Nat} {f C:Addr} {fd:FuncData} {ps:List Str} {sp:Sp} {dvs:List V} {ds:List Value} {E:XK} {x m:Str} {p pos apos:Pos} {e o:Expr} {es:List Expr} {ta:TE} {t:TA}
theorem pL {pins:List (Addr × Obj)} {σ : St} {H:Hp} {s:Shared} {Q:VK} {us:List Value} {vs:List V} (F:bg X.prog X.w X.K X.mg X.base CX k f fd ps sp) (hr:cE k X.A) (hb:Binds X.K fd ps ds) (hd:Vals dvs ds) (hx:Passes CX X E)
  (I:Inv X pins σ H s) (r:Vals vs us) (h:sp (vs++dvs) H Q E):wpAny (model X.prog X.w) X.A (call (.ref f) us) (EP X pins σ Q) X.xe s:=by
 have r2:Vals (vs++dvs) (us++ds):=r.append hd
 have hl:(us++ds).length=ps.length:=by rw [<-r2.length];exact F.len _ _ _ _ h
 refine wpAny_call (codeAny_mono (F.run X.A X.stack s H ⟨us,[]⟩ (us++ds) (vs++dvs) Q E hr I.zi (hb s us I.iN hl) r2 h) fun r s' hq=>?_)
 cases r with
 | error e=>exact hx pins σ H s e s' I hq
 | ok fl =>
  cases fl with
  | ret u=>exact I.after hq
  | next=>exact False.elim hq
  | brk=>exact False.elim hq
  | cont=>exact False.elim hq
theorem yb (F:bg X.prog X.w X.K X.mg X.base CX k f fd ps sp) (hr:cE k X.A) (hg:Gl X x) (hm:X.mg x=some (.ref f)) (hk:PySem.W.keepIn X.K (.ref f)=true) (hb:Binds X.K fd ps ds) (hd:Vals dvs ds) (hx:Passes CX X E)
  (ha:PA X (e :: es) t) (hdb:(x == ("__debug__" : Str))=false:=by decide) (he:starEach (e :: es) X.env=(false,eval e X.env) :: starEach es X.env:=by rfl) (hpl:(backTo pos (starEach es X.env)).any (·.1)=false:=by rfl) :
  PE X (.Call (.Name x p) (e :: es) [] pos) (xG sp dvs E t):=by
 intro pins s σ H Q I h
 refine wpAny_Call_Name_kw (nv I hg hm ?_ hdb)
 refine PySem.W.callWith_K (h₀:=X.base) I.ok.mod.uz hk (aU (ha pos pins s σ H _ I h) fun us s1 ⟨vs,H1,I1,r,q⟩=>⟨I1.iN,?_⟩) he hpl
 exact pL F hr hb hd hx I1 r q
theorem yc {pl:Sem Bool} (he:PE X o ta) (c:j7 X.K C) (hm:Meth X.K C m f) (F:bg X.prog X.w X.K X.mg X.base CX k f fd ps sp) (hr:cE k X.A) (hb:Binds X.K fd ps ds) (hd:Vals dvs ds) (hx:Passes CX X E) (ha:PA X (e :: es) t)
  (hst:starEach (e :: es) X.env=(false,eval e X.env) :: starEach es X.env:=by rfl) (hpl:(backTo pos (starEach es X.env)).any (·.1)=false:=by rfl)
  (ht:eval (.Call (.Attribute o m apos) (e :: es) [] pos) X.env=(do
   let ov <-eval o X.env
   standAt apos.atName
   let (f,first) <-holding [ov] (getMethod ov m pl)
   callWith pos f first (backTo pos (starEach (e :: es) X.env)) (backToKw pos (keywordEach [] X.env))):=by rfl) :
  PE X (.Call (.Attribute o m apos) (e :: es) [] pos) (oY C m sp dvs E ta t):=by
 intro pins s σ H Q I h
 refine PySem.W.methodCall_KW (pl:=pl) (aU (he pins s σ H _ I h) fun u s1 ⟨x,H1,I1,rx,a,dx,fs,ex,ea,l,q⟩=>?_) ht
 subst ex
 obtain rfl:u=Value.ref a:=rx
 refine mP I1 ea c hm l ?_
 refine PySem.W.callWith_K (first:=[.ref a]) (h₀:=X.base) I.ok.mod.uz hm.kp (aU (ha pos pins s1 σ H1 _ I1 q) fun us s2 ⟨vs,H2,I2,r,q2⟩=>⟨I2.iN,?_⟩) hst hpl
 exact pL (us:=.ref a :: us) (vs:=.ref a :: vs) F hr hb hd hx I2 (.cons rfl r) q2
theorem we {pl:Sem Bool} (he:PE X o ta) (c:j7 X.K C) (hm:Meth X.K C m f) (F:bg X.prog X.w X.K X.mg X.base CX k f fd ps sp) (hr:cE k X.A) (hb:Binds X.K fd ps ds) (hd:Vals dvs ds) (hx:Passes CX X E)
  (ht:eval (.Call (.Attribute o m apos) [] [] pos) X.env=(do
   let ov <-eval o X.env
   standAt apos.atName
   let (f,first) <-holding [ov] (getMethod ov m pl)
   callWith pos f first (backTo pos (starEach [] X.env)) (backToKw pos (keywordEach [] X.env))):=by rfl) :
  PE X (.Call (.Attribute o m apos) [] [] pos) (oY C m sp dvs E ta wc):=by
 intro pins s σ H Q I h
 refine PySem.W.methodCall_KW (pl:=pl) (aU (he pins s σ H _ I h) fun u s1 ⟨x,H1,I1,rx,a,dx,fs,ex,ea,l,q⟩=>?_) ht
 subst ex
 obtain rfl:u=Value.ref a:=rx
 refine mP I1 ea c hm l ?_
 exact PySem.W.callWith_K0 (first:=[.ref a]) I1.iN hm.kp (pL (us:=[.ref a]) (vs:=[.ref a]) F hr hb hd hx I1 (.cons rfl .nil) q)
structure Mk (K:PySem.W.Frag) (C f:Addr):Prop where
 makes:PySem.W.makesIn K C=true
 init:PySem.W.findIn K (.ref C) "__init__" = some (some (.ref f))
 fn:PySem.W.isFn K (.ref f)=true
 kp:PySem.W.keepIn K (.ref C)=true
theorem wg {pins:List (Addr × Obj)} {σ : St} {H:Hp} {s:Shared} {Q:VK} {us:List Value} {vs:List V} (M:Mk X.K C f) (F:bg X.prog X.w X.K X.mg X.base CX k f fd ps sp) (hr:cE (k+1) X.A) (hb:Binds X.K fd ps ds) (hd:Vals dvs ds)
  (hx:Passes CX X E) (I:Inv X pins σ H s) (r:Vals vs us)
  (h:∀ x dx,H x=none->H dx=none->dx ≠ x->sp (.ref x :: (vs++dvs)) (upd (upd H dx (.own x)) x (.ins C dx [])) (fun v H2=>v=.bx/\Q (.ref x) H2) E) :
  wpAny (model X.prog X.w) X.A (call (.ref C) us) (EP X pins σ Q) X.xe s:=by
 have hq:=h (s.heap.objs.size+1) s.heap.objs.size (I.aP.fresh (Nat.le_succ _)) (I.aP.fresh (Nat.le_refl _)) (Nat.ne_of_lt (Nat.lt_succ_self _))
 have I2:=Inv.made (C:=C) I
 have r2:Vals (V.ref (s.heap.objs.size+1) :: (vs++dvs)) (Value.ref (s.heap.objs.size+1) :: (us++ds)):=.cons rfl (r.append hd)
 have hl:(Value.ref (s.heap.objs.size+1) :: us++ds).length=ps.length:=by
  have e:=r2.length
  rw [F.len _ _ _ _ hq] at e
  exact e.symm
 refine wpAny_call (v9 (f:=f) I.iN M.makes M.init (beq_iff_eq.mp M.fn) (codeAny_mono (F.run _ X.stack _ _ ⟨Value.ref (s.heap.objs.size+1) :: us,[]⟩ (Value.ref (s.heap.objs.size+1) :: (us++ds)) _ _ E (hr.make C us [])
  (I2.zi.make C us []) (hb _ (Value.ref (s.heap.objs.size+1) :: us) I2.iN hl) r2 hq) fun r s' hq'=>?_))
 cases r with
 | error e=>exact hx pins σ _ _ e s' I2 hq'
 | ok fl =>
  cases fl with
  | ret u =>
   obtain⟨v,H',I3,rv,ev,q3⟩:=I2.after hq'
   subst ev
   exact⟨rv,⟨V.ref (s.heap.objs.size+1),H',I3,rfl,q3⟩⟩
  | next=>exact False.elim hq'
  | brk=>exact False.elim hq'
  | cont=>exact False.elim hq'
theorem yd (M:Mk X.K C f) (F:bg X.prog X.w X.K X.mg X.base CX k f fd ps sp) (hr:cE (k+1) X.A) (hg:Gl X x) (hm:X.mg x=some (.ref C)) (hb:Binds X.K fd ps ds) (hd:Vals dvs ds) (hx:Passes CX X E)
  (ha:PA X (e :: es) t) (hdb:(x == ("__debug__" : Str))=false:=by decide) (he:starEach (e :: es) X.env=(false,eval e X.env) :: starEach es X.env:=by rfl) (hpl:(backTo pos (starEach es X.env)).any (·.1)=false:=by rfl) :
  PE X (.Call (.Name x p) (e :: es) [] pos) (xH C sp dvs E t):=by
 intro pins s σ H Q I h
 refine wpAny_Call_Name_kw (nv I hg hm ?_ hdb)
 refine PySem.W.callWith_K (h₀:=X.base) I.ok.mod.uz M.kp (aU (ha pos pins s σ H _ I h) fun us s1 ⟨vs,H1,I1,r,q⟩=>⟨I1.iN,?_⟩) he hpl
 exact wg M F hr hb hd hx I1 r q
end
section
variable {X:Cx} {CX:ko} {k:Nat} {f C:Addr} {fd:FuncData} {ps ks:List Str} {sp:Sp} {E:XK} {x m:Str} {p pos apos kpos:Pos} {e o:Expr} {es:List Expr} {kws:List Keyword} {te ta:TE} {t tk:TA} {nm:Option Str}
variable {g:List Value->List Value->List Value} {gV:List V->List V->List V}
end
structure aS (N P:List Str) (sc:Scope):Prop where
 kind:sc.kind=.function
 co:sc.isCoroutine=false
 gen:sc.isGenerator=false
 nd:N.Nodup
 pre:N.take P.length=P
 par:∀ x ∈ P,sc.names.lookup x=some .local\/sc.names.lookup x=some .cell
 zj:∀ y ∈ sc.names,y.2 ≠ .free
theorem ow {kindOf:Str->Option NameKind} {x:Str}:∀ {binds:List (Str × Value)} {m:Str->Option Value},(∀ v,(x,v) ∉ binds)->bindL kindOf binds m x=m x
 | [],_,_=>rfl
 | (n,v) :: r,m,h=>by
  unfold bindL
  rw [ow fun w hw=>h w (List.mem_cons_of_mem _ hw)]
  split
  ·have:x ≠ n:=by rintro rfl;exact h v List.mem_cons_self
   simp [this]
  ·rfl
theorem ox {kindOf:Str->Option NameKind} {x:Str}:∀ {binds:List (Str × Value)} {m:Str->Option Value},(∀ v,(x,v) ∉ binds)->bindC kindOf binds m x=m x
 | [],_,_=>rfl
 | (n,v) :: r,m,h=>by
  unfold bindC
  rw [ox fun w hw=>h w (List.mem_cons_of_mem _ hw)]
  split
  ·rfl
  ·have:x ≠ n:=by rintro rfl;exact h v List.mem_cons_self
   simp [this]
theorem oy {kindOf:Str->Option NameKind} {x:Str} {v:Value}:∀ {P:List Str} {vs:List Value} {i:Nat} {m:Str->Option Value},P.Nodup->P[i]? = some x->vs[i]? = some v->kindOf x=some .local ->
  bindL kindOf (P.zip vs) m x=some v
 | [],_,_,_,_,h,_,_=>by simp at h
 | _ :: _,[],_,_,_,_,h,_=>by simp at h
 | p :: P,w :: vs,0,m,nd,h1,h2,hk=>by
  simp at h1 h2;subst h1;subst h2
  show bindL kindOf ((p,w) :: P.zip vs) m p=_
  unfold bindL
  rw [ow fun v hv=>(List.nodup_cons.mp nd).1 (List.of_mem_zip hv).1,if_pos hk]
  simp
 | p :: P,w :: vs,i+1,m,nd,h1,h2,hk=>by
  show bindL kindOf ((p,w) :: P.zip vs) m x=_
  unfold bindL
  exact oy (i:=i) (List.nodup_cons.mp nd).2 (by simpa using h1) (by simpa using h2) hk
theorem oz {kindOf:Str->Option NameKind} {x:Str} {v:Value}:∀ {P:List Str} {vs:List Value} {i:Nat} {m:Str->Option Value},P.Nodup->P[i]? = some x->vs[i]? = some v->kindOf x ≠ some .local ->
  bindC kindOf (P.zip vs) m x=some v
 | [],_,_,_,_,h,_,_=>by simp at h
 | _ :: _,[],_,_,_,_,h,_=>by simp at h
 | p :: P,w :: vs,0,m,nd,h1,h2,hk=>by
  simp at h1 h2;subst h1;subst h2
  show bindC kindOf ((p,w) :: P.zip vs) m p=_
  unfold bindC
  rw [ox fun v hv=>(List.nodup_cons.mp nd).1 (List.of_mem_zip hv).1,if_neg hk]
  simp
 | p :: P,w :: vs,i+1,m,nd,h1,h2,hk=>by
  show bindC kindOf ((p,w) :: P.zip vs) m x=_
  unfold bindC
  exact oz (i:=i) (List.nodup_cons.mp nd).2 (by simpa using h1) (by simpa using h2) hk
def start (N:List Str) (vs:List V):St:=vs.map some++List.replicate (N.length - vs.length) none
def nA (CX:ko) (P:Program) (w:World) (K:PySem.W.Frag) (mg:Str->Option Value) (base:Heap) (N:List Str) (qual:Str) (scope:Scope) (f:Addr) (cd:Value) (A:Around) (outer:List Env) (s:Shared) (H:Hp) (E:XK):Cx where
 prog:=P
 w:=w
 K:=K
 mg:=mg
 base:=base
 A:=A.deeper (envOfC qual scope s.heap.objs.size f cd)
 N:=N
 dg:=s
 jP:=H
 env:=envOfC qual scope s.heap.objs.size f cd
 outer:=outer
 stack:=envOfC qual scope s.heap.objs.size f cd :: outer
 ex:=[]
 calm:=true
 fn:=fun _=>true
 pn:=[]
 xe:=fun e s'=>wpAny (model P w) (A.deeper (envOfC qual scope s.heap.objs.size f cd)) (leaving (envOfC qual scope s.heap.objs.size f cd) e) (fun _ s''=>CX outer H s E e s'') (fun e' s''=>CX outer H s E e' s'') s'
theorem pM {sc:Scope} {n:Nat} {x:Str} (h:sc.names.lookup x=some .cell):∃ c,(cellsFrom n sc.names []).lookup x=some c:=by
 have q:=PySem.W.cellsFrom_some sc.names n [] (.inl h)
 exact Option.isSome_iff_exists.mp q
theorem uL {CX:ko} {P:Program} {w:World} {K:PySem.W.Frag} {mg:Str->Option Value} {base:Heap} {N ps:List Str} {qual:Str} {scope:Scope} {f:Addr} {cd:Value} {A:Around} {outer:List Env} {s s1:Shared} {H:Hp} {E:XK} {us:List Value} {vs:List V}
  (S:aS N ps scope) (hd:A.handled=none) (e0:lX P w K mg base A outer s H) (hl:vs.length=ps.length) (r:Vals vs us)
  (x:InCallC s s.heap.objs.size (bindL (envOfC qual scope s.heap.objs.size f cd).kindOf (ps.zip us) fun _=>none) (cellsFrom (s.heap.objs.size+1) scope.names []) (bindC (envOfC qual scope s.heap.objs.size f cd).kindOf (ps.zip us) fun _=>none) s1) :
  Inv (nA CX P w K mg base N qual scope f cd A outer s H E) [] (start N vs) H s1:=by
 have hpl:ps.length<=N.length:=by have:=congrArg List.length S.pre;rw [List.length_take] at this;omega
 obtain⟨h1,tk,rfl,hk⟩:=x.done
 have noA:∀ b:Addr,b ∉ (nA CX P w K mg base N qual scope f cd A outer s H E).ex:=fun b z=>absurd (show b ∈ ([]:List Addr) from z) (by simp)
 refine⟨⟨e0.mod,S.kind,rfl,rfl,Nat.le_refl _,fun y z c h1 h2=>?_,fun y hy=>?_,fun y c _ h=>?_,fun _=>hd,Around.frames_deeper e0.frames,.inr ⟨rfl,rfl⟩,fun b z=>absurd z (noA b),e0.bs,e0.mJ,fun b _ _=>noA b,fun b z=>absurd z (noA b),e0.iw,e0.o9⟩,
  rfl,e0.bare,Un.kept hk,⟨_,x.toInCall.ns,fun i y v h1 h2 h3=>?_⟩,fun y c h=>⟨_,x.cell y c h⟩,e0.aP.fresh (Nat.le_refl _),fun y c h=>?_,fun p hp=>absurd (show p ∈ ([]:List (Addr × Obj)) from hp) (by simp),e0.aP.kept hk,?_⟩
 ·exact name_of_addr x.apart (PySem.mem_of_lookup h1) (PySem.mem_of_lookup h2)
 ·have hy:scope.names.lookup y=some .cell\/scope.names.lookup y=some .free:=hy
  rcases hy with hy | hy
  ·exact pM hy
  ·exact absurd rfl (S.zj _ (PySem.mem_of_lookup hy))
 ·exact Nat.le_of_lt (x.above y c (PySem.mem_of_lookup h))
 ·have hi:i < vs.length:=by
   unfold start at h2
   by_cases hi:i < vs.length
   ·exact hi
   ·rw [List.getElem?_append_right (by simpa using hi)] at h2
    rw [List.getElem?_replicate] at h2
    split at h2 <;> cases h2
  have ha:vs[i]? = some v:=by
   unfold start at h2
   rw [List.getElem?_append_left (by simpa using hi),List.getElem?_map] at h2
   cases e:vs[i]? with
   | none=>rw [e] at h2;cases h2
   | some a=>rw [e] at h2;cases h2;rfl
  obtain⟨u,hu,rv⟩:=r.get ha
  have hp:ps[i]? = some y:=by
   rw [<-S.pre,List.getElem?_take_of_lt (by omega)];exact h1
  have ndP:ps.Nodup:=by rw [<-S.pre];exact S.nd.sublist (List.take_sublist _ _)
  refine⟨u,rv,?_⟩
  rcases S.par y (List.mem_of_getElem? hp) with k | k
  ·exact .inl ⟨k,oy ndP hp hu k⟩
  ·obtain⟨c,e⟩:=pM (n:=s.heap.objs.size+1) k
   refine .inr ⟨.inl k,c,e,?_⟩
   have q:=x.cell y c e
   rw [oz ndP hp hu (by show scope.names.lookup y ≠ _;rw [k];decide)] at q
   exact q
 ·exact e0.aP.fresh (Nat.le_of_lt (x.above y c (PySem.mem_of_lookup h)))
 ·unfold start
  show _=N.length
  rw [List.length_append,List.length_map,List.length_replicate]
  omega
theorem Ap {CX:ko} {P:Program} {w:World} {K:PySem.W.Frag} {mg:Str->Option Value} {base:Heap} {k:Nat} {f:Addr} {name qual:Str} {params:Arguments} {body:List Stmt} {scope:Scope} {dV kV doc pm cdv ct oc:Value} {an od:Option Addr}
  {osl:Array (Option Value)} {N ps:List Str} {sp:Sp} (lk:K.lookup f=some ⟨oc,od,.func (PySem.W.fnOf name qual params body scope dV kV doc pm an cdv ct),osl⟩) (hcd:PySem.W.codeIn K cdv qual=true) (S:aS N ps scope)
  (len:∀ vs H Q E,sp vs H Q E->vs.length=ps.length)
  (hbody:∀ (A:Around) (outer:List Env) (s:Shared) (H:Hp) (vs:List V) (Q:VK) (E:XK),cE k (A.deeper (envOfC qual scope s.heap.objs.size f cdv))->sp vs H Q E ->
   ∃ t,jw (nA CX P w K mg base N qual scope f cdv A outer s H E) body t/\t { nx:=fun _ H'=>Q .bx H',rt:=Q } (start N vs) H) :
  bg P w K mg base CX (k+1) f (PySem.W.fnOf name qual params body scope dV kV doc pm an cdv ct) ps sp:=by
 refine⟨len,fun A outer s H args us vs Q E hr e0 hb r hsp=>?_⟩
 have hl:=len _ _ _ _ hsp
 have KX:K.In s.heap:=e0.mod.uz.keeps fun b o e=>(e0.bs b o e).1
 have lim:s.heap.NoLimit:=e0.mod.nolimit.keeps fun b o e=>(e0.bs b o e).1
 have hkind:∀ y ∈ ps.zip us,scope.names.lookup y.1=some .local\/(scope.names.lookup y.1=some .cell/\((cellsFrom (s.heap.objs.size+1) scope.names []).lookup y.1).isSome=true):=fun ⟨n,v⟩ hy=>by
  rcases S.par n (List.of_mem_zip hy).1 with q | q
  ·exact .inl q
  ·exact .inr ⟨q,PySem.W.cellsFrom_some _ _ _ (.inl q)⟩
 refine codeAny_call_function hr.depth (KX _ _ lk) rfl S.co S.gen rfl (PySem.W.codeRec_of KX hcd) (hb _ _ _ _ ?_)
 refine wpAny_newFunctionEnv_cells S.kind hkind fun env he s1 x=>?_
 subst he
 refine⟨lim.keeps x.toInCall.keep,codeAny_func ?_⟩
 obtain⟨t,ht,hq⟩:=hbody A outer s H vs Q E (hr.deeper _) hsp
 have I:Inv (nA CX P w K mg base N qual scope f cdv A outer s H E) [] (start N vs) H s1:=uL S hr.hd e0 hl r x
 refine wpAny_mono (ht [] s1 (start N vs) H _ I hq) (fun fl s' hs=>?_) fun e s' hs=>hs
 have fin:∀ {σ':St} {H':Hp} {v:V} {u:Value},Inv (nA CX P w K mg base N qual scope f cdv A outer s H E) [] σ' H' s'->RelV v u->Q v H'->CE outer P w H s Q u s' :=
  fun {σ' H' v u} J rv q=>⟨v,H',J.os,J.bare,J.base,J.aP,rv,q⟩
 cases fl with
 | ret u =>
  obtain⟨v,σ',H',J,rv,q⟩:=hs
  exact fin J rv q
 | next =>
  obtain⟨σ',H',J,q⟩:=hs
  exact fin (v:=V.bx) (u:=Value.none) J rfl q
 | brk =>
  obtain⟨_,_,_,q⟩:=hs
  exact False.elim q
 | cont =>
  obtain⟨_,_,_,q⟩:=hs
  exact False.elim q
section
variable {X:Cx} {x:Str} {p pos:Pos} {e:Expr} {es:List Expr} {t:TA} {id T:String} {r:List V->Hp->VK->Prop}
def AI (r:List V->Hp->VK->Prop) (t:TA):TE:=fun σ H Q=>t σ H fun vs H1=>r vs H1 Q
theorem bL (hc:fZ X (.builtin id) r) (hg:Gl X x) (hm:X.mg x=none) (hv:bootBuiltins x=some (.builtin id)) (ha:PA X (e :: es) t) (hn:x ≠ "__name__" := by decide) (hdb:(x == ("__debug__" : Str))=false:=by decide)
  (he:starEach (e :: es) X.env=(false,eval e X.env) :: starEach es X.env:=by rfl) (hpl:(backTo pos (starEach es X.env)).any (·.1)=false:=by rfl):PE X (.Call (.Name x p) (e :: es) [] pos) (AI r t):=by
 intro pins s σ H Q I h
 refine wpAny_Call_Name_kw (jx I hg hm hv ?_ hn hdb)
 exact PyProof.Rows.callWith_builtin1 (aU (ha pos pins s σ H _ I h) fun us s1 ⟨vs,H1,I1,r1,q1⟩=>hc pins s1 σ H1 vs us Q I1 r1 q1) he hpl
theorem bR (hc:fZ X (.type T) r) (hg:Gl X x) (hm:X.mg x=none) (hv:bootBuiltins x=some (.type T)) (ha:PA X (e :: es) t) (hn:x ≠ "__name__" := by decide) (hdb:(x == ("__debug__" : Str))=false:=by decide)
  (he:starEach (e :: es) X.env=(false,eval e X.env) :: starEach es X.env:=by rfl) (hpl:(backTo pos (starEach es X.env)).any (·.1)=false:=by rfl):PE X (.Call (.Name x p) (e :: es) [] pos) (AI r t):=by
 intro pins s σ H Q I h
 refine wpAny_Call_Name_kw (jx I hg hm hv ?_ hn hdb)
 exact PyProof.Rows.callWith_type1 (aU (ha pos pins s σ H _ I h) fun us s1 ⟨vs,H1,I1,r1,q1⟩=>hc pins s1 σ H1 vs us Q I1 r1 q1) he hpl
end
end L2
namespace HT
open PySem PyProof.Rows
section
open PySem.SeqAt
open PySem.AutoSeq1 (wpAny_loadPart')
open PySem.MeetsSeq PySem.MeetsSeq2 PySem.MeetsSeq3
end
section
variable {prog:Program} {w:World} {A:Around} {E:Value->Shared->Prop} {s:Shared}
def bM (n d:Nat):Option Int->Nat
 | none=>d
 | some v=>if v < 0 then (v+(n:Int)).toNat else min v.toNat n
theorem wj (n d:Nat):bM n d none=d:=rfl
theorem ye (n d k:Nat):bM n d (some (k:Int))=min k n:=by
 show (if (k:Int) < 0 then ((k:Int)+(n:Int)).toNat else min (k:Int).toNat n)=min k n
 rw [if_neg (by omega),Int.toNat_natCast]
theorem zk (n d:Nat) (hd:d<=n) (o:Option Int):bM n d o<=n:=by
 cases o with
 | none=>exact hd
 | some v =>
  show (if v < 0 then (v+(n:Int)).toNat else min v.toNat n)<=n
  by_cases hv:v < 0
  ·rw [if_pos hv];omega
  ·rw [if_neg hv];exact Nat.min_le_right _ _
theorem rV (v:Int) (n d:Nat):(if v < 0 then max (v+(n:Int)) 0 else min v (n:Int))=((bM n d (some v):Nat):Int):=by
 show (if v < 0 then max (v+(n:Int)) 0 else min v (n:Int))=(((if v < 0 then (v+(n:Int)).toNat else min v.toNat n):Nat):Int)
 by_cases hv:v < 0
 ·simp only [if_pos hv];omega
 ·simp only [if_neg hv];omega
theorem tj (lo hi:Option Int) (n:Nat):Builtin.Slice.sliceAdjust lo hi 1 (n:Int)=(((bM n 0 lo:Nat):Int),((bM n n hi:Nat):Int)):=by
 have h1:¬ ((1:Int) < 0):=by omega
 unfold Builtin.Slice.sliceAdjust
 simp only [h1,if_false]
 refine Prod.ext ?_ ?_
 ·cases lo with
  | none=>rfl
  | some v=>exact rV v n 0
 ·cases hi with
  | none=>rfl
  | some v=>exact rV v n n
theorem tq (i j:Nat):Builtin.Slice.slicePlaces (i:Int) (j:Int) 1=j - i:=by
 unfold Builtin.Slice.slicePlaces
 have h1:(1:Int) > 0:=by omega
 simp only [h1,if_true,Int.ediv_one]
 split <;> omega
theorem mR {v:Value} {o:Option Int} {Q:Option Int->Shared->Prop} (p:IsPart v o) (h:Q o s):wpAny (model prog w) A (Builtin.Slice.slicePartIndex v) Q E s:=by
 cases p with
 | none=>exact slicePart_none h
 | int i t=>exact slicePart_int h
theorem iU {sl:Addr} {vl vu:Value} {lo hi:Option Int} {n:Nat} {Q:Int × Int × Nat->Shared->Prop} (hs:s.heap.IsSliceOf sl vl vu .none) (pl:IsPart vl lo) (pu:IsPart vu hi)
  (h:Q (((bM n 0 lo:Nat):Int),1,bM n n hi - bM n 0 lo) s):wpAny (model prog w) A (Builtin.Slice.sliceApplied (.ref sl) (pure (n:Int))) Q E s:=by
 obtain⟨os,hos,hcs,hds⟩:=id hs
 unfold Builtin.Slice.sliceApplied Builtin.Slice.sliceFields
 refine wpAny_bind (wpAny_bind (wpAny_field hos hds (x:=vl) rfl (wpAny_bind (wpAny_field hos hds (x:=vu) rfl (wpAny_bind (wpAny_field hos hds (x:=.none) rfl (wpAny_pure ?_)))))))
 refine wpAny_bind (slicePart_none ?_)
 show wpAny _ _ (if ((1:Int) == 0)=true then _ else _) _ _ s
 rw [if_neg (by decide)]
 refine wpAny_bind (mR pl (wpAny_bind (mR pu (wpAny_bind (wpAny_pure ?_)))))
 show wpAny _ _ (match Builtin.Slice.sliceAdjust lo hi 1 (n:Int) with | (lo,hi)=>pure (lo,(1:Int),Builtin.Slice.slicePlaces lo hi 1)) _ _ s
 rw [tj lo hi n]
 show wpAny _ _ (pure (((bM n 0 lo:Nat):Int),(1:Int),Builtin.Slice.slicePlaces ((bM n 0 lo:Nat):Int) ((bM n n hi:Nat):Int) 1)) _ _ s
 rw [tq]
 exact wpAny_pure h
theorem wk (xs:Array Value) (i k:Nat):((List.range k).filterMap fun (m:Nat)=>xs[((i:Int)+(m:Int) * 1).toNat]?).toArray=((xs.toList.drop i).take k).toArray:=by
 have e:(fun (m:Nat)=>xs[((i:Int)+(m:Int) * 1).toNat]?)=fun m=>xs[i+m]?:=by
  funext m
  have:((i:Int)+(m:Int) * 1).toNat=i+m:=by omega
  rw [this]
 rw [e]
 have:=pick_run xs i k
 rw [List.filterMap_map] at this
 have e2:((fun x=>xs[x]?) ∘ fun x=>i+x)=fun m=>xs[i+m]?:=rfl
 rw [e2] at this
 rw [this]
theorem lA {t sl:Addr} {items:Array Value} {vl vu:Value} {lo hi:Option Int} {Q:Value->Shared->Prop} (ht:IsTup s.heap t items) (hs:s.heap.IsSliceOf sl vl vu .none) (pl:IsPart vl lo) (pu:IsPart vu hi)
  (hw:¬ (bM items.size 0 lo=0/\bM items.size items.size hi=items.size))
  (h:Q (.ref s.heap.objs.size) { s with heap:=s.heap.push { cls:=.type "tuple",data:=.seq ((items.toList.drop (bM items.size 0 lo)).take (bM items.size items.size hi - bM items.size 0 lo)).toArray } })
  (hsz:items.size<=sizeLine):wpAny (model prog w) A (getItem (.ref t) (.ref sl)) Q E s:=by
 have htake:sizeOk (.seq ((items.toList.drop (bM items.size 0 lo)).take (bM items.size items.size hi - bM items.size 0 lo)).toArray):=by
  show ((items.toList.drop (bM items.size 0 lo)).take (bM items.size items.size hi - bM items.size 0 lo)).toArray.size<=sizeLine
  rw [List.size_toArray,List.length_take,List.length_drop,Array.length_toList]
  omega
 have hj:bM items.size items.size hi<=items.size:=zk _ _ (Nat.le_refl _) hi
 obtain⟨os,hos,hcs,hds⟩:=id hs
 have hTs:s.TypeIs (.ref sl) "slice" := ⟨os,hos,hcs⟩
 unfold getItem
 try with_reducible refine wpAny_holding ?_
 first | refine wpAny_bind (wpAny_pure ?_) | skip
 refine wpAny_bind (wpAny_sequenceKey ht.typeIs (by decide) ?_)
 refine wpAny_bind (wpAny_callSpecial?_slot (name:=Str.ofString "__getitem__") ht.typeIs PyProof.Rows.slot_tuple_getitem
  (wpAny_call_entry PyProof.Rows.slot_tuple_getitem ht.typeIs entry_tuple_getitem ?_ (args_tuple_getitem _ _)))
 show wpAny _ _ (Builtin.Tuple.tupleItemsOf (.ref t) >>= _) _ _ s
 refine wpAny_bind (tupleItemsOf_ ht ?_)
 refine wpAny_bind (wpAny_typeOf hTs ?_)
 rw [if_pos (by decide)]
 refine wpAny_bind (iU hs pl pu ?_)
 have hno:¬ ((((bM items.size 0 lo:Nat):Int) == 0 && (1:Int) == 1 && (bM items.size items.size hi - bM items.size 0 lo) == items.size)=true):=by
  intro q
  rw [Bool.and_eq_true,Bool.and_eq_true] at q
  have q1:((bM items.size 0 lo:Nat):Int)=0:=eq_of_beq q.1.1
  have q2:bM items.size items.size hi - bM items.size 0 lo=items.size:=eq_of_beq q.2
  exact hw ⟨by omega,by omega⟩
 show wpAny _ _ (if (((bM items.size 0 lo:Nat):Int) == 0 && (1:Int) == 1 && (bM items.size items.size hi - bM items.size 0 lo) == items.size)=true then _ else _) _ _ s
 rw [if_neg hno,wk]
 first
  | exact wpAny_bind (m:=Builtin.Tuple.tupleExact _) (wpAny_newObj_type (wpAny_pure ⟨_,rfl,wpAny_pure h⟩) htake)
  | exact wpAny_bind (m:=Builtin.Tuple.tupleExact _) (wpAny_newObj_type (wpAny_bind (wpAny_pure (wpAny_pure ⟨_,rfl,wpAny_pure h⟩))) htake)
  | exact wpAny_bind (wpAny_bind (m:=Builtin.Tuple.tupleExact _) (wpAny_newObj_type (wpAny_pure (wpAny_pure ⟨_,rfl,wpAny_pure h⟩)) htake))
  | exact wpAny_bind (wpAny_bind (m:=Builtin.Tuple.tupleExact _) (wpAny_newObj_type (wpAny_pure ⟨_,rfl,wpAny_pure h⟩) htake))
end
end HT
namespace L2
open PySem PySem.Spec PyProof.Rows
abbrev TO:=St->Hp->(Option Int->Hp->Prop)->Prop
def PO (X:Cx) (e:Option Expr) (t:TO):Prop :=
 ∀ (pins:List (Addr × Obj)) (s:Shared) (σ : St) (H:Hp) (Q:Option Int->Hp->Prop),Inv X pins σ H s->t σ H Q ->
  wpAny (model X.prog X.w) X.A (evalPart e X.env) (fun u s'=>∃ o H',Inv X pins σ H' s'/\IsPart u o/\Q o H') X.xe s
def yf:TO:=fun _ H Q=>Q none H
def Aq (t:TE):TO:=fun σ H Q=>t σ H fun x H1=>∃ i,x=.int i/\Q (some i) H1
section
variable {X:Cx} {e:Expr} {te:TE} {lo hi:Option Expr} {tl th:TO} {pos p2:Pos}
theorem nB:PO X none yf:=by
 intro pins s σ H Q I h
 rw [evalPart_none]
 exact wpAny_pure ⟨none,H,I,.none,h⟩
theorem lh (h:PE X e te):PO X (some e) (Aq te):=by
 intro pins s σ H Q I hw
 rw [evalPart_some]
 refine aU (h pins s σ H _ I hw) fun u s1 ⟨x,H1,I1,r1,q1⟩=>?_
 obtain⟨i,rfl,q⟩:=q1
 obtain⟨t,rfl⟩:=r1
 exact⟨some i,H1,I1,.int i t,q⟩
def zl (X:Cx) (r:V->Option Int->Option Int->Hp->VK->Prop):Prop :=
 ∀ (pins:List (Addr × Obj)) (s:Shared) (σ : St) (H:Hp) (x:V) (v vl vu:Value) (lo hi:Option Int) (sl:Addr) (Q:VK),Inv X pins σ H s->RelV x v->s.heap.IsSliceOf sl vl vu .none->IsPart vl lo->IsPart vu hi->r x lo hi H Q ->
  ∃ T id,typeLookup (.type T) "__getitem__" = pure (some (.builtin id))/\s.TypeIs v T/\wpAny (model X.prog X.w) X.A (getItem v (.ref sl)) (EP X pins σ Q) X.xe s
def BJ (r:V->Option Int->Option Int->Hp->VK->Prop) (te:TE) (tl th:TO):TE:=fun σ H Q=>te σ H fun x H1=>tl σ H1 fun l H2=>th σ H2 fun u H3=>r x l u H3 Q
theorem lY {r:V->Option Int->Option Int->Hp->VK->Prop} (hr:zl X r) (he:PE X e te) (hl:PO X lo tl) (hu:PO X hi th):PE X (.Subscript e (.Slice lo hi none p2) pos) (BJ r te tl th):=by
 intro pins s σ H Q I h
 refine Subscript_ (aU (he pins s σ H _ I h) fun v s1 ⟨x,H1,I1,r1,q1⟩=>?_)
 refine wpAny_Slice (aU (hl pins s1 σ H1 _ I1 q1) fun vl s2 ⟨l,H2,I2,pl,q2⟩=>aU (hu pins s2 σ H2 _ I2 q2) fun vu s3 ⟨u,H3,I3,pu,q3⟩=>?_)
 rw [evalPart_none]
 refine wpAny_pure ?_
 have I4:Inv X pins σ H3 { s3 with heap:=s3.heap.push { cls:=.type "slice",data:=.fields #[vl,vu,.none] } }:=I3.kept (t':=s3.toks) fun b ob q=>Heap.get?_push_of_some _ q
 obtain⟨T,id,hT,ht,hg⟩:=hr pins { s3 with heap:=s3.heap.push { cls:=.type "slice",data:=.fields #[vl,vu,.none] } } σ H3 x v vl vu l u s3.heap.objs.size Q I4 r1 (Heap.IsSliceOf.new ..) pl pu q3
 show wpAny (model X.prog X.w) X.A (subscriptTail e (.Slice lo hi none p2) v (.ref s3.heap.objs.size)) (EP X pins σ Q) X.xe { s3 with heap:=s3.heap.push { cls:=.type "slice",data:=.fields #[vl,vu,.none] } }
 exact tail_any (ops:=[.ref s3.heap.objs.size,v]) ht hT hg (by with_unfolding_all rfl)
def gW (xs:List V) (lo hi:Option Int):List V:=(xs.drop (HT.bM xs.length 0 lo)).take (HT.bM xs.length xs.length hi - HT.bM xs.length 0 lo)
theorem rh (xs:List V) (lo hi:Option Int):(gW xs lo hi).length<=xs.length:=by
 unfold gW
 rw [List.length_take,List.length_drop]
 omega
def Bo (K:PySem.W.Frag):V->Option Int->Option Int->Hp->VK->Prop:=fun x lo hi H Q=>∃ a xs,x=.ref a/\av K H a xs /\
 ¬ (HT.bM xs.length 0 lo=0/\HT.bM xs.length xs.length hi=xs.length)/\∀ p,H p=none->Q (.ref p) (upd H p (.tup (gW xs lo hi)))
theorem zm:zl X (Bo X.K):=by
 intro pins s σ H x v vl vu lo hi sl Q I rx hs pl pu h
 obtain⟨a,xs,rfl,hx,hw,q⟩:=h
 cases rx
 obtain⟨its,r,ht,hz⟩:=I.tuple hx
 have hlen:its.toArray.size=xs.length:=by rw [List.size_toArray];exact r.length.symm
 refine⟨"tuple",_,PyProof.Rows.slot_tuple_getitem.lookup,ht.typeIs,?_⟩
 refine HT.lA ht hs pl pu (by rw [hlen];exact hw) ?_ (by rw [hlen];exact hz)
 rw [hlen]
 refine⟨.ref s.heap.objs.size,_,I.laid (t':=s.toks) (o:=.tup (gW xs lo hi)) (fun b ob q=>Heap.get?_push_of_some _ q) (Nat.le_refl _) ?_,rfl,q _ (I.aP.fresh (Nat.le_refl _))⟩
 exact⟨Nat.le_trans (rh xs lo hi) hz,_,(r.drop (HT.bM xs.length 0 lo)).take (HT.bM xs.length xs.length hi - HT.bM xs.length 0 lo),⟨_,Heap.get?_push_size _ rfl,rfl,_,rfl,rfl⟩⟩
end
def lJ (n:Nat) (i:Int):Option Nat:=if 0<=i then (if i < n then some i.toNat else none) else if -(n:Int)<=i then some (i+n).toNat else none
def dY {α : Type} (xs:List α) (i:Int):Option α:=(lJ xs.length i).bind fun j=>xs[j]?
theorem rW {n:Nat} {i:Int} {j:Nat} (h:lJ n i=some j):seqIndex? i n=some j/\j < n/\-(n:Int)<=i/\i < n:=by
 unfold lJ at h
 by_cases h0:0<=i
 ·rw [if_pos h0] at h
  by_cases h1:i < n
  ·rw [if_pos h1] at h
   have e:i.toNat=j:=Option.some.inj h
   exact⟨by rw [seqIndex_of h0 h1,e],by omega,by omega,h1⟩
  ·rw [if_neg h1] at h;cases h
 ·rw [if_neg h0] at h
  by_cases h1:-(n:Int)<=i
  ·rw [if_pos h1] at h
   have e:(i+n).toNat=j:=Option.some.inj h
   exact⟨by rw [seqIndex_neg (by omega) h1,e],by omega,h1,by omega⟩
  ·rw [if_neg h1] at h;cases h
theorem nE {α : Type} {xs:List α} {i:Int} {v:α} (h:dY xs i=some v):∃ j,seqIndex? i xs.length=some j/\xs[j]? = some v/\j < xs.length/\-(xs.length:Int)<=i/\i < xs.length:=by
 unfold dY at h
 cases e:lJ xs.length i with
 | none=>rw [e] at h;cases h
 | some j =>
  rw [e] at h
  obtain⟨h1,h2,h3,h4⟩:=rW e
  exact⟨j,h1,h,h2,h3,h4⟩
theorem bp {α : Type} {xs:List α} {j:Nat} {v:α} (h:xs[j]? = some v):dY xs (j:Int)=some v:=by
 have hj:j < xs.length:=(List.getElem?_eq_some_iff.mp h).1
 have e:lJ xs.length (j:Int)=some j:=by
  unfold lJ
  rw [if_pos (by omega),if_pos (by omega)];simp
 unfold dY;rw [e];exact h
def yg (b:Expr):Prop:=∀ o i,subscripted b false o i=operate [o,i] (getItem o i)
def uM (X:Cx) (r:R2):Prop :=
 ∀ (value slice:Expr) (pins:List (Addr × Obj)) (s:Shared) (σ : St) (H:Hp) (x y:V) (v u:Value) (Q:VK),Inv X pins σ H s->RelV x v->RelV y u->r x y H Q ->
  subscripted slice false v u=operate [v,u] (getItem v u)->wpAny (model X.prog X.w) X.A (subscriptTail value slice v u) (EP X pins σ Q) X.xe s
def zo (X:Cx) (id:String) (r:V->List V->Hp->VK->Prop):Prop :=
 ∀ (pins:List (Addr × Obj)) (s:Shared) (σ : St) (H:Hp) (x:V) (xs:List V) (v:Value) (us:List Value) (Q:VK),Inv X pins σ H s->RelV x v->Vals xs us->r x xs H Q ->
  wpAny (model X.prog X.w) X.A (call (.builtin id) (v :: us)) (EP X pins σ Q) X.xe s
section
variable {X:Cx} {a b:Expr} {ta tb:TE} {pos:Pos}
theorem ay {r:R2} (hr:uM X r) (ha:PE X a ta) (hb:PE X b tb) (hs:yg b):PE X (.Subscript a b pos) (xE r ta tb):=by
 intro pins s σ H Q I h
 exact Subscript_ (vW ha hb I h fun v u s2 x y H2 I2 rx ry q=>hr a b pins s2 σ H2 x y v u Q I2 rx ry q (hs _ _))
def Bp (K:PySem.W.Frag):R2:=fun x y H Q=>∃ p xs i v,x=.ref p/\y=.int i/\aM K H p xs/\dY xs i=some v/\Q v H
def zp (K:PySem.W.Frag):R2:=fun x y H Q=>∃ p xs i v,x=.ref p/\y=.int i/\av K H p xs/\dY xs i=some v/\Q v H
def Bq:R2:=fun x y H Q=>∃ z i c,x=.str z/\y=.int i/\z.length<=sizeLine/\dY z.cps.toList i=some c/\Q (.str ⟨#[c]⟩) H
theorem bF:uM X (Bp X.K):=by
 intro value slice pins s σ H x y v u Q I rx ry h hs
 obtain⟨p,xs,i,z,rfl,rfl,hq,he,q⟩:=h
 cases rx
 obtain⟨t,rfl⟩:=ry
 obtain⟨its,r,pl,hz⟩:=I.list hq
 obtain⟨j,h1,h2,h3,h4,h5⟩:=nE he
 obtain⟨w,ew,rw'⟩:=r.get h2
 have hl:=r.length
 have hn:=jB
 have fin:EP X pins σ Q w s:=⟨z,H,I,rw',q⟩
 by_cases h0:0<=i
 ·have hj:i.toNat=j:=by
   rw [seqIndex_of h0 h5] at h1
   exact Option.some.inj h1
  exact item_listR pl.isList h0 (by omega) (by rw [hj];simpa using ew) fin hs
 ·have hj:(i+(its.toArray.size:Int)).toNat=j:=by
   rw [seqIndex_neg (by omega) h4] at h1
   rw [List.size_toArray,<-hl]
   exact Option.some.inj h1
  exact subscriptTail_builtinR (x:=w) pl.isList.typeIs slot_list_getitem.lookup
   (wpAny_getItem_list_neg (Q:=fun r s'=>r=w/\EP X pins σ Q r s') pl.isList (by omega) (by rw [List.size_toArray] <;> omega) (by omega) (by rw [hj];simpa using ew) ⟨rfl,fin⟩) hs
theorem aF:uM X (zp X.K):=by
 intro value slice pins s σ H x y v u Q I rx ry h hs
 obtain⟨p,xs,i,z,rfl,rfl,hq,he,q⟩:=h
 cases rx
 obtain⟨t,rfl⟩:=ry
 obtain⟨its,r,pl,hz⟩:=I.tuple hq
 obtain⟨j,h1,h2,h3,h4,h5⟩:=nE he
 obtain⟨w,ew,rw'⟩:=r.get h2
 have hl:=r.length
 have hn:=jB
 have fin:EP X pins σ Q w s:=⟨z,H,I,rw',q⟩
 exact subscriptTail_builtinR (x:=w) pl.typeIs slot_tuple_getitem.lookup
  (getItem_tuple (j:=j) (Q:=fun r s'=>r=w/\EP X pins σ Q r s') pl (by omega) (by omega) (by rw [List.size_toArray,<-hl];exact h1) (by simpa using ew) ⟨rfl,fin⟩) hs
theorem uN:uM X Bq:=by
  intro value slice pins s σ H x y v u Q I rx ry h hs
  obtain⟨z,i,c,rfl,rfl,hz,he,q⟩:=h
  obtain⟨t,rfl⟩:=rx
  obtain⟨t',rfl⟩:=ry
  obtain⟨j,h1,h2,h3,h4,h5⟩:=nE he
  have hl:z.cps.toList.length=z.length:=by simp [Str.length]
  rw [hl] at h1 h4 h5
  have hn:=jB
  exact tail_any (typeIs_str s z t) slot_str_getitem.lookup (getItem_str (c:=c) (by
    have e1:decide (i < -(2 ^ 63:Int))=false:=decide_eq_false (by omega)
    have e2:decide (i >= 2 ^ 63)=false:=decide_eq_false (by omega)
    rw [e1,e2,Bool.or_false]) (by rw [h1];simpa using h2) ⟨.str ⟨#[c]⟩,H,I.tok _,⟨_,rfl⟩,q⟩) hs
theorem tu (its:List Value) (n j:Nat) (u:Value):Obj.mapSeq (·.setIfInBounds j u) { cls:=.type "list",data:=.seq its.toArray n } = { cls:=.type "list",data:=.seq (its.set j u).toArray n }:=by
 simp [Obj.mapSeq]
theorem Inv.lst {pins:List (Addr × Obj)} {σ : St} {H:Hp} {s:Shared} {p:Addr} {xs:List V} (I:Inv X pins σ H s) (h:H p=some (.lst xs)) :
  ∃ (its:List Value) (n:Nat),Vals xs its/\s.heap.get? p=some { cls:=.type "list",data:=.seq its.toArray n }/\xs.length<=sizeLine:=by
 obtain⟨z,its,n,r,e⟩:=I.aP p _ h
 exact⟨its,n,r,e,z⟩
theorem Inv.zq {pins:List (Addr × Obj)} {σ : St} {H:Hp} {s:Shared} {p:Addr} {xs ys:List V} {its its':List Value} {n n':Nat} {f:Obj->Obj} (I:Inv X pins σ H s) (h:H p=some (.lst xs))
  (ho:s.heap.get? p=some { cls:=.type "list",data:=.seq its.toArray n }) (hf:f { cls:=.type "list",data:=.seq its.toArray n } = { cls:=.type "list",data:=.seq its'.toArray n' }) (r:Vals ys its') (hz:ys.length<=sizeLine) (t:Nat) :
  Inv X pins σ (upd H p (.lst ys)) { s with heap:=s.heap.update p f,toks:=t }:=by
 have e:(s.heap.update p f).get? p=some { cls:=.type "list",data:=.seq its'.toArray n' }:=by
  rw [Heap.get?_update_self f ho (by rw [hf] <;> rfl),hf]
 refine I.write (x:=p) (e:=p) (by rw [h];trivial) (.inl rfl) (fun b u hb q=>(Heap.get?_update_other _ _ (Ne.symm hb)).trans q) ⟨_,e⟩ ?_
 exact⟨hz,its',n',r,e⟩
def Ar:V->V->V->Hp->(Hp->Prop)->Prop:=fun o i v H Q=>∃ p xs k j,o=.ref p/\i=.int k/\H p=some (.lst xs)/\lJ xs.length k=some j/\Q (upd H p (.lst (xs.set j v)))
theorem set_list:y9 X Ar:=by
 intro pins s σ H o i v ov iv u Q I ro ri rv h
 obtain⟨p,xs,k,j,rfl,rfl,hp,hj,q⟩:=h
 cases ro
 obtain⟨t,rfl⟩:=ri
 obtain⟨its,n,r,ho,hz⟩:=I.lst hp
 obtain⟨h1,h2,h3,h4⟩:=rW hj
 have hl:=r.length
 have hn:=jB
 have I':Inv X pins σ (upd H p (.lst (xs.set j v))) { s with heap:=s.heap.update p (Obj.mapSeq (·.setIfInBounds j u)) } :=
  I.zq hp ho (tu its n j u) (r.set rv j) (by rw [List.length_set];exact hz) s.toks
 by_cases h0:0<=k
 ·have hk:k.toNat=j:=by
   rw [seqIndex_of h0 h4] at h1
   exact Option.some.inj h1
  exact PySem.W.ki_setAt ho h0 (by omega) (by rw [List.size_toArray,<-hl];exact h4) (by rw [hk];exact⟨_,I',q⟩)
 ·have hk:(k+(its.toArray.size:Int)).toNat=j:=by
   rw [seqIndex_neg (by omega) h3] at h1
   rw [List.size_toArray,<-hl]
   exact Option.some.inj h1
  exact PySem.W.ki_setBack ho (by omega) (by rw [List.size_toArray,<-hl];exact h3) (by omega) (by rw [hk];exact⟨_,I',q⟩)
def iB:V->Bool
 | .bx=>true
 | .bl _=>true
 | .int _=>true
 | .str _=>true
 | _=>false
def oA:V->V->Bool
 | .bx,.bx=>true
 | .bl a,.bl b=>a == b
 | .bl a,.int b=>(if a then 1 else 0) == b
 | .int a,.bl b=>a == (if b then 1 else 0)
 | .int a,.int b=>a == b
 | .str a,.str b=>a == b
 | _,_=>false
theorem zr {A:Around} {s:Shared} {y x:V} {u v:Value} (ry:RelV y u) (rx:RelV x v) (fy:iB y=true) (fx:iB x=true):SeqAt.EqAt A s u v (oA y x):=by
 cases y with
 | bx =>
  cases ry
  cases x with
  | bx=>cases rx;exact SeqAt.EqAt.same _
  | bl b=>cases rx;exact SeqAt.EqAt.none_bool b
  | int b=>obtain⟨t,rfl⟩:=rx;exact SeqAt.EqAt.none_int b t
  | str b=>obtain⟨t,rfl⟩:=rx;exact SeqAt.EqAt.none_str b t
  | _=>exact absurd (show false=true from fx) Bool.false_ne_true
 | bl a =>
  cases ry
  cases x with
  | bx=>cases rx;exact SeqAt.EqAt.bool_none a
  | bl b=>cases rx;exact SeqAt.EqAt.bool_bool a b
  | int b=>obtain⟨t,rfl⟩:=rx;exact SeqAt.EqAt.bool_int a b t
  | str b=>obtain⟨t,rfl⟩:=rx;exact SeqAt.EqAt.bool_str a b t
  | _=>exact absurd (show false=true from fx) Bool.false_ne_true
 | int a =>
  obtain⟨t',rfl⟩:=ry
  cases x with
  | bx=>cases rx;exact SeqAt.EqAt.int_none a t'
  | bl b=>cases rx;exact SeqAt.EqAt.int_bool a t' b
  | int b=>obtain⟨t,rfl⟩:=rx;exact SeqAt.EqAt.int_int a t' b t
  | str b=>obtain⟨t,rfl⟩:=rx;exact SeqAt.EqAt.int_str a t' b t
  | _=>exact absurd (show false=true from fx) Bool.false_ne_true
 | str a =>
  obtain⟨t',rfl⟩:=ry
  cases x with
  | bx=>cases rx;exact SeqAt.EqAt.str_none a t'
  | bl b=>cases rx;exact SeqAt.EqAt.str_bool a t' b
  | int b=>obtain⟨t,rfl⟩:=rx;exact SeqAt.EqAt.str_int a t' b t
  | str b=>obtain⟨t,rfl⟩:=rx;exact SeqAt.EqAt.str_str a t' b t
  | _=>exact absurd (show false=true from fx) Bool.false_ne_true
 | _=>exact absurd (show false=true from fy) Bool.false_ne_true
def iV (x:V) (u:Value):Bool:=match u with
 | .none=>oA .bx x
 | .bool b=>oA (.bl b) x
 | .int i _=>oA (.int i) x
 | .str z _=>oA (.str z) x
 | _=>false
theorem uO {x y:V} {u:Value} (r:RelV y u) (f:iB y=true):iV x u=oA y x:=by
 cases y with
 | bx=>cases r;rfl
 | bl b=>cases r;rfl
 | int i=>obtain⟨t,rfl⟩:=r;rfl
 | str z=>obtain⟨t,rfl⟩:=r;rfl
 | _=>exact absurd (show false=true from f) Bool.false_ne_true
theorem jC {x:V}:∀ {xs:List V} {us:List Value},Vals xs us->xs.all iB=true->us.any (iV x)=xs.any fun y=>oA y x
 | _,_,.nil,_=>rfl
 | y :: xs,u :: us,.cons r t,f=>by
  rw [List.all_cons,Bool.and_eq_true] at f
  rw [List.any_cons,List.any_cons,uO r f.1,jC t f.2]
theorem iW {A:Around} {s:Shared} {x:V} {v:Value} (rx:RelV x v) (fx:iB x=true):∀ {xs:List V} {us:List Value},Vals xs us->xs.all iB=true->∀ u ∈ us,SeqAt.EqAt A s u v (iV x u)
 | _,_,.nil,_=>fun u hu=>by cases hu
 | y :: xs,u :: us,.cons r t,f=>fun u' hu=>by
  rw [List.all_cons,Bool.and_eq_true] at f
  rcases List.mem_cons.mp hu with rfl | hu
  ·rw [uO r f.1];exact zr r rx f.1 fx
  ·exact iW rx fx t f.2 u' hu
def AJ (x:V) (xs:List V):Bool:=xs.any fun y=>oA y x
def AK (K:PySem.W.Frag) (neg:Bool):R2:=fun x y H Q=>∃ p xs,y=.ref p/\(aM K H p xs\/av K H p xs)/\iB x=true/\xs.all iB=true/\Q (.bl (if neg then !AJ x xs else AJ x xs)) H
theorem kq:fo X (compareOp .In) (AK X.K false):=by
 intro pins s σ H x y v u Q I rx ry h
 obtain⟨p,xs,rfl,hq,fx,fs,q⟩:=h
 cases ry
 rcases hq with hq | hq
 ·obtain⟨its,r,pl,hz⟩:=I.list hq
  refine SeqAt.in_listAt (iV x) pl.isList (fun w hw=>iW rx fx r fs w (by simpa using hw)) ⟨.bl _,H,I,rfl,?_⟩
  rw [show its.toArray.any (iV x)=its.any (iV x) by simp,jC r fs]
  exact q
 ·obtain⟨its,r,pl,hz⟩:=I.tuple hq
  refine SeqAt.in_tupleAt (iV x) pl (fun w hw=>iW rx fx r fs w (by simpa using hw)) ⟨.bl _,H,I,rfl,?_⟩
  rw [show its.toArray.any (iV x)=its.any (iV x) by simp,jC r fs]
  exact q
theorem pN:fo X (compareOp .NotIn) (AK X.K true):=by
 intro pins s σ H x y v u Q I rx ry h
 obtain⟨p,xs,rfl,hq,fx,fs,q⟩:=h
 cases ry
 rcases hq with hq | hq
 ·obtain⟨its,r,pl,hz⟩:=I.list hq
  refine SeqAt.notIn_listAt (iV x) pl.isList (fun w hw=>iW rx fx r fs w (by simpa using hw)) ⟨.bl _,H,I,rfl,?_⟩
  rw [show its.toArray.any (iV x)=its.any (iV x) by simp,jC r fs]
  exact q
 ·obtain⟨its,r,pl,hz⟩:=I.tuple hq
  refine SeqAt.notIn_tupleAt (iV x) pl (fun w hw=>iW rx fx r fs w (by simpa using hw)) ⟨.bl _,H,I,rfl,?_⟩
  rw [show its.toArray.any (iV x)=its.any (iV x) by simp,jC r fs]
  exact q
theorem bB:fZ X (.builtin "len") (fun xs H Q=>∃ p ys,xs = [.ref p]/\(aM X.K H p ys\/av X.K H p ys)/\Q (.int ys.length) H):=by
 intro pins s σ H xs us Q I r h
 obtain⟨p,ys,rfl,hq,q⟩:=h
 obtain⟨u,rfl,rx⟩:=vals1 r
 cases rx
 have hn:=jB
 rcases hq with hq | hq
 ·obtain⟨its,r',pl,hz⟩:=I.list hq
  have hlen:=r'.length
  exact Calls.call_len_list pl.isList (by simp only [List.size_toArray] <;> omega) ⟨.int ys.length,H,I.tok _,⟨s.toks+1,by rw [List.size_toArray,hlen]⟩,q⟩
 ·obtain⟨its,r',pl,hz⟩:=I.tuple hq
  have hlen:=r'.length
  exact len_tuple pl (by simp only [List.size_toArray] <;> omega) ⟨.int ys.length,H,I.tok _,⟨s.toks+1,by rw [List.size_toArray,hlen]⟩,q⟩
theorem kr:fZ X (.type "list") (fun xs H Q=>∃ p ys,xs = [.ref p]/\(aM X.K H p ys\/av X.K H p ys)/\∀ l,H l=none->Q (.ref l) (upd H l (.lst ys))):=by
 intro pins s σ H xs us Q I r h
 obtain⟨p,ys,rfl,hq,q⟩:=h
 obtain⟨u,rfl,rx⟩:=vals1 r
 cases rx
 have fin:∀ (its:List Value),Vals ys its->ys.length<=sizeLine->∀ (h':Heap) (c':Nat),(∀ b o',s.heap.get? b=some o'->h'.get? b=some o') ->
   h'.get? s.heap.objs.size=some { cls:=.type "list",dict:=none,data:=.seq its.toArray c',slots:=#[] }->EP X pins σ Q (.ref s.heap.objs.size) { s with heap:=h' }:=fun its r' hz h' c' kp e =>
  ⟨.ref s.heap.objs.size,_,I.laid (t':=s.toks) kp (Nat.le_refl _) (show bV X.prog X.w _ h' _ (.lst ys) from ⟨hz,its,c',r',e⟩),rfl,q _ (I.aP.fresh (Nat.le_refl _))⟩
 rcases hq with hq | hq
 ·obtain⟨its,r',pl,hz⟩:=I.list hq
  have hlen:=r'.length
  obtain⟨o,ho,hc,n,hd⟩:=pl.isList
  exact call_list_seq p (.inl rfl) ho hc hd (fun h' c' kp e=>fin its r' hz h' c' kp e) (by simp only [List.size_toArray] <;> omega)
 ·obtain⟨its,r',pl,hz⟩:=I.tuple hq
  have hlen:=r'.length
  obtain⟨o,ho,hc,n,hd⟩:=pl
  exact call_list_seq p (.inr rfl) ho hc hd (fun h' c' kp e=>fin its r' hz h' c' kp e) (by simp only [List.size_toArray] <;> omega)
theorem cc:fZ X (.type "tuple") (fun xs H Q=>∃ p ys,xs = [.ref p]/\((aM X.K H p ys/\∀ l,H l=none->Q (.ref l) (upd H l (.tup ys)))\/(av X.K H p ys/\Q (.ref p) H))):=by
 intro pins s σ H xs us Q I r h
 obtain⟨p,ys,rfl,h⟩:=h
 obtain⟨u,rfl,rx⟩:=vals1 r
 cases rx
 rcases h with ⟨hq,q⟩ | ⟨hq,q⟩
 ·obtain⟨its,r',pl,hz⟩:=I.list hq
  have hlen:=r'.length
  refine call_tuple_list pl.isList (fun h' kp=>?_) (by simp only [List.size_toArray] <;> omega)
  have I1:Inv X pins σ H { s with heap:=h' }:=I.kept (t':=s.toks) kp
  have I2:Inv X pins σ (upd H h'.objs.size (.tup ys)) { s with heap:=h'.push { cls:=.type "tuple",data:=.seq its.toArray } } :=
   I1.laid (t':=s.toks) (fun b o e=>Heap.get?_push_of_some _ e) (Nat.le_refl _) (show bV X.prog X.w _ _ _ (.tup ys) from ⟨hz,its,r',⟨_,Heap.get?_push_size _ rfl,rfl,_,rfl,rfl⟩⟩)
  exact⟨.ref h'.objs.size,_,I2,rfl,q _ (I1.aP.fresh (Nat.le_refl _))⟩
 ·obtain⟨its,r',pl,hz⟩:=I.tuple hq
  exact call_tuple_same pl ⟨.ref p,H,I,rfl,q⟩
def zt (K:PySem.W.Frag) (T:String) (x:V) (H:Hp):Prop:=match x with
 | .str _=>T = "str"
 | .int _=>T = "int"
 | .ref p=>(T = "list" /\ ∃ xs,aM K H p xs)\/(T = "tuple" /\ ∃ o,K.lookup p=some o/\o.cls=.type "tuple" /\ o.dict=none) \/
   (T = "dict" /\ ((∃ kvs,H p=some (.dK kvs))\/∃ kvs,H p=some (.dT kvs)))\/(T = "set" /\ ∃ S n,H p=some (.set S n))
 | _=>False
theorem uP {pins:List (Addr × Obj)} {σ : St} {H:Hp} {s:Shared} {T:String} {x:V} {v:Value} (I:Inv X pins σ H s) (r:RelV x v) (ty:zt X.K T x H) :
  s.TypeIs v T/\∀ a,v=.ref a->∃ ob,s.heap.get? a=some ob/\ob.dict=none:=by
 cases x with
 | str z =>
  obtain⟨t,rfl⟩:=r
  cases (show T = "str" from ty)
  exact⟨typeIs_str s z t,fun _ e=>nomatch e⟩
 | int i =>
  obtain⟨t,rfl⟩:=r
  cases (show T = "int" from ty)
  exact⟨typeIs_int s i t,fun _ e=>nomatch e⟩
 | ref p =>
  cases r
  rcases ty with ⟨rfl,xs,hq⟩ | ⟨rfl,o,hk,hc,hd⟩ | ⟨rfl,hk⟩ | ⟨rfl,S,n,hk⟩
  ·obtain⟨its,_,pl,_⟩:=I.list hq
   refine⟨pl.isList.typeIs,fun a e=>?_⟩
   cases e
   obtain⟨o,n,e,c,hd,_⟩:=pl
   exact⟨o,e,hd⟩
  ·refine⟨⟨o,I.iN p o hk,hc⟩,fun a e=>?_⟩
   cases e
   exact⟨o,I.iN _ o hk,hd⟩
  ·have z:∃ o,s.heap.get? p=some o/\o.ExactDict:=by
    rcases hk with ⟨kvs,hk⟩ | ⟨kvs,hk⟩
    ·obtain⟨_,_,_,_,o,_,_,e,ex,_⟩:=I.aP p _ hk
     exact⟨o,e,ex⟩
    ·obtain⟨_,_,_,_,o,_,_,e,ex,_⟩:=I.aP p _ hk
     exact⟨o,e,ex⟩
   obtain⟨o,e,ex⟩:=z
   refine⟨⟨o,e,ex.1⟩,fun a e2=>?_⟩
   cases e2
   exact⟨o,e,ex.2.1⟩
  ·obtain⟨o,_,_,_,e,ex,_⟩:=I.aP p _ hk
   refine⟨⟨o,e,ex.1⟩,fun a e2=>?_⟩
   cases e2
   exact⟨o,e,ex.2.1⟩
 | _=>exact False.elim ty
def Br (K:PySem.W.Frag) (T:String) (r:V->List V->Hp->VK->Prop) (to:TE):TE:=fun σ H Q=>to σ H fun x H1=>zt K T x H1/\r x [] H1 Q
def BK (K:PySem.W.Frag) (T:String) (r:V->List V->Hp->VK->Prop) (to:TE) (t:TA):TE:=fun σ H Q=>to σ H fun x H1=>zt K T x H1/\t σ H1 fun xs H2=>r x xs H2 Q
variable {o e:Expr} {es:List Expr} {to:TE} {t:TA} {name:Str} {apos cpos:Pos} {T id:String} {r:V->List V->Hp->VK->Prop}
theorem zu (pa:PlainAttrs T) (slot:Slot T name id) (hty:typeOf (.builtin id)=pure (.type "method_descriptor")) (hm:zo X id r) (ho:PE X o to)
  (hbase:attributeBase o name X.env (eval o X.env)=eval o X.env:=by rfl) (hline:(apos.endLine == cpos.line)=true:=by rfl):PE X (.Call (.Attribute o name apos) [] [] cpos) (Br X.K T r to):=by
 intro pins s σ H Q I h
 refine wpAny_Call_method0_late hbase hline (aU (ho pins s σ H _ I h) fun v s1 ⟨x,H1,I1,r1,ty,q1⟩=>?_)
 obtain⟨h1,h2⟩:=uP I1 r1 ty
 exact⟨T,id,pa,slot,hty,h1,h2,Calls.callWith_builtin rfl (PySem.evalArgs_none (hm pins s1 σ H1 x [] v [] Q I1 r1 .nil q1))⟩
theorem eS (pa:PlainAttrs T) (slot:Slot T name id) (hty:typeOf (.builtin id)=pure (.type "method_descriptor")) (hm:zo X id r) (ho:PE X o to) (ha:PA X (e :: es) t)
  (hbase:attributeBase o name X.env (eval o X.env)=eval o X.env:=by rfl)
  (hfew:((backTo cpos (starEach (e :: es) X.env)).all (fun x=>!x.1) && (backToKw cpos (keywordEach [] X.env)).all (fun x=>x.1.isSome)
   && decide ((e :: es).length+([]:List Keyword).length+(if ([]:List Keyword).isEmpty then 0 else 1) < 30))=true:=by rfl)
  (hline:(apos.endLine == cpos.line)=true:=by rfl) (hs:starEach (e :: es) X.env=(false,eval e X.env) :: starEach es X.env:=by rfl) (hplain:(backTo cpos (starEach es X.env)).any (·.1)=false:=by rfl) :
  PE X (.Call (.Attribute o name apos) (e :: es) [] cpos) (BK X.K T r to t):=by
 intro pins s σ H Q I h
 refine wpAny_Call_method_late hbase hfew hline rfl (aU (ho pins s σ H _ I h) fun v s1 ⟨x,H1,I1,r1,ty,q1⟩=>?_)
 obtain⟨h1,h2⟩:=uP I1 r1 ty
 refine⟨T,id,pa,slot,hty,h1,h2,?_⟩
 have hA:=ha cpos pins s1 σ H1 _ I1 q1
 rw [hs] at hA ⊢
 refine Calls.callWith_builtin (by show (false || (backTo cpos (starEach es X.env)).any (·.1))=false;rw [hplain] <;> rfl) (Calls.evalArgs_plain ?_)
 exact aU hA fun us s2 ⟨vs,H2,I2,r2,q2⟩=>hm pins s2 σ H2 x vs v us Q I2 r1 r2 q2
end
def pO (X:Cx) (id:String) (r:V->List V->Hp->VK->Prop):Prop :=
 ∀ (pins:List (Addr × Obj)) (s:Shared) (σ : St) (H:Hp) (x:V) (xs:List V) (v:Value) (us:List Value) (Q:VK),Inv X pins σ H s->RelV x v->Vals xs us->r x xs H Q ->
  wpAny (model X.prog X.w) X.A (call (.builtin id) (v :: us)) (EP X pins σ Q) X.xe s
theorem Vals.one:∀ {x:V} {us:List Value},Vals [x] us->∃ u,us = [u]/\RelV x u
 | _,_,.cons r .nil=>⟨_,rfl,r⟩
theorem Vals.zero:∀ {us:List Value},Vals [] us->us = []
 | _,.nil=>rfl
theorem Vals.dropLast {xs:List V} {us:List Value} (h:Vals xs us):Vals xs.dropLast us.dropLast:=by
 induction h with
 | nil=>exact .nil
 | cons r t ih =>
  cases t with
  | nil=>exact .nil
  | cons q t'=>exact .cons r ih
theorem tw {α : Type} (l:List α):l.eraseIdx (l.length - 1)=l.dropLast:=by
 induction l with
 | nil=>rfl
 | cons a r ih =>
  cases r with
  | nil=>rfl
  | cons b r =>
   have e:(a :: b :: r).length - 1=((b :: r).length - 1)+1:=by
    have h1:(a :: b :: r).length=r.length+2:=rfl
    have h2:(b :: r).length=r.length+1:=rfl
    omega
   rw [e,List.eraseIdx_cons_succ,ih]
   all_goals rfl
section
variable {X:Cx} {pins:List (Addr × Obj)} {σ : St} {H:Hp} {s:Shared} {l b:Addr} {xs ys zs:List V}
theorem Inv.tD {its its':List Value} {n:Nat} {f:Array Value->Array Value} {t':Nat} (I:Inv X pins σ H s) (hH:H l=some (.lst xs))
  (e:s.heap.get? l=some { cls:=.type "list",data:=.seq its.toArray n }) (hf:f its.toArray=its'.toArray) (hv:Vals ys its') (hz:ys.length<=sizeLine) :
  Inv X pins σ (upd H l (.lst ys)) { s with heap:=s.heap.update l (Obj.mapSeq f),toks:=t' }:=by
 have q:=PySem.IsL.update e f
 rw [hf] at q
 refine I.write (x:=l) (e:=l) (by rw [hH];exact trivial) (.inl rfl) (fun b' u hb hu=>(Heap.get?_update_other s.heap (Obj.mapSeq f) (Ne.symm hb)).trans hu) ⟨_,q⟩ ?_
 exact⟨hz,its',_,hv,q⟩
theorem Inv.fresh (I:Inv X pins σ H s):H s.heap.objs.size=none:=I.aP.fresh (Nat.le_refl _)
theorem Inv.pP (I:Inv X pins σ H s) (hH:H l=some (.lst xs)):xs.length<=sizeLine/\∃ (its:List Value) (n:Nat),Vals xs its/\xs.length=its.length/\s.heap.get? l=some { cls:=.type "list",data:=.seq its.toArray n }:=by
 obtain⟨z,its,n,r,e⟩:=I.aP l _ hH
 exact⟨z,its,n,r,r.length,e⟩
theorem pQ {n:Nat} (h:n<=sizeLine):Builtin.List.listTooLong n=false:=by
 unfold Builtin.List.listTooLong
 exact decide_eq_false (by omega)
end
section
variable {X:Cx}
def yh:V->List V->Hp->VK->Prop:=fun x vs H Q=>∃ l xs y,x=.ref l/\vs = [y]/\H l=some (.lst xs)/\xs.length < sizeLine/\Q .bx (upd H l (.lst (xs ++ [y])))
theorem cA:pO X "list.append" yh:=by
 intro pins s σ H x vs v us Q I rx rv h
 obtain⟨l,xs,y,rfl,rfl,hH,hz,q⟩:=h
 cases rx
 obtain⟨u,rfl,ru⟩:=rv.one
 obtain⟨z,its,n,r,hl,e⟩:=I.pP hH
 refine call_meets F.slot_list_append ⟨_,e,rfl⟩ F.entry_list_append (F.args_list_append_2 _ _) (PySem.list_append l its.toArray n u (by rw [List.size_toArray];omega)) ⟨e,?_⟩
 refine⟨.bx,_,I.tD (its':=its ++ [u]) hH e (by simp) (r.append (.cons ru .nil)) ?_,rfl,q⟩
 rw [List.length_append,List.length_singleton]
 omega
def yi:V->List V->Hp->VK->Prop:=fun x vs H Q=>∃ l b xs zs,x=.ref l/\vs = [.ref b]/\H l=some (.lst xs)/\H b=some (.lst zs)/\xs.length+zs.length<=sizeLine/\Q .bx (upd H l (.lst (xs++zs)))
theorem uQ:pO X "list.extend" yi:=by
 intro pins s σ H x vs v us Q I rx rv h
 obtain⟨l,b,xs,zs,rfl,rfl,hH,hB,hz,q⟩:=h
 cases rx
 obtain⟨u,rfl,ru⟩:=rv.one
 cases ru
 obtain⟨z,its,n,r,hl,e⟩:=I.pP hH
 obtain⟨z2,its2,n2,r2,hl2,e2⟩:=I.pP hB
 have hsz:its.toArray.size+its2.toArray.size<=sizeLine:=by rw [List.size_toArray,List.size_toArray];omega
 have hlong:¬ (!its.toArray.isEmpty && Builtin.List.listTooLong (its.toArray.size+its2.toArray.size))=true:=by
  rw [pQ hsz,Bool.and_false]
  exact Bool.false_ne_true
 refine call_meets F.slot_list_extend ⟨_,e,rfl⟩ F.entry_list_extend (F.args_list_extend_2 _ _)
  (AutoSeq1.list_extend_list_list_0 l its.toArray n b its2.toArray n2 hlong (by rw [List.size_toArray];omega) (by omega)) ⟨e,e2,?_⟩
 refine⟨.bx,_,I.tD (its':=its++its2) hH e (by simp) (r.append r2) ?_,rfl,q⟩
 rw [List.length_append]
 omega
def Bs:V->List V->Hp->VK->Prop:=fun x vs H Q=>∃ l xs y,x=.ref l/\vs = []/\H l=some (.lst xs)/\xs[xs.length - 1]? = some y/\Q y (upd H l (.lst xs.dropLast))
theorem zw:pO X "list.pop" Bs:=by
 intro pins s σ H x vs v us Q I rx rv h
 obtain⟨l,xs,y,rfl,rfl,hH,hy,q⟩:=h
 cases rx
 have hus:=rv.zero
 subst hus
 obtain⟨z,its,n,r,hl,e⟩:=I.pP hH
 obtain⟨u,hu,ru⟩:=r.get hy
 have hy':its.toArray[its.toArray.size - 1]? = some u:=by
  show its.toArray[its.length - 1]? = some u
  rw [<-Array.getElem?_toList,<-hl]
  exact hu
 refine call_meets F.slot_list_pop ⟨_,e,rfl⟩ F.entry_list_pop (F.args_list_pop_1 _) (MeetsSeq.list_pop_last l its.toArray n u hy' (by rw [List.size_toArray];omega)) ⟨e,?_⟩
 refine⟨y,_,I.tD (its':=its.dropLast) hH e ?_ r.dropLast ?_,ru,q⟩
 ·show its.toArray.eraseIdxIfInBounds (its.toArray.size - 1)=its.dropLast.toArray
  rw [List.size_toArray,List.eraseIdxIfInBounds_toArray,tw]
 ·rw [List.length_dropLast]
  omega
end
section
variable {prog:Program} {w:World} {A:Around} {E:Value->Shared->Prop} {s:Shared}
end
section
variable {X:Cx}
end
end L2
namespace AL
open PySem PySem.W PySem.Calls PyProof.Rows
theorem mS {P:Params} {h:Heap}:∀ (ns:List Int) (vs:List Value),WellAll P h vs (ns.map WData.int)->IntsAre vs ns:=by
 intro ns
 induction ns with
 | nil =>
  intro vs w
  rw [List.map_nil] at w
  cases w
  exact .nil
 | cons n ns ih =>
  intro vs w
  rw [List.map_cons] at w
  cases w with
  | cons a b =>
   cases a
   exact .cons _ _ (ih _ b)
theorem uR {l:OpenLaw} {n:Nat} (hn:l.most=some n) {P:Params} {h:Heap} {args:List WData} {vals:List Value}
  (hpre:l.row.toRowW.claim.pre args=true) (hwl:WellAll P h vals args) :
  ∃ a vs ns,vals = [Value.ref a]/\args = [WData.list (ns.map WData.int)]/\h.get? a=some { cls:=.type "list",data:=.seq vs.toArray }/\IntsAre vs ns/\ns.length<=n:=by
 have hsh:WShape.hasAll [] args [.list .int] = true:=(pre_splitW hpre).1
 have hc:l.pre.holds [] { args:=args }=true:=(pre_splitW hpre).2
 obtain⟨d,r,rfl,h1,h2⟩:=hasAllW_cons hsh
 obtain rfl:=hasAllW_nil h2
 obtain⟨xs,rfl,h3⟩:=hasW_list h1
 obtain⟨ns,rfl⟩:=items_int h3
 have hlen:ns.length<=n:=by
  unfold OpenLaw.pre at hc
  have h4:(WTm.not (.lt (.lit (.int (n:Int))) (.len (.arg 0)))).holds [] { args:=[.list (ns.map .int)] }=true:=by
   have h4:=(holds_andW hc).1
   rw [hn] at h4
   exact h4
  have h5:=condW_of h4 (w_not (w_lt w_lit (w_len_list (w_arg rfl))))
  rw [List.length_map] at h5
  refine Nat.le_of_not_lt fun q=>?_
  have q':(n:Int) < ((ns.length:Nat):Int):=by omega
  first
   | (rw [decide_eq_true q'] at h5;exact absurd h5 (by decide))
   | (simp at h5;omega)
 cases hwl with
 | cons w1 w2 =>
  cases w2
  cases w1 with
  | list ho hall=>exact⟨_,_,ns,rfl,rfl,ho,mS ns _ hall,hlen⟩
theorem uS (l:OpenLaw) (args:List WData):l.row.toRowW.claim.post args (.bool true) args=true :=
 postW_of (r:=l.row.toRowW) (X:=(true == true))
  (show WShape.has [] (.bool true) .bool=true by first | rfl | decide | simp [WShape.has,WShape.arms,WShape.armsAll])
  (show (WTm.eq .res (.lit (.bool true))).value [] { args:=args,res:=some (.bool true),after:=args }=some (.bool (true == true)) from w_eq_bool (w_res rfl) w_lit) rfl
theorem rl {l:OpenLaw} {n:Nat} {q:Program} {loose:List Str} {XP:(Str->Option Value)->Heap->Prop} {YP:World->Heap->Prop} {d:DefRec}
  (hn:l.most=some n) (hdf:d.params.defaults = [])
  (call:∀ (w:World) (dg s₁ : Shared) (mg mb:Str->Option Value) (fa:Addr) (o:Obj) (pm cd doc:Value) (a:Addr) (vs:List Value) (ns:List Int),
   Ground q loose [] XP w dg mg mb s₁.heap->YP w s₁.heap ->
   s₁.heap.get? fa=some o->o.data=.func (docDef d.name d.params d.body d.scope pm cd doc)->s₁.heap.CodeRec cd d.name->mg d.name=some (.ref fa) ->
   s₁.heap.get? a=some { cls:=.type "list",data:=.seq vs.toArray }->IntsAre vs ns->ns.length<=n->s₁.gens = #[] ->
   codeAny (model l.prog w) callerA (.call (.ref fa) ⟨[.ref a],[]⟩) (fun r s'=>r=.ok (.ret (.bool true))/\OldK s₁.heap s'.heap/\s'.os=s₁.os/\AllBare s'.gens) s₁) :
  WalkO q loose XP YP l.row.toRowW d [] (fun f vs=>PySem.call f vs):=by
 intro w dg s₁ mg mb G Y fa o pm cd doc dV kV ho hd hcd hD hmg hg args vals as hpre hlay hrd hwl hlo
 obtain rfl:dV=.none:=Dflts.none hD hdf
 obtain rfl:kV=.none:=Dflts.noKw hD
 obtain⟨a,vs,ns,rfl,rfl,hobj,hints,hlen⟩:=uR hn hpre hwl
 refine enter_call (codeAny_mono (call w dg s₁ mg mb fa o pm cd doc a vs ns G Y ho (fd_plain hd) hcd hmg hobj hints hlen hg) fun r s' hq=>?_)
 obtain⟨rfl,h2,h3,h4⟩:=hq
 exact⟨.inl ⟨.bool true,.bool true,[],rfl,fun _=>rfl,.bool true,uS l _,fun _=>⟨List.Pairwise.nil,fun _ hm=>(nomatch hm)⟩⟩,h2,h3,h4⟩
section
variable {prog:Program} {w:World} {A:Around} {E:Value->Shared->Prop} {s:Shared} {K:Frag}
def ledger (h:Heap) (L d:Addr):List (Addr × Obj):=(List.range h.objs.size).filterMap fun a=>if a=L\/a=d then none else (h.get? a).map fun o=>(a,o)
end
end AL
namespace L2
open PySem PySem.Spec PyProof.Rows
theorem oB:∀ {vs:List Value} {ns:List Int},IntsAre vs ns->Vals (ns.map V.int) vs
 | _,_,.nil=>.nil
 | _,_,.cons n t h=>.cons ⟨t,rfl⟩ (oB h)
def wm (H:Hp):Prop:=∀ b,H b=none\/∃ o xs,H b=some (.eW o (.lst xs))
theorem wo {P:Program} {w:World} {K:PySem.W.Frag} {mg mb:Str->Option Value} {CX:ko} {k:Nat} {fa a:Addr} {fd:FuncData} {x:Str} {sp:Sp} {s₁ : Shared} {vs:List Value} {ns:List Int}
    (KX:K.In s₁.heap) (hns:s₁.heap.Ns mainGlobals mg) (hb:s₁.heap.Ns builtinsNs mb) (hbb:∀ x:Str,x ≠ "__name__" -> mb x=bootBuiltins x) (hlim:s₁.heap.NoLimit) (hg:s₁.gens = #[])
    (ha:s₁.heap.get? a=some { cls:=.type "list",data:=.seq vs.toArray }) (hi:IntsAre vs ns) (hl:ns.length<=sizeLine) (hr:cE k callerA)
    (F:∀ base:Heap,K.In base->base.Ns mainGlobals mg->bg P w K mg base CX k fa fd [x] sp) (hbind:∀ (s:Shared) (u:Value),BindsTo s fd ⟨[u],[]⟩ [(x,u)])
    (hsp:∀ H:Hp,wm H->aM K H a (ns.map V.int)->sp [.ref a] H (fun v _=>v=.bl true) fun _ _ _=>False)
    (hCX:∀ H e s',CX [] H s₁ (fun _ _ _=>False) e s'->False) :
    codeAny (model P w) callerA (.call (.ref fa) ⟨[.ref a],[]⟩) (fun r s'=>r=.ok (.ret (.bool true))/\OldK s₁.heap s'.heap/\s'.os=s₁.os/\AllBare s'.gens) s₁:=by
  have rv:=oB hi
  have lenV:=hi.length
  have core:∀ H:Hp,wm H->aM K H a (ns.map V.int)->dm P w H s₁.heap->(∀ b,H b ≠ none->b=a)->(H a ≠ none->K.lookup a=none) ->
      codeAny (model P w) callerA (.call (.ref fa) ⟨[.ref a],[]⟩) (fun r s'=>r=.ok (.ret (.bool true))/\OldK s₁.heap s'.heap/\s'.os=s₁.os/\AllBare s'.gens) s₁:=by
    intro H hO hS aP hA hK
    have base_of:∀ {b:Addr} {o:Obj},s₁.heap.get? b=some o->H b=none->(jO s₁.heap H).get? b=some o:=fun e n=>vR e n
    have noA:∀ {b:Addr} {o:Obj} {es:Array DictEntry} {ep:Nat},s₁.heap.get? b=some o->o.data=.dict es ep->H b=none:=fun {b o es ep} e d=>by
      cases q:H b with
      | none=>rfl
      | some u =>
        have e':b=a:=hA b (by rw [q];simp)
        subst e'
        rw [ha] at e;cases e
        have d':Data.seq vs.toArray _=Data.dict es ep:=d
        cases d'
    have nsK:∀ {b:Addr} {m:Str->Option Value},s₁.heap.Ns b m->(jO s₁.heap H).Ns b m:=fun {b m} ⟨o,es,ep,e,d,r⟩=>⟨o,es,ep,base_of e (noA e d),d,r⟩
    have hKb:K.In (jO s₁.heap H):=fun b o e=>base_of (KX b o e) (by
      cases q:H b with
      | none=>rfl
      | some u =>
        have e':b=a:=hA b (by rw [q];simp)
        subst e'
        rw [hK (by rw [q];simp)] at e;cases e)
    have hM:Mod K mg (jO s₁.heap H):=⟨hKb,nsK hns,⟨mb,nsK hb,hbb⟩,let ⟨mc,h1,h2⟩:=hlim;⟨mc,nsK h1,h2⟩⟩
    have e0:lX P w K mg (jO s₁.heap H) callerA [] s₁ H:=⟨rfl,hM,fun b o e=>xW e,Nat.le_of_eq (uy _ _),trivial,fun b hb=>absurd (show b ∈ ([]:List Addr) from hb) (by simp),aP,.of_eq hg⟩
    refine codeAny_mono ((F _ hKb (nsK hns)).run callerA [] s₁ H ⟨[.ref a],[]⟩ [.ref a] [.ref a] _ _ hr e0 (hbind s₁ (.ref a)) (.cons rfl .nil) (hsp H hO hS)) fun r s' h=>?_
    cases r with
    | error e=>exact (hCX H e s' h).elim
    | ok fl =>
      cases fl with
      | next=>exact False.elim h
      | brk=>exact False.elim h
      | cont=>exact False.elim h
      | ret u =>
        obtain⟨v,H',os,bare,un,hok',r',q⟩:=h
        have q':v=.bl true:=q
        subst q'
        obtain rfl:u=Value.bool true:=r'
        refine⟨rfl,OldK.of_keep fun b o e=>?_,os,bare⟩
        cases q:H b with
        | none=>exact un.keep b o e q (by intro z;exact absurd (show b ∈ ([]:List Addr) from z) (by simp)) (by simp)
        | some u =>
          rcases hO b with z | ⟨ob,xs,z⟩
          · rw [q] at z;cases z
          · have z2:=un.iu b ob _ z
            obtain⟨e1,_⟩:=aP b _ z
            obtain⟨e2,_⟩:=hok' b _ z2
            rw [e] at e1;cases e1
            exact e2
  cases hk:K.lookup a with
  | some o =>
    have e:=KX a o hk
    rw [ha] at e
    cases e
    refine core (fun _=>none) (fun _=>.inl rfl) (.inr ⟨_,vs.toArray,_,hk,rfl,rfl,rfl,by rw [List.size_toArray,lenV];exact hl,by simpa using rv⟩) (fun b u z=>by have z':(none:Option HO)=some u:=z;cases z') (fun b z=>absurd rfl z) fun z=>absurd rfl z
  | none =>
    refine core (fun b=>if b=a then some (.eW { cls:=.type "list",data:=.seq vs.toArray } (.lst (ns.map V.int))) else none) (fun b=>?_) (.inl (.inr ⟨{ cls:=.type "list",data:=.seq vs.toArray },if_pos rfl⟩)) (fun b u z=>?_) (fun b z=>?_) fun _=>hk
    · by_cases hb:b=a
      · exact .inr ⟨_,_,if_pos hb⟩
      · exact .inl (if_neg hb)
    · by_cases hb:b=a
      · have z':=(if_pos hb).symm.trans z
        cases z'
        subst hb
        exact⟨ha,by rw [List.length_map];exact hl,vs,_,rv,ha⟩
      · have z':=(if_neg hb).symm.trans z
        cases z'
    · by_cases hb:b=a
      · exact hb
      · exact absurd (if_neg hb) z
abbrev KOf {K:PySem.W.Frag} {h:Heap} (_:K.In h):PySem.W.Frag:=K
theorem yj {l:PySem.W.OpenLaw} {n k:Nat} {q:Program} {loose:List Str} {XP:(Str->Option Value)->Heap->Prop} {YP:World->Heap->Prop} {d:DefRec} {K:Params->PySem.W.Frag} {CX:World->ko} {sp:World->Sp} {x:Str}
  (hn:l.most=some n) (hn2:n<=sizeLine) (hdf:d.params.defaults = []) (hr:cE k callerA)
  (hY:∀ (w:World) (h:Heap),YP w h->(K w.params).In h)
  (F:∀ (w:World) (mg:Str->Option Value) (fa:Addr) (h:Heap),(K w.params).In h->h.Ns mainGlobals mg->mg d.name=some (.ref fa) ->
   ∃ fd:FuncData,(∀ (s:Shared) (u:Value),BindsTo s fd ⟨[u],[]⟩ [(x,u)]) /\
    ∀ base:Heap,(K w.params).In base->base.Ns mainGlobals mg->bg l.prog w (K w.params) mg base (CX w) k fa fd [x] (sp w))
  (hsp:∀ (w:World) (H:Hp) (a:Addr) (ns:List Int),ns.length<=n->wm H->aM (K w.params) H a (ns.map V.int)->sp w [.ref a] H (fun v _=>v=.bl true) fun _ _ _=>False)
  (hCX:∀ (w:World) (H:Hp) (s:Shared) (e:Value) (s':Shared),CX w [] H s (fun _ _ _=>False) e s'->False) :
  PySem.W.WalkO q loose XP YP l.row.toRowW d [] (fun f vs=>PySem.call f vs):=by
 refine AL.rl hn hdf fun w dg s₁ mg mb fa o pm cd doc a vs ns G Y ho hd hcd hmg hobj hints hlen hg=>?_
 have KX:=hY w _ Y
 obtain⟨fd,hb,hF⟩:=F w mg fa _ KX G.T.g hmg
 exact wo KX G.T.g G.T.b G.T.builtins G.T.nolimit hg hobj hints (Nat.le_trans hlen hn2) hr hF hb (fun H hO hS=>hsp w H a ns hlen hO hS) fun H e s'=>hCX w H s₁ e s'
def inClass (s:Stmt) (j:Nat):Stmt:=match s with
 | .ClassDef _ _ _ body _ _ _ _ _ _ _=>body.getD j (.Pass ⟨0,0,0,0⟩)
 | _=>.Pass ⟨0,0,0,0⟩
def aQ (s:Stmt):Arguments:=match s with
 | .FunctionDef _ a _ _ _ _ _ _ _ _=>a
 | _=>{ posonlyargs:=[],args:=[],vararg:=none,kwonlyargs:=[],kw_defaults:=[],kwarg:=none,defaults:=[] }
def aO (s:Stmt):List Stmt:=match s with
 | .FunctionDef _ _ b _ _ _ _ _ _ _=>b
 | _=>[]
def au (s:Stmt):Scope:=match s with
 | .FunctionDef _ _ _ _ _ _ sc _ _ _=>sc
 | _=>{ kind:=.function,names:=[],isGenerator:=false,isCoroutine:=false }
abbrev bS:ko:=fun _ _ _ _ _ _=>False
abbrev E0:XK:=fun _ _ _=>False
theorem oZ {X:Cx}:Passes bS X E0:=fun _ _ _ _ _ _ _ h=>h.elim
structure bZ (K:PySem.W.Frag) (x qual:Str) (st:Stmt) (f:Addr) (fd:FuncData):Prop where
 ex:∃ (oc:Value) (od:Option Addr) (kV doc pm:Value) (an:Option Addr) (cdv ct:Value) (osl:Array (Option Value)),
  fd=PySem.W.fnOf x qual (aQ st) (aO st) (au st) .none kV doc pm an cdv ct/\K.lookup f=some ⟨oc,od,.func fd,osl⟩/\PySem.W.codeIn K cdv qual=true
 kp:PySem.W.keepIn K (.ref f)=true
section
variable {P:Program} {w:World} {K:PySem.W.Frag} {mg:Str->Option Value} {base:Heap}
theorem bZ.ok {x qual:Str} {st:Stmt} {f:Addr} {fd:FuncData} {N ps:List Str} {k:Nat} {sp:Sp} (F:bZ K x qual st f fd) (S:aS N ps (au st)) (len:∀ vs H Q E,sp vs H Q E->vs.length=ps.length)
  (hbody:∀ (cdv:Value) (A:Around) (outer:List Env) (s:Shared) (H:Hp) (vs:List V) (Q:VK) (E:XK),cE k (A.deeper (envOfC qual (au st) s.heap.objs.size f cdv))->sp vs H Q E ->
   ∃ t,jw (nA bS P w K mg base N qual (au st) f cdv A outer s H E).xA (aO st) t/\t { nx:=fun _ H'=>Q .bx H',rt:=Q } (start N vs) H):bg P w K mg base bS (k+1) f fd ps sp:=by
 obtain⟨oc,od,kV,doc,pm,an,cdv,ct,osl,rfl,lk,hcd⟩:=F.ex
 refine Ap lk hcd S len fun A outer s H vs Q E hr hsp=>?_
 obtain⟨t,h,q⟩:=hbody cdv A outer s H vs Q E hr hsp
 exact⟨t,h.xA,q⟩
theorem bZ.binds {x qual:Str} {st:Stmt} {f:Addr} {fd:FuncData} {ps:List Str} (F:bZ K x qual st f fd)
  (h:∀ (kV doc pm:Value) (an:Option Addr) (cdv ct:Value) (us:List Value),us.length=ps.length->bindArgs (PySem.W.fnOf x qual (aQ st) (aO st) (au st) .none kV doc pm an cdv ct) ⟨us,[]⟩=pure (ps.zip us)):Binds K fd ps []:=by
 obtain⟨oc,od,kV,doc,pm,an,cdv,ct,osl,rfl,lk,hcd⟩:=F.ex
 exact .all (h kV doc pm an cdv ct)
theorem aZ {x qual:Str} {st:Stmt} {f:Addr} {oc:Value} {od an:Option Addr} {osl:Array (Option Value)} {kV doc pm cdv ct:Value} (l:K.lookup f=some ⟨oc,od,.func (PySem.W.fnOf x qual (aQ st) (aO st) (au st) .none kV doc pm an cdv ct),osl⟩)
  (c:PySem.W.codeIn K cdv qual=true) (k:PySem.W.keepIn K (.ref f)=true):bZ K x qual st f (PySem.W.fnOf x qual (aQ st) (aO st) (au st) .none kV doc pm an cdv ct):=⟨⟨oc,od,kV,doc,pm,an,cdv,ct,osl,rfl,l,c⟩,k⟩
end
theorem cQ {A:Around} {k:Nat} (hr:cE k A):A.units+1 < cLine:=Nat.lt_of_le_of_lt (Nat.add_le_add_left (by decide:1<=64) _) hr.units
theorem ig {n:Nat} (h:n<=1000):n < sizeLine:=Nat.lt_of_le_of_lt h (by decide)
section
variable {X:Cx}
theorem pv (i:Nat) {x:Str} {pos:Pos} (hN:X.N[i]? = some x:=by rfl) (hv:xx X.env.scope x:=by first | exact Or.inl rfl | exact Or.inr (Or.inl rfl) | exact Or.inr (Or.inr rfl)) (hd:(x == ("__debug__" : Str))=false:=by decide)
  (hcd:(x == ("__classdict__" : Str))=false:=by decide):PE X (.Name x pos) (sP i):=y8 hN hv hd hcd
end
theorem cb {A B:Prop} (h:B):if false=true then A else B:=by
 rw [if_neg Bool.false_ne_true]
 exact h
theorem cM {A B:Prop} (h:A):if true=true then A else B:=by
 rw [if_pos rfl]
 exact h
theorem dN {c A B:Prop} [Decidable c] (h1:c->A) (h2:¬ c->B):if c then A else B:=by
 by_cases h:c
 ·rw [if_pos h]
  exact h1 h
 ·rw [if_neg h]
  exact h2 h
def ao (H H':Hp):Prop:=∀ b o,H b=some o->H' b=some o
theorem ao.refl (H:Hp):ao H H:=fun _ _ h=>h
theorem ao.trans {H H1 H2:Hp} (a:ao H H1) (b:ao H1 H2):ao H H2:=fun c o h=>b c o (a c o h)
theorem ao.free {H H':Hp} (e:ao H H') {l:Addr} (h:H' l=Option.none):H l=Option.none:=by
 cases q:H l with
 | none=>rfl
 | some o =>
  rw [e l o q] at h
  cases h
theorem ao.seq {K:PySem.W.Frag} {H H':Hp} {a:Addr} {xs:List V} (e:ao H H') (h:aM K H a xs):aM K H' a xs:=by
 rcases h with (h | ⟨o,h⟩) | h
 ·exact .inl (.inl (e _ _ h))
 ·exact .inl (.inr ⟨o,e _ _ h⟩)
 ·exact .inr h
section
variable {X:Cx}
theorem yk:fo X (binaryOp .Mult) (rI IntMulOk fun i j=>.int (i * j)):=rQ fun _ _ _ _ _ _ _ hc q=>mul_int q hc
def As (_i j:Int):Prop:=0 < j/\j.natAbs.log2 < 9000
theorem wu:fo X (binaryOp .FloorDiv) (rI As fun i j=>.int (i / j)):=rQ fun i j _ _ _ _ _ hc q=>by
 have h1:(0:Int) < j:=hc.1
 exact floordiv_int (by omega) (by rw [Int.fdiv_eq_ediv_of_nonneg i (by omega)];exact q) (.inl (PyProof.noPylong_of_log2 hc.2))
structure Own (P:Program) (w:World) (K:PySem.W.Frag) (mg:Str->Option Value) (base:Heap) (x:Str) (k:Nat) (ps:List Str) (sp:Sp):Prop where
 ex:∃ f fd,bg P w K mg base bS k f fd ps sp/\mg x=some (.ref f)/\PySem.W.keepIn K (.ref f)=true/\Binds K fd ps []
variable {x:Str} {k:Nat} {ps:List Str} {sp:Sp} {e:Expr} {es:List Expr} {t:TA} {p pos:Pos}
theorem aB (o:Own X.prog X.w X.K X.mg X.base x k ps sp) (hr:cE k X.A) (hg:Gl X x) (ha:PA X (e :: es) t)
  (hdb:(x == ("__debug__" : Str))=false:=by decide) (he:starEach (e :: es) X.env=(false,eval e X.env) :: starEach es X.env:=by rfl)
  (hpl:(backTo pos (starEach es X.env)).any (·.1)=false:=by rfl):PE X (.Call (.Name x p) (e :: es) [] pos) (xG sp [] E0 t):=by
 obtain⟨f,fd,F,hm,hk,hb⟩:=o.ex
 exact yb F hr hg hm hk hb .nil oZ ha hdb he hpl
end
theorem bo {α : Type} {x:α} {xs:List α}:dY (x :: xs) 0=some x:=bp (j:=0) rfl
theorem cu {α : Type} {x y:α} {xs:List α}:dY (x :: y :: xs) 1=some y:=bp (j:=1) rfl
theorem at2 {α : Type} {x y z:α} {xs:List α}:dY (x :: y :: z :: xs) 2=some z:=bp (j:=2) rfl
theorem tE {α : Type} {xs:List α} {i:Int} (h0:0<=i) (h1:i < xs.length):∃ v,dY xs i=some v/\v ∈ xs:=by
 obtain⟨j,rfl⟩:∃ j:Nat,i=j:=⟨i.toNat,by omega⟩
 have hj:j < xs.length:=by omega
 exact⟨xs[j],bp (by simp [hj]),List.getElem_mem hj⟩
theorem dc:bootBuiltins "len" = some (.builtin "len"):=by decide +kernel
theorem pR:bootBuiltins "min" = some (.builtin "min"):=by decide +kernel
theorem zx:bootBuiltins "max" = some (.builtin "max"):=by decide +kernel
theorem pS:bootBuiltins "int" = some (.type "int"):=by decide +kernel
theorem d6:bootBuiltins "tuple" = some (.type "tuple"):=by decide +kernel
theorem rX:bootBuiltins "list" = some (.type "list"):=by decide +kernel
def cN (H:Hp) (b:Addr):Prop:=∃ x y:Int,H b=some (.lst [.int x,.int y])/\0<=y/\y < 2147483648
def Fix (b:Addr) (H H':Hp):Prop:=∀ c o,H c=some o->c ≠ b->H' c=some o
theorem Fix.trans {b:Addr} {H H1 H2:Hp} (u:Fix b H H1) (v:Fix b H1 H2):Fix b H H2:=fun c o h n=>v c o (u c o h n) n
theorem Fix.xI {b:Addr} {H:Hp} {o:HO}:Fix b H (upd H b o):=fun c u h n=>by rw [af n];exact h
theorem Fix.new {b p:Addr} {H:Hp} {o:HO} (hp:H p=none):Fix b H (upd H p o):=fun c u h _=>by rw [af (aw h hp)];exact h
theorem Fix.of_same {b:Addr} {H H':Hp} (h:ao H H'):Fix b H H':=fun c o e _=>h c o e
theorem ao.new {p:Addr} {H:Hp} {o:HO} (hp:H p=none):ao H (upd H p o):=fun c u h=>by rw [af (aw h hp)];exact h
theorem cN.new {b p:Addr} {H:Hp} {o:HO} (h:cN H b) (hp:H p=none):cN (upd H p o) b:=by
 obtain⟨x,y,e,q⟩:=h
 exact⟨x,y,by rw [af (aw e hp)];exact e,q⟩
theorem cN.same {b:Addr} {H H':Hp} (h:cN H b) (s:ao H H'):cN H' b:=by
 obtain⟨x,y,e,q⟩:=h
 exact⟨x,y,s _ _ e,q⟩
theorem xJ {α : Type} {x0:α}:[x0].length<=sizeLine:=by show 1<=sizeLine;decide
theorem ln2 {α : Type} {x0 x1:α}:[x0,x1].length<=sizeLine:=by show 2<=sizeLine;decide
theorem iX {α : Type} {x0 x1 x2:α}:[x0,x1,x2].length<=sizeLine:=by show 3<=sizeLine;decide
theorem BL {α : Type} {x0 x1 x2 x3 x4:α}:[x0,x1,x2,x3,x4].length<=sizeLine:=by show 5<=sizeLine;decide
theorem ku {α : Type} {x0 x1 x2 x3 x4 x5 x6:α}:[x0,x1,x2,x3,x4,x5,x6].length<=sizeLine:=by show 7<=sizeLine;decide
theorem ao.uT {b:Addr} {H H1 H2:Hp} (s:ao H H1) (n:H b=none) (f:Fix b H1 H2):ao H H2:=fun c o e=>f c o (s c o e) (aw e n)
theorem cN.pT {b p:Addr} {H:Hp} {xs:List V} (h:cN H b) (e:H p=some (.tup xs)):p ≠ b:=by
 obtain⟨x,y,e1,_⟩:=h
 exact bI e e1 (by intro z;cases z)
theorem cN.dZ {b p:Addr} {H:Hp} (h:cN H b) (e:H p=none):p ≠ b:=by
 obtain⟨x,y,e1,_⟩:=h
 exact fun z=>aw e1 e z.symm
def tF (K:PySem.W.Frag):Sp:=fun vs H Q _=>∃ (a:Addr) (ns:List Int) (k:Int),vs = [.ref a,.int k]/\aM K H a (ns.map V.int)/\0<=k /\
 ∀ b H',H b=none->cN H' b->ao H H'->Q (.ref b) H'
def fW:Sp:=fun vs H Q _=>∃ (b:Addr) (m:Int),vs = [.ref b,.int m]/\cN H b/\(0 < m/\m.natAbs.log2 < 9000) /\
 ∀ r H',0<=r->r < m->cN H' b->Fix b H H'->Q (.int r) H'
def o3 (K:PySem.W.Frag):Sp:=fun vs H Q _=>∃ (a:Addr) (ns:List Int),vs = [.ref a]/\aM K H a (ns.map V.int)/\ns.length<=63/\∀ H',Q (.bl true) H'
def fX (cells:List (Str × Addr)):List (Str × NameKind)->List (Str × Addr)->List (Str × Addr)
 | [],cs=>cs
 | (n,k) :: r,cs=>fX cells r (if k == .free then (n,(cells.lookup n).getD 0) :: cs else cs)
theorem iC {scope:Scope} {env:Env} (hf:∀ y ∈ scope.names,y.2=.free->∃ c,env.cells.lookup y.1=some c):closureFor scope env=pure (fX env.cells scope.names []):=by
 have key:∀ (names:List (Str × NameKind)) (cs:List (Str × Addr)),(∀ y ∈ names,y.2=.free->∃ c,env.cells.lookup y.1=some c) ->
   (forIn names cs fun x r=>match x with
    | (name,kind)=>if (kind == NameKind.free)=true then (do let a <-cellOf env name;pure (ForInStep.yield ((name,a) :: r))) else pure (ForInStep.yield r):Sem (List (Str × Addr)))=pure (fX env.cells names cs):=by
  intro names
  induction names with
  | nil=>intro cs _;rfl
  | cons y r ih =>
   intro cs hy
   obtain⟨n,k⟩:=y
   have ih':=fun cs=>ih cs fun z hz=>hy z (List.mem_cons_of_mem _ hz)
   rw [List.forIn_cons]
   by_cases hk:(k == NameKind.free)=true
   ·have e:k=.free:=by simpa using hk
    obtain⟨c,hc⟩:=hy (n,k) List.mem_cons_self e
    have hc':env.cells.lookup n=some c:=hc
    simp only [hk,if_true,cellOf,hc',pure_bind,fX,Option.getD_some]
    exact ih' _
   ·have hk':(k == NameKind.free)=false:=by simpa using hk
    simp only [hk',Bool.false_eq_true,if_false,pure_bind,fX]
    exact ih' _
 unfold closureFor
 have e:=key scope.names [] hf
 show ((forIn scope.names ([]:List (Str × Addr)) fun x r=>match x with
    | (name,kind)=>if (kind == NameKind.free)=true then (do let a <-cellOf env name;pure (ForInStep.yield ((name,a) :: r))) else pure (ForInStep.yield r):Sem (List (Str × Addr))) >>= fun r=>pure r)=_
 rw [e,pure_bind]
theorem ij {cells:List (Str × Addr)}:∀ (names:List (Str × NameKind)) (cs:List (Str × Addr)),(∀ y ∈ names,y.2=.free->∃ c,cells.lookup y.1=some c) ->
  (∀ x c,cs.lookup x=some c->cells.lookup x=some c)->∀ x c,(fX cells names cs).lookup x=some c->cells.lookup x=some c
 | [],_,_,h,x,c,e=>h x c e
 | (n,k) :: r,cs,hf,h,x,c,e=>by
  refine ij r _ (fun y hy=>hf y (List.mem_cons_of_mem _ hy)) (fun z d hz=>?_) x c e
  by_cases hk:(k == NameKind.free)=true
  ·rw [if_pos hk] at hz
   obtain⟨c',hc⟩:=hf (n,k) List.mem_cons_self (by simpa using hk)
   have hc':cells.lookup n=some c':=hc
   rw [List.lookup_cons] at hz
   cases hzn:z == n with
   | true =>
    rw [hzn] at hz
    have:z=n:=by simpa using hzn
    subst this
    rw [hc'] at hz ⊢
    simpa using hz
   | false=>rw [hzn] at hz;exact h z d hz
  ·rw [if_neg hk] at hz;exact h z d hz
theorem jD {cells:List (Str × Addr)} {x:Str}:∀ (names:List (Str × NameKind)) (cs:List (Str × Addr)),((x,NameKind.free) ∈ names\/∃ c,cs.lookup x=some c)->∃ c,(fX cells names cs).lookup x=some c
 | [],_,h=>by
  rcases h with h | h
  ·cases h
  ·exact h
 | (n,k) :: r,cs,h=>by
  refine jD r _ ?_
  by_cases hk:(k == NameKind.free)=true
  ·rw [if_pos hk]
   cases hxn:x == n with
   | true=>exact .inr ⟨_,by rw [List.lookup_cons,hxn]⟩
   | false =>
    rcases h with h | ⟨c,h⟩
    ·rcases List.mem_cons.mp h with h | h
     ·have:x=n:=(Prod.mk.inj h).1
      subst this
      simp at hxn
     ·exact .inl h
    ·exact .inr ⟨c,by rw [List.lookup_cons,hxn];exact h⟩
  ·rw [if_neg hk]
   rcases h with h | h
   ·rcases List.mem_cons.mp h with h | h
    ·have:NameKind.free=k:=(Prod.mk.inj h).2
     subst this
     simp at hk
    ·exact .inl h
   ·exact .inr h
theorem iY {env:Env} {x:Str} {k:NameKind} (hk:k=.cell\/k=.free):∀ {names:List (Str × NameKind)},(∀ y ∈ names,y.2 ≠ .cell) ->
  (names.map fun (n,k)=>if (k == NameKind.free && env.scope.kind == .function && env.kindOf n == some .cell) then (n,NameKind.cell) else (n,k)).lookup x=some k->(x,NameKind.free) ∈ names
 | [],_,h=>by simp at h
 | (n,q) :: r,hc,h=>by
  have ih:=iY (env:=env) (x:=x) hk (names:=r) (fun y hy=>hc y (List.mem_cons_of_mem _ hy))
  have h':List.lookup x ((if (q == NameKind.free && env.scope.kind == .function && env.kindOf n == some .cell)=true then (n,NameKind.cell) else (n,q)) :: _)=some k:=h
  by_cases hq:(q == NameKind.free && env.scope.kind == .function && env.kindOf n == some .cell)=true
  ·rw [if_pos hq,List.lookup_cons] at h'
   have eq:q=.free:=by
    rw [Bool.and_eq_true,Bool.and_eq_true] at hq
    simpa using hq.1.1
   cases hxn:x == n with
   | true =>
    have:x=n:=by simpa using hxn
    subst this;subst eq
    exact List.mem_cons_self
   | false=>rw [hxn] at h';exact List.mem_cons_of_mem _ (ih h')
  ·rw [if_neg hq,List.lookup_cons] at h'
   cases hxn:x == n with
   | true =>
    rw [hxn] at h'
    have:x=n:=by simpa using hxn
    subst this
    have e:q=k:=Option.some.inj h'
    subst e
    rcases hk with hk | hk
    ·exact absurd hk (hc (x,q) List.mem_cons_self)
    ·subst hk;exact List.mem_cons_self
   | false=>rw [hxn] at h';exact List.mem_cons_of_mem _ (ih h')
theorem gI {env:Env} {x:Str}:∀ {names:List (Str × NameKind)},names.lookup x=some .free ->
  (names.map fun (n,k)=>if (k == NameKind.free && env.scope.kind == .function && env.kindOf n == some .cell) then (n,NameKind.cell) else (n,k)).lookup x=some .cell \/
  (names.map fun (n,k)=>if (k == NameKind.free && env.scope.kind == .function && env.kindOf n == some .cell) then (n,NameKind.cell) else (n,k)).lookup x=some .free
 | [],h=>by simp at h
 | (n,q) :: r,h=>by
  have ih:=gI (env:=env) (x:=x) (names:=r)
  show List.lookup x ((if (q == NameKind.free && env.scope.kind == .function && env.kindOf n == some .cell)=true then (n,NameKind.cell) else (n,q)) :: _)=some .cell \/
   List.lookup x ((if (q == NameKind.free && env.scope.kind == .function && env.kindOf n == some .cell)=true then (n,NameKind.cell) else (n,q)) :: _)=some .free
  rw [List.lookup_cons] at h
  by_cases hq:(q == NameKind.free && env.scope.kind == .function && env.kindOf n == some .cell)=true
  ·rw [if_pos hq,List.lookup_cons]
   cases hxn:x == n with
   | true=>exact .inl rfl
   | false=>rw [hxn] at h;exact ih h
  ·rw [if_neg hq,List.lookup_cons]
   cases hxn:x == n with
   | true=>rw [hxn] at h;exact .inr h
   | false=>rw [hxn] at h;exact ih h
def bW (X:Cx) (scope:Scope) (C:Addr) (N':List Str) (fp:List Addr) (s₁ : Shared) (H₁ : Hp):Cx where
 prog:=X.prog
 w:=X.w
 K:=X.K
 mg:=X.mg
 base:=X.base
 A:=X.A
 N:=N'
 dg:=s₁
 jP:=H₁
 env:=compEnvC scope (fX X.env.cells scope.names []) C X.env
 outer:=X.stack
 stack:=X.stack
 ex:=fp
 fn:=fun _=>false
 calm:=X.calm
 pn:=[]
 xe:=fun _ _=>False
def fu (X:Cx) (scope:Scope):List Str->List Nat->Prop
 | [],[]=>True
 | x :: fr,j :: js=>(X.N[j]? = some x/\(X.env.kindOf x=some .cell\/X.env.kindOf x=some .free)/\scope.names.lookup x=some .free)/\fu X scope fr js
 | _,_=>False
theorem fu.len {X:Cx} {scope:Scope}:∀ {fr:List Str} {js:List Nat},fu X scope fr js->fr.length=js.length
 | [],[],_=>rfl
 | _ :: _,_ :: _,h=>by simp [fu.len h.2]
 | [],_ :: _,h=>h.elim
 | _ :: _,[],h=>h.elim
theorem fu.mem {X:Cx} {scope:Scope} {x:Str}:∀ {fr:List Str} {js:List Nat},fu X scope fr js->x ∈ fr->X.env.kindOf x=some .cell\/X.env.kindOf x=some .free
 | [],[],_,h=>by cases h
 | a :: fr,b :: js,h,hm=>by
  rcases List.mem_cons.mp hm with rfl | hm
  ·exact h.1.2.1
  ·exact fu.mem h.2 hm
 | [],_ :: _,h,_=>h.elim
 | _ :: _,[],h,_=>h.elim
theorem fu.get {X:Cx} {scope:Scope}:∀ {fr:List Str} {js:List Nat} {i:Nat} {x:Str} {j:Nat},fu X scope fr js->fr[i]? = some x->js[i]? = some j ->
  X.N[j]? = some x/\(X.env.kindOf x=some .cell\/X.env.kindOf x=some .free)/\scope.names.lookup x=some .free
 | [],[],_,_,_,_,h,_=>by simp at h
 | a :: fr,b :: js,0,x,j,h,h1,h2=>by
  simp at h1 h2
  subst h1;subst h2
  exact h.1
 | a :: fr,b :: js,i+1,x,j,h,h1,h2=>fu.get h.2 (by simpa using h1) (by simpa using h2)
 | [],_ :: _,_,_,_,h,_,_=>h.elim
 | _ :: _,[],_,_,_,h,_,_=>h.elim
def fq (n:Nat) (js:List Nat) (σ : St):St:=List.replicate n none++js.map fun j=>σ.getD j none
theorem pU {X:Cx} {pins:List (Addr × Obj)} {σ : St} {H:Hp} {s:Shared} {scope:Scope} {fp:List Addr} {C:Addr} {N':List Str} (I:Inv X pins σ H s) (hk:scope.kind=.function) (hcell:∀ y ∈ scope.names,y.2 ≠ .cell)
  (hf:∀ y ∈ scope.names,y.2=.free->∃ c,X.env.cells.lookup y.1=some c) (hC:s.heap.objs.size<=C) (hfp:∀ b ∈ fp,fi X pins H b) (hlt:∀ b ∈ fp,b < s.heap.objs.size):(bW X scope C N' fp s H).Ok:=by
 have ag:∀ x c,(fX X.env.cells scope.names []).lookup x=some c->X.env.cells.lookup x=some c:=ij scope.names [] hf fun x c e=>by simp at e
 refine⟨I.ok.mod,hk,I.ok.glob,I.ok.blt,hC,fun x y c h1 h2=>I.ok.inj x y c (ag x c h1) (ag y c h2),fun x hx=>?_,(fun x c h=>(by cases h)),I.ok.hd,I.ok.frames,.inl rfl,fun b hb=>?_,I.bs,?_,fun b o e hb=>?_,fun b hb=>?_,I.stack,I.rN⟩
 ·refine jD scope.names [] (.inl ?_)
  rcases hx with hx | hx
  ·exact iY (.inl rfl) hcell hx
  ·exact iY (.inr rfl) hcell hx
 ·obtain⟨h1,h2,h3,h4,h5,h6⟩:=hfp b hb
  exact⟨Nat.ne_of_lt (Nat.lt_of_lt_of_le (hlt b hb) hC),fun x c e=>h5 x c (ag x c e)⟩
 ·exact Nat.le_trans I.ok.mJ I.sz
 ·obtain⟨h1,h2,h3,h4,h5,h6⟩:=hfp b hb
  rcases h4 with h4 | h4
  ·exact I.ok.o8 b o e h4
  ·exact absurd (Nat.lt_of_lt_of_le (Heap.lt_size e) (Nat.le_trans I.ok.mJ h4)) (Nat.lt_irrefl _)
 ·obtain⟨h1,h2,h3,h4,h5,h6⟩:=hfp b hb
  intro z
  rcases List.mem_cons.mp (I.jv b z) with z | z
  ·exact h2 z
  ·exact h3 z
def rY (J:It) (n:Nat) (js:List Nat) (g:TG) (ct:TT) (te:TE) (acc:Addr) (σ : St) (H1:Hp) (Q:VK):Prop :=
 ∃ W:Nat->Nat->List V->St->Hp->Prop,(∃ m,W 0 m [] (fq n js σ) (upd H1 acc (.lst [])))/\∀ i m ys τ H2,W i m ys τ H2->H2 acc=some (.lst ys)/\ys.length < sizeLine /\
  ((J.stop i H2/\Q (.ref acc) H2)\/(J.go i H2/\∃ N:List V->St->Hp->Prop,(∀ ys' τ' H',N ys' τ' H'->∃ m',m' < m/\W (i+1) m' ys' τ' H')/\∀ x H3,J.ki i H2 x H3->g x τ H3 fun τ1 H4=>ct τ1 H4 fun b H5 =>
   if b=true then te τ1 H5 fun y H6=>H6 acc=some (.lst ys)/\N (ys ++ [y]) τ1 (upd H6 acc (.lst (ys ++ [y]))) else N ys τ1 H5))
def AM (n:Nat) (js:List Nat) (wi:TI) (g:TG) (ct:TT) (te:TE):TE:=fun σ H Q=>wi σ H fun J H1=>∀ acc,H1 acc=none->rY J n js g ct te acc σ H1 Q
def ky (X:Cx) (ifs:List Expr) (t:TT):Prop :=
 ∀ (pins:List (Addr × Obj)) (s:Shared) (σ : St) (H:Hp) (Q:Bool->Hp->Prop),Inv X pins σ H s->t σ H Q ->
  wpAny (model X.prog X.w) X.A (forIn ifs true fun c r=>if r=true then do let ok <-isTrue c X.env (eval c X.env);pure (ForInStep.yield ok) else pure (ForInStep.yield r)) (TP X pins σ Q) X.xe s
def zy:TT:=fun _ H Q=>Q true H
theorem eB {X:Cx}:ky X [] zy:=fun _ _ σ H Q I h=>wpAny_pure ⟨H,I,h⟩
theorem nF {X:Cx} {c:Expr} {t:TT} (h:PT X c t):ky X [c] t:=by
 intro pins s σ H Q I q
 rw [List.forIn_cons]
 simp only [if_true,bind_assoc,pure_bind]
 refine wpAny_bind (aU (h pins s σ H Q I q) fun b s1 h1=>?_)
 exact wpAny_pure h1
section
variable {X:Cx} {pos:Pos}
theorem kb {prog:Program} {w:World} {A:Around} {R:Result->Shared->Prop} {s:Shared} {elt target iter:Expr} {ifs:List Expr} {scope:Scope} {pos:Pos} {it acc:Value} {env:Env} (I:Nat->Shared->Prop)
  (turn:∀ n s,I n s->wpAny (model prog w) A (pyNext it) (fun r s₁=>match r with
   | none=>R (.ok .next) s₁
   | some v=>wpAny (model prog w) A (letOwnedTupleGo target it v) (fun _ s₁'=>wpAny (model prog w) A (assign target env v) (fun _ s₂ =>
     wpAny (model prog w) A (forIn ifs true fun c r=>if r=true then do let ok <-isTrue c env (eval c env);pure (ForInStep.yield ok) else pure (ForInStep.yield r)) (fun ok s₃ =>
      if ok=true then wpAny (model prog w) A (eval elt env) (fun x s₄ =>
       wpAny (model prog w) A (call (.builtin "list.append") [acc,x]) (fun _ s₅=>∃ m,m < n/\I m s₅) (fun _ _=>False) s₄) (fun _ _=>False) s₃
      else ∃ m,m < n/\I m s₃) (fun _ _=>False) s₂) (fun _ _=>False) s₁') (fun _ _=>False) s₁) (fun _ _=>False) s)
  (n:Nat) (h:I n s) :
  codeAny (model prog w) A (.compLoop (.ListComp elt [⟨target,iter,ifs,0⟩] scope pos) 0 it acc env) R s:=by
 refine codeAny_loop rfl I (fun n s hI=>?_) n h
 show wpAny _ A ((compTurn (.ListComp elt [⟨target,iter,ifs,0⟩] scope pos) 0 it acc env).onRaise (fun x=>do noteFrame x env;theTreesLotGoes x)) _ _ s
 refine wpAny_noted ?_
 rw [compTurn_list]
 refine wpAny_bind (wpAny_standAt (wpAny_bind (wpAny_mono (turn n s hI) (fun r s₁ h₁=>?_) fun _ _ h'=>h'.elim)))
 cases r with
 | none=>exact wpAny_pure h₁
 | some v =>
  refine wpAny_bind (wpAny_mono h₁ (fun _ s₁' h₁'=>?_) fun _ _ h'=>h'.elim)
  refine wpAny_bind (wpAny_mono h₁' (fun _ s₂ h₂=>wpAny_bind (wpAny_mono h₂ (fun ok s₃ h₃=>?_) fun _ _ h'=>h'.elim)) fun _ _ h'=>h'.elim)
  cases ok with
  | false=>exact wpAny_pure ⟨rfl,h₃⟩
  | true =>
   exact wpAny_bind (wpAny_bind (wpAny_mono h₃ (fun x s₄ h₄=>wpAny_bind (wpAny_mono h₄ (fun _ s₅ h₅=>wpAny_pure (wpAny_pure ⟨rfl,h₅⟩)) fun _ _ h'=>h'.elim)) fun _ _ h'=>h'.elim))
theorem rZ {pins:List (Addr × Obj)} {σ : St} {H:Hp} {s:Shared} {E:Value->Shared->Prop} {tg elt iter:Expr} {ifs:List Expr} {scope:Scope} {g:TG} {ct:TT} {te:TE} {ts fr:List Str} {js:List Nat}
    {it:Addr} {fp:List Addr} {tn:Nat->Heap->Prop} {J:It} {Q:VK} {RR:Value->Addr->Result->Shared->Prop}
    (hc:X.calm=true) (hkind:scope.kind=.function) (hcell:∀ y ∈ scope.names,y.2 ≠ .cell) (hfree:∀ y ∈ scope.names,y.2=.free->X.env.kindOf y.1=some .cell\/X.env.kindOf y.1=some .free)
    (hfr:fu X scope fr js) (htg:∀ C fp s₁ H₁,PG (bW X scope C (ts++fr) fp s₁ H₁) tg g) (hct:∀ C fp s₁ H₁,ky (bW X scope C (ts++fr) fp s₁ H₁) ifs ct) (hte:∀ C fp s₁ H₁,PE (bW X scope C (ts++fr) fp s₁ H₁) elt te)
    (I:Inv X pins σ H s) (T:Turn X.prog X.w X.K tg J fp it tn) (st:tn 0 s.heap) (hfp:∀ b ∈ fp,fi X pins H b)
    (h:∀ acc,H acc=none->rY J ts.length js g ct te acc σ H Q)
    (hRR:∀ acc C H' s' m,Inv X pins σ H' s'->s'.heap.Ns C m->H' C=none->s.heap.objs.size<=C->Q (.ref acc) H'->RR (.ref acc) C (.ok .next) s') :
    wpAny (model X.prog X.w) X.A (newList []) (fun acc s₃=>wpAny (model X.prog X.w) X.A (newFunctionEnv scope X.env.globals (fX X.env.cells scope.names []) [] X.env.qual none .none (some X.env)) (fun cenv s₄ =>
      codeAny (model X.prog X.w) X.A (.compStart (.ListComp elt [⟨tg,iter,ifs,0⟩] scope pos) 0 (.ref it) acc { cenv with scope:=relabel scope X.env }) (RR acc cenv.locals) s₄) E s₃) E s:=by
  have hf:∀ y ∈ scope.names,y.2=.free->∃ c,X.env.cells.lookup y.1=some c:=fun y hy e=>I.ok.has y.1 (hfree y hy e)
  have ag:∀ x c,(fX X.env.cells scope.names []).lookup x=some c->X.env.cells.lookup x=some c:=ij scope.names [] hf fun x c e=>by simp at e
  have hlt:∀ b ∈ fp,b < s.heap.objs.size:=fun b hb=>by
    obtain⟨o,e,_⟩:=T.obj _ _ st b hb
    exact Heap.lt_size e
  refine wpAny_newObj_type (wpAny_newFunctionEnv hcell (by intro y hy;simp at hy) (fun h₁ hns₁ hsb₁=>?_) hkind)
  dsimp only at hns₁ hsb₁ ⊢
  generalize hH2:s.heap.push { cls:=.type "list",dict:=none,data:=.seq ([]:List Value).toArray }=G2 at hns₁ hsb₁ ⊢
  have hC:G2.objs.size=s.heap.objs.size+1:=by rw [<-hH2,Heap.size_push]
  have hDC:s.heap.objs.size ≠ G2.objs.size:=by rw [hC];exact Nat.ne_of_lt (Nat.lt_succ_self _)
  have hCle:s.heap.objs.size<=G2.objs.size:=by rw [hC];exact Nat.le_succ _
  have below:∀ b,b < s.heap.objs.size->b ≠ G2.objs.size/\b ≠ s.heap.objs.size:=fun b hb=>⟨by rw [hC];exact Nat.ne_of_lt (Nat.lt_succ_of_lt hb),Nat.ne_of_lt hb⟩
  have old:∀ b o,s.heap.get? b=some o->h₁.get? b=some o:=fun b o e=>hsb₁.extBut b o (below b (Heap.lt_size e)).1 (Heap.get?_push_of_some _ (hH2 ▸ Heap.get?_push_of_some _ e))
  have hacc:h₁.get? s.heap.objs.size=some { cls:=.type "list",data:=.seq ([]:List Value).toArray }:=hsb₁.extBut _ _ hDC (Heap.get?_push_of_some _ (hH2 ▸ Heap.get?_push_size _ rfl))
  have nD:H s.heap.objs.size=none:=I.aP.fresh (Nat.le_refl _)
  have nC:H G2.objs.size=none:=I.aP.fresh hCle
  obtain⟨W,⟨m0,w0⟩,turn⟩:=h s.heap.objs.size nD
  generalize hXb:bW X scope G2.objs.size (ts++fr) fp s H=Xb
  have Ib:∀ tk,Inv Xb [] (fq ts.length js σ) (upd H s.heap.objs.size (.lst [])) { s with heap:=h₁,toks:=tk }:=by
    intro tk
    subst hXb
    refine⟨pU I hkind hcell hf hCle hfp hlt,rfl,I.bare,Un.laid old (Nat.le_refl _) nD,⟨_,hns₁,fun i x v e1 e2 e3=>?_⟩,fun x c e=>?_,?_,fun x c e=>?_,fun p hp=>absurd (show p ∈ ([]:List (Addr × Obj)) from hp) (by simp),I.aP.laid old (Nat.le_refl _) ⟨by show 0<=sizeLine;decide,[],_,.nil,hacc⟩,?_⟩
    · have hi:ts.length<=i:=by
        refine Nat.le_of_not_lt fun hi=>?_
        unfold fq at e2
        rw [List.getElem?_append_left (by simpa using hi),List.getElem?_replicate] at e2
        split at e2 <;> cases e2
      have e1':fr[i - ts.length]? = some x:=by
        have e1'':(ts++fr)[i]? = some x:=e1
        rw [List.getElem?_append_right hi] at e1''
        exact e1''
      unfold fq at e2
      rw [List.getElem?_append_right (by simpa using hi),List.length_replicate,List.getElem?_map] at e2
      cases ej:js[i - ts.length]? with
      | none=>rw [ej] at e2;cases e2
      | some j =>
        rw [ej] at e2
        have e2':σ.getD j none=some v:=by simpa using e2
        obtain⟨q1,q2,q3⟩:=hfr.get e1' ej
        have e2'':σ[j]? = some (some v):=by
          rw [List.getD_eq_getElem?_getD] at e2'
          cases ez:σ[j]? with
          | none=>rw [ez] at e2';cases e2'
          | some z=>rw [ez] at e2';rw [show z=some v from e2']
        obtain⟨m,hn,hl⟩:=I.loc
        obtain⟨u,r,l⟩:=hl j x v q1 e2'' (by
          rcases q2 with q2 | q2
          · exact .inr (.inl q2)
          · exact .inr (.inr q2))
        refine⟨u,r,.inr ⟨gI q3,?_⟩⟩
        rcases l with ⟨l,_⟩ | ⟨_,c,lc,lv⟩
        · rcases q2 with q2 | q2 <;> (rw [l] at q2;cases q2)
        · obtain⟨c',hc'⟩:=jD (cells:=X.env.cells) scope.names [] (.inl (PySem.mem_of_lookup q3))
          have:=ag x c' hc'
          rw [lc] at this
          cases this
          obtain⟨o,ho,hd⟩:=lv
          exact⟨c,hc',o,old _ _ ho,hd⟩
    · obtain⟨v,o,ho,hd⟩:=I.cell x c (ag x c e)
      exact⟨v,o,old _ _ ho,hd⟩
    · show upd H s.heap.objs.size (.lst []) G2.objs.size=none
      rw [af hDC.symm];exact nC
    · obtain⟨v,o,ho,hd⟩:=I.cell x c (ag x c e)
      rw [af (Nat.ne_of_lt (Heap.lt_size ho))]
      exact I.eh x c (ag x c e)
    · show (fq ts.length js σ).length=(ts++fr).length
      unfold fq
      rw [List.length_append,List.length_replicate,List.length_map,List.length_append,hfr.len]
  have fpB:∀ {H':Hp},(∀ b ∈ fp,H' b=none)->∀ b ∈ fp,fi Xb [] H' b:=fun {H'} hn b hb=>by
    subst hXb
    obtain⟨h1,h2,h3,h4,h5,h6⟩:=hfp b hb
    refine⟨hn b hb,(below b (hlt b hb)).1,fun z=>?_,.inl hb,fun x c e=>h5 x c (ag x c e),fun p hp=>absurd (show p ∈ ([]:List (Addr × Obj)) from hp) (by simp)⟩
    rcases List.mem_cons.mp (I.jv b z) with z | z
    · exact h2 z
    · exact h3 z
  have fin:∀ {τ : St} {H':Hp} {s':Shared},Inv Xb [] τ H' s'->Q (.ref s.heap.objs.size) H'->RR (.ref s.heap.objs.size) G2.objs.size (.ok .next) s':=fun {τ H' s'} Jb q=>by
    subst hXb
    obtain⟨m,hn,_⟩:=Jb.loc
    refine hRR _ _ H' s' m (I.sO (ch:=fp) Jb.os Jb.base Jb.aP Jb.bare fun b hb=>?_) hn Jb.free hCle q
    obtain⟨h1,h2,h3,h4,h5,h6⟩:=hfp b hb
    exact⟨h4,h2,h5,h6⟩
  have loop:∀ tk,codeAny (model X.prog X.w) X.A (.compLoop (.ListComp elt [⟨tg,iter,ifs,0⟩] scope pos) 0 (.ref it) (.ref s.heap.objs.size) (compEnvC scope (fX X.env.cells scope.names []) G2.objs.size X.env))
        (RR (.ref s.heap.objs.size) G2.objs.size) { s with heap:=h₁,toks:=tk }:=by
    intro tk
    refine kb (fun n s'=>∃ i ys τ H',Inv Xb [] τ H' s'/\tn i s'.heap/\(∀ b ∈ fp,H' b=none)/\W i n ys τ H') ?_ m0 ⟨0,[],_,_,Ib tk,T.keep _ _ _ st fun b hb o e=>old b o e,fun b hb=>?_,w0⟩
    · rintro n s3 ⟨i,ys,τ,H3,I3,st3,fr3,w3⟩
      have htg':=htg G2.objs.size fp s H
      have hct':=hct G2.objs.size fp s H
      have hte':=hte G2.objs.size fp s H
      rw [hXb] at htg' hct' hte'
      have eP:Xb.prog=X.prog:=by subst hXb;rfl
      have ew:Xb.w=X.w:=by subst hXb;rfl
      have eK:Xb.K=X.K:=by subst hXb;rfl
      have eA:Xb.A=X.A:=by subst hXb;rfl
      have ec:Xb.calm=true:=by subst hXb;exact hc
      have ee:Xb.env=compEnvC scope (fX X.env.cells scope.names []) G2.objs.size X.env:=by subst hXb;rfl
      have ex:Xb.xe=fun _ _=>False:=by subst hXb;rfl
      rw [<-eP,<-ew,<-eA,<-ee]
      obtain⟨ha,hl,turn'⟩:=turn i n ys τ H3 w3
      rcases turn' with ⟨stop,q⟩ | ⟨go,N,hN,step⟩
      · have hd:=T.done Xb eP ew eK ec i [] s3 τ H3 (fun _ _=>False) I3 (fpB fr3) st3 stop
        rw [<-eP,<-ew] at hd
        refine wpAny_mono hd (fun r s4 hr4=>?_) fun _ _ z=>z
        obtain⟨hr,I4⟩:=hr4
        subst hr
        exact fin I4 q
      · have hd:=T.item Xb eP ew eK ec i [] s3 τ H3 (fun _ _=>False) I3 (fpB fr3) st3 go
        rw [<-eP,<-ew] at hd
        refine wpAny_mono hd (fun r s4 hr4=>?_) fun _ _ z=>z
        obtain⟨u,hr,h4⟩:=hr4
        subst hr
        refine wpAny_mono h4 (fun _ s5 ⟨x,H5,I5,r5,y5,st5,fr5⟩=>?_) fun _ _ z=>z
        have I5':=I5.pinned (fpB fr5) (T.obj _ _ st5)
        have keepT:∀ {σ7:St} {H7:Hp} {s7:Shared},Inv Xb ([] ++ ic fp s5.heap) σ7 H7 s7->tn (i+1) s7.heap/\∀ b ∈ fp,H7 b=none:=fun {σ7 H7 s7} I7=>by
          refine⟨T.keep _ _ _ st5 fun b hb o e=>(I7.pin (b,o) (List.mem_append_right _ (List.mem_append_right _ (cK hb e)))).1,fun b hb=>?_⟩
          obtain⟨o,e,d⟩:=T.obj _ _ st5 b hb
          exact (I7.pin (b,o) (List.mem_append_right _ (List.mem_append_right _ (cK hb e)))).2.1
        refine wpAny_mono (htg' _ s5 τ H5 x u _ I5' r5 (step x H5 y5)) (fun _ s6 ⟨τ6,H6,I6,q6⟩=>?_) (fun _ _ z=>by rw [ex] at z;exact z)
        refine wpAny_mono (hct' _ s6 τ6 H6 _ I6 q6) (fun ok s7 ⟨H7,I7,q7⟩=>?_) (fun _ _ z=>by rw [ex] at z;exact z)
        cases ok with
        | false =>
          have q7':N ys τ6 H7:=by rw [if_neg (by simp)] at q7;exact q7
          rw [if_neg (by simp)]
          obtain⟨m',hm,w7⟩:=hN _ _ _ q7'
          exact⟨m',hm,i+1,ys,τ6,H7,I7.dA,(keepT I7).1,(keepT I7).2,w7⟩
        | true =>
          rw [if_pos rfl] at q7 ⊢
          refine wpAny_mono (hte' _ s7 τ6 H7 _ I7 q7) (fun v s8 ⟨y,H8,I8,r8,ha8,n8⟩=>?_) (fun _ _ z=>by rw [ex] at z;exact z)
          refine wpAny_mono (cA (X:=Xb) _ s8 τ6 H8 (.ref s.heap.objs.size) [y] (.ref s.heap.objs.size) [v] (fun _ H9=>H9=upd H8 s.heap.objs.size (.lst (ys ++ [y]))) I8 rfl (.cons r8 .nil) ⟨_,ys,y,rfl,rfl,ha8,hl,rfl⟩) (fun _ s9 ⟨_,H9,I9,_,e9⟩=>?_) (fun _ _ z=>by rw [ex] at z;exact z)
          subst e9
          obtain⟨m',hm,w8⟩:=hN _ _ _ n8
          exact⟨m',hm,i+1,_,τ6,_,I9.dA,(keepT I9).1,(keepT I9).2,w8⟩
    · rw [af (Nat.ne_of_lt (hlt b hb))]
      exact (hfp b hb).1
  exact codeAny_compStart_list (loop _) (T.self _ 0 _ _ _ (T.keep _ _ _ st fun b hb o e=>old b o e) (loop _))
theorem Inv.mT {pins:List (Addr × Obj)} {σ : St} {H H':Hp} {s s':Shared} {C:Addr} {h':Heap} (I:Inv X pins σ H s) {σ':St} (I':Inv X pins σ' H' s') (hC:H' C=none) (hle:s.heap.objs.size<=C) (hsb:Heap.SameBut C s'.heap h') :
  Inv X pins σ' H' { s' with heap:=h' }:=by
 obtain⟨h1,h2,h3,h4,h5,h6⟩:=I.iQ (H':=H') hle hC
 exact I'.turned (t':=s'.toks) (fun b o hb e=>hsb.extBut b o hb e) hC h2 h4 h5 h6
theorem gh {tg elt iter:Expr} {ifs:List Expr} {scope:Scope} {wi:TI} {g:TG} {ct:TT} {te:TE} (ts fr:List Str) (js:List Nat)
  (hc:X.calm=true) (hi:PI X tg iter wi) (hkind:scope.kind=.function) (hcell:∀ y ∈ scope.names,y.2 ≠ .cell) (hnames:∀ y ∈ scope.names,y.2=.local->scope.names.lookup y.1=some .local)
  (hfree0:∀ y ∈ scope.names,y.2=.free->y.1 ∈ fr) (hfr:fu X scope fr js)
  (htg:∀ C fp s₁ H₁,PG (bW X scope C (ts++fr) fp s₁ H₁) tg g) (hct:∀ C fp s₁ H₁,ky (bW X scope C (ts++fr) fp s₁ H₁) ifs ct) (hte:∀ C fp s₁ H₁,PE (bW X scope C (ts++fr) fp s₁ H₁) elt te)
  (hs:∀ x,foldedSetIterable iter X.env x=pure x:=by intro _;rfl):PE X (.ListComp elt [⟨tg,iter,ifs,0⟩] scope pos) (AM ts.length js wi g ct te):=by
 have hfree:∀ y ∈ scope.names,y.2=.free->X.env.kindOf y.1=some .cell\/X.env.kindOf y.1=some .free:=fun y hy e=>hfr.mem (hfree0 y hy e)
 intro pins s σ H Q I h
 rw [eval_ListComp]
 refine wpAny_comprehension_free (use:=none) rfl hs (iC fun y hy e=>I.ok.has y.1 (hfree y hy e)) hkind hnames (aU (hi pins s σ H _ I h) fun xv s1 h1=>aU h1 fun itv s2 h2=>?_)
 obtain⟨it,fp,tn,J,H2,e,I2,T,st2,f2,hW⟩:=h2
 subst e
 refine rZ (RR:=fun acc C=>compPost (model X.prog X.w) X.A X.xe none (EP X pins σ Q) acc C) hc hkind hcell hfree hfr htg hct hte I2 T st2 f2 hW ?_
 intro acc C H' s' m I' hn hC hle q
 exact⟨m,hn,fun h' hsb=>⟨.ref acc,H',I2.mT I' hC hle hsb,rfl,q⟩⟩
theorem jQ {tg elt iter:Expr} {ifs:List Expr} {scope:Scope} {wi:TI} {g:TG} {ct:TT} {te:TE} {i:Nat} {y:Str} {py spos:Pos} (ts fr:List Str) (js:List Nat)
  (hsw:swapsWith (.ListComp elt [⟨tg,iter,ifs,0⟩] scope pos) (some (.Name y py)) spos.line X.env=pure true) (hN:X.N.Nodup) (hi0:X.N[i]? = some y) (hx:X.env.scope.names.lookup y=some .local)
  (hc:X.calm=true) (hi:PI X tg iter wi) (hkind:scope.kind=.function) (hcell:∀ y ∈ scope.names,y.2 ≠ .cell) (hnames:∀ y ∈ scope.names,y.2=.local->scope.names.lookup y.1=some .local)
  (hfree0:∀ y ∈ scope.names,y.2=.free->y.1 ∈ fr) (hfr:fu X scope fr js)
  (htg:∀ C fp s₁ H₁,PG (bW X scope C (ts++fr) fp s₁ H₁) tg g) (hct:∀ C fp s₁ H₁,ky (bW X scope C (ts++fr) fp s₁ H₁) ifs ct) (hte:∀ C fp s₁ H₁,PE (bW X scope C (ts++fr) fp s₁ H₁) elt te)
  (hs:∀ x,foldedSetIterable iter X.env x=pure x:=by intro _;rfl):PS X (.Assign [.Name y py] (.ListComp elt [⟨tg,iter,ifs,0⟩] scope pos) spos) (sS (AM ts.length js wi g ct te) (mK i)):=by
 have hfree:∀ y ∈ scope.names,y.2=.free->X.env.kindOf y.1=some .cell\/X.env.kindOf y.1=some .free:=fun y hy e=>hfr.mem (hfree0 y hy e)
 intro pins s σ H D I h
 rw [exec_Assign_Name_used _ _ _ _ hsw]
 refine wpAny_bind (wpAny_standAt (wpAny_bind ?_))
 show wpAny _ X.A (do let _ <-comprehension (.ListComp elt [⟨tg,iter,ifs,0⟩] scope pos) scope X.env _ (newList []) false (eval iter X.env) (some (assign (.Name y py) X.env))) _ _ s
 refine wpAny_bind (wpAny_mono (wpAny_comprehension_free (use:=some (assign (.Name y py) X.env)) (Q:=fun _ s'=>SP X pins D .next s') rfl hs (iC fun y hy e=>I.ok.has y.1 (hfree y hy e)) hkind hnames
  (aU (hi pins s σ H _ I h) fun xv s1 h1=>aU h1 fun itv s2 h2=>?_)) (fun _ s' hq=>wpAny_pure (wpAny_pure hq)) fun _ _ e=>e)
 obtain⟨it,fp,tn,J,H2,e,I2,T,st2,f2,hW⟩:=h2
 subst e
 refine rZ (Q:=fun v H'=>D.nx (σ.set i (some v)) H') (RR:=fun acc C=>compPost (model X.prog X.w) X.A X.xe (some (assign (.Name y py) X.env)) (fun _ s'=>SP X pins D .next s') acc C) hc hkind hcell hfree hfr htg hct hte I2 T st2 f2 hW ?_
 intro acc C H' s' m I' hn hC hle q
 show wpAny _ X.A (assign (.Name y py) X.env (.ref acc)) _ _ _
 refine wpAny_assign_Name (kf I' hN hi0 (.inl hx) (v:=.ref acc) rfl (fun s'' I'' hch=>?_) (.inr hx))
 obtain⟨h1,h2,h3,h4,h5,h6⟩:=I2.iQ (H':=H') hle hC
 obtain⟨a,hsb,ha⟩:=hch
 refine⟨m,hn.sameBut hsb ?_,fun h' hsb'=>⟨_,H',I2.mT I'' hC hle hsb',q⟩⟩
 rcases ha with ha | ha
 ·rw [ha];exact h2
 ·exact fun z=>h5 y a ha z.symm
end
theorem lj {K:PySem.W.Frag} {a acc:Addr} {xs:List V} {n:Nat} {js:List Nat} {g:TG} {ct:TT} {te:TE} {σ : St} {H1:Hp} {Q:VK} (Pv:Nat->List V->St->Hp->Prop) (h0:Pv 0 [] (fq n js σ) (upd H1 acc (.lst [])))
  (hl:∀ i ys τ H,i<=xs.length->Pv i ys τ H->aM K H a xs/\H acc=some (.lst ys)/\ys.length < sizeLine)
  (hs:∀ i x ys τ H,xs[i]? = some x->Pv i ys τ H->g x τ H fun τ1 H4=>ct τ1 H4 fun b H5=>if b=true then te τ1 H5 fun y H6=>H6 acc=some (.lst ys)/\Pv (i+1) (ys ++ [y]) τ1 (upd H6 acc (.lst (ys ++ [y]))) else Pv (i+1) ys τ1 H5)
  (hd:∀ ys τ H,Pv xs.length ys τ H->Q (.ref acc) H) :
  rY (pH K a) n js g ct te acc σ H1 Q:=by
 refine⟨fun i m ys τ H=>m=xs.length - i/\i<=xs.length/\Pv i ys τ H,⟨xs.length,by simp,Nat.zero_le _,h0⟩,?_⟩
 rintro i m ys τ H ⟨rfl,hi,p⟩
 obtain⟨q,q2,q3⟩:=hl i ys τ H hi p
 refine⟨q2,q3,?_⟩
 by_cases hlt:i < xs.length
 ·refine .inr ⟨⟨xs,xs[i],q,by simp [hlt]⟩,Pv (i+1),fun ys' τ' H' p'=>⟨xs.length - (i+1),by omega,rfl,hlt,p'⟩,fun x H' y=>?_⟩
  obtain⟨e,y⟩:=y
  subst e
  exact hs i x ys τ _ (y xs q) p
 ·have e:i=xs.length:=by omega
  subst e
  exact .inl ⟨⟨xs,q,Nat.le_refl _⟩,hd ys τ H p⟩
theorem pV {K:PySem.W.Frag} {a acc:Addr} {xs:List V} {n:Nat} {js:List Nat} {g:TG} {ct:TT} {te:TE} {σ : St} {H1:Hp} {Q:VK} (Pv:Nat->List V->St->Hp->Prop) (h0:Pv 0 [] (fq n js σ) (upd H1 acc (.lst [])))
  (hl:∀ i ys τ H,i<=xs.length->Pv i ys τ H->av K H a xs/\H acc=some (.lst ys)/\ys.length < sizeLine)
  (hs:∀ i x ys τ H,xs[i]? = some x->Pv i ys τ H->g x τ H fun τ1 H4=>ct τ1 H4 fun b H5=>if b=true then te τ1 H5 fun y H6=>H6 acc=some (.lst ys)/\Pv (i+1) (ys ++ [y]) τ1 (upd H6 acc (.lst (ys ++ [y]))) else Pv (i+1) ys τ1 H5)
  (hd:∀ ys τ H,Pv xs.length ys τ H->Q (.ref acc) H) :
  rY (rP K a) n js g ct te acc σ H1 Q:=by
 refine⟨fun i m ys τ H=>m=xs.length - i/\i<=xs.length/\Pv i ys τ H,⟨xs.length,by simp,Nat.zero_le _,h0⟩,?_⟩
 rintro i m ys τ H ⟨rfl,hi,p⟩
 obtain⟨q,q2,q3⟩:=hl i ys τ H hi p
 refine⟨q2,q3,?_⟩
 by_cases hlt:i < xs.length
 ·refine .inr ⟨⟨xs,xs[i],q,by simp [hlt]⟩,Pv (i+1),fun ys' τ' H' p'=>⟨xs.length - (i+1),by omega,rfl,hlt,p'⟩,fun x H' y=>?_⟩
  obtain⟨e,y⟩:=y
  subst e
  exact hs i x ys τ _ (y xs q) p
 ·have e:i=xs.length:=by omega
  subst e
  exact .inl ⟨⟨xs,q,Nat.le_refl _⟩,hd ys τ H p⟩
theorem lZ {lo:Int} {k:Nat} {acc:Addr} {n:Nat} {js:List Nat} {g:TG} {ct:TT} {te:TE} {σ : St} {H1:Hp} {Q:VK} (Pv:Nat->List V->St->Hp->Prop) (h0:Pv 0 [] (fq n js σ) (upd H1 acc (.lst [])))
  (hl:∀ i ys τ H,i<=k->Pv i ys τ H->H acc=some (.lst ys)/\ys.length < sizeLine)
  (hs:∀ i ys τ H,i < k->Pv i ys τ H->g (.int (lo+i)) τ H fun τ1 H4=>ct τ1 H4 fun b H5=>if b=true then te τ1 H5 fun y H6=>H6 acc=some (.lst ys)/\Pv (i+1) (ys ++ [y]) τ1 (upd H6 acc (.lst (ys ++ [y]))) else Pv (i+1) ys τ1 H5)
  (hd:∀ ys τ H,Pv k ys τ H->Q (.ref acc) H) :
  rY (pI lo k) n js g ct te acc σ H1 Q:=by
 refine⟨fun i m ys τ H=>m=k - i/\i<=k/\Pv i ys τ H,⟨k,by simp,Nat.zero_le _,h0⟩,?_⟩
 rintro i m ys τ H ⟨rfl,hi,p⟩
 obtain⟨q2,q3⟩:=hl i ys τ H hi p
 refine⟨q2,q3,?_⟩
 by_cases hlt:i < k
 ·refine .inr ⟨hlt,Pv (i+1),fun ys' τ' H' p'=>⟨k - (i+1),by omega,rfl,hlt,p'⟩,fun x H' y=>?_⟩
  obtain⟨e,y⟩:=y
  subst e y
  exact hs i ys τ _ hlt p
 ·have e:i=k:=by omega
  subst e
  exact .inl ⟨Nat.le_refl _,hd ys τ H p⟩
section
variable {X:Cx}
end
def Bt (t:TS):TS:=fun D σ H=>∃ M:St->Hp->Prop,t { D with nx:=M } σ H/\∀ σ' H',M σ' H'->D.nx σ' H'
theorem cB {X:Cx} {st:Stmt} {t:TS} (h:PS X st t):PS X st (Bt t):=by
 intro pins s σ H D I q
 obtain⟨M,q,hM⟩:=q
 refine aU (h pins s σ H _ I q) fun f s' hs=>?_
 cases f with
 | next =>
  obtain⟨σ',H',I',m⟩:=hs
  exact⟨σ',H',I',hM _ _ m⟩
 | brk=>exact hs
 | cont=>exact hs
 | ret u=>exact hs
theorem gJ {m:Int} (h0:0 < m) (h1:m < 1073741824):m.natAbs.log2 < 9000:=by
 have h:m.natAbs.log2 < 30:=(Nat.log2_lt (by omega)).mpr (by omega)
 omega
theorem nG {X:Cx} {K:PySem.W.Frag} {es:List Expr} {k:Nat} {t:oq} {n:Nat} {pos:Pos} (hK:X.K=K) (h:PG X (.Tuple es k pos) (vT X.K n t)):PG X (.Tuple es k pos) (vT K n t):=by
 subst hK
 exact h
mutual
inductive aY (H:Hp):V->PyData->Prop
 | bx:aY H .bx .none
 | bl (b:Bool):aY H (.bl b) (.bool b)
 | int (i:Int):aY H (.int i) (.int i)
 | str (x:Str):aY H (.str x) (.str x)
 | lst {p:Addr} {xs:List V} {ds:List PyData}:H p=some (.lst xs)->aV H xs ds->aY H (.ref p) (.list ds)
 | tup {p:Addr} {xs:List V} {ds:List PyData}:H p=some (.tup xs)->aV H xs ds->aY H (.ref p) (.tuple ds)
inductive aV (H:Hp):List V->List PyData->Prop
 | nil:aV H [] []
 | cons {x:V} {xs:List V} {d:PyData} {ds:List PyData}:aY H x d->aV H xs ds->aV H (x :: xs) (d :: ds)
end
section
variable {P:Program} {w:World} {H:Hp} {h:Heap}
mutual
theorem aY.reads (ok:dm P w H h):∀ {x:V} {d:PyData} {v:Value},aY H x d->RelV x v->∃ as,Reads h v d as
 | _,_,v,.bx,r=>by
  cases (show v=Value.none from r)
  exact⟨_,.none⟩
 | _,_,v,.bl b,r=>by
  cases (show v=Value.bool b from r)
  exact⟨_,.bool b⟩
 | _,_,v,.int i,r=>by
  obtain⟨t,e⟩:=(show ∃ t,v=Value.int i t from r)
  cases e
  exact⟨_,.int i t⟩
 | _,_,v,.str x,r=>by
  obtain⟨t,e⟩:=(show ∃ t,v=Value.str x t from r)
  cases e
  exact⟨_,.str x t⟩
 | _,_,v,.lst (p:=p) (xs:=xs) e ds,r=>by
  cases (show v=Value.ref p from r)
  obtain⟨_,its,n,rv,h1⟩:=(show bV P w H h p (.lst xs) from ok p _ e)
  obtain⟨as,ra⟩:=aV.reads ok ds rv
  exact⟨_,.list (vs:=its.toArray) h1 rfl rfl (by simpa using ra)⟩
 | _,_,v,.tup (p:=p) (xs:=xs) e ds,r=>by
  cases (show v=Value.ref p from r)
  obtain⟨_,its,rv,o,h1,h2,n,h3⟩:=(show bV P w H h p (.tup xs) from ok p _ e)
  obtain⟨as,ra⟩:=aV.reads ok ds rv
  exact⟨_,.tuple (vs:=its.toArray) h1 h2 h3.1 (by simpa using ra)⟩
theorem aV.reads (ok:dm P w H h):∀ {xs:List V} {ds:List PyData} {vs:List Value},aV H xs ds->Vals xs vs->∃ as,ReadsAll h vs ds as
 | _,_,_,.nil,.nil=>⟨_,.nil⟩
 | _,_,_,.cons r rs,.cons q qs=>by
  obtain⟨as,ra⟩:=aY.reads ok r q
  obtain⟨bs,rb⟩:=aV.reads ok rs qs
  exact⟨_,.cons ra rb⟩
end
end
section
variable {X:Cx}
def zz (neg:Bool):R2:=fun x y H Q=>∃ dx dy,aY H x dx/\aY H y dy/\dx.canLay0=true/\dy.canLay0=true/\min dx.depth dy.depth<=60/\Q (.bl (if neg then !PyData.eqv dx dy else PyData.eqv dx dy)) H
theorem zA (hu:X.A.units+64 < cLine):fo X (compareOp .Eq) (zz false):=by
 intro pins s σ H x y v u Q I rx ry h
 obtain⟨dx,dy,r1,r2,c1,c2,hd,q⟩:=h
 obtain⟨as,ra⟩:=r1.reads I.aP rx
 obtain⟨bs,rb⟩:=r2.reads I.aP ry
 exact PySem.SeqAt.compareEq_reads ra rb c1 c2 (by omega) ⟨.bl _,H,I,rfl,q⟩
theorem kA (hu:X.A.units+64 < cLine):fo X (compareOp .NotEq) (zz true):=by
 intro pins s σ H x y v u Q I rx ry h
 obtain⟨dx,dy,r1,r2,c1,c2,hd,q⟩:=h
 obtain⟨as,ra⟩:=r1.reads I.aP rx
 obtain⟨bs,rb⟩:=r2.reads I.aP ry
 exact PySem.SeqAt.neOverData X.prog X.w X.A X.xe s v u dx dy as bs _ ra rb c1 c2 (by omega) ⟨.bl _,H,I,rfl,q⟩
end
def one (c:Nat):Str:=⟨#[c]⟩
theorem pW (rest:List Str):∀ a:Array Nat,(rest.foldl (fun acc p=>acc++Str.empty.cps++p.cps) a).toList=a.toList++rest.flatMap (·.cps.toList):=by
 induction rest with
 | nil=>intro a;simp
 | cons x r ih =>
  intro a
  rw [List.foldl_cons,ih]
  have e:Str.empty.cps = #[]:=rfl
  simp [e]
theorem join_ones (cs:List Nat):(Txt.join Str.empty (cs.map one)).cps.toList=cs:=by
 cases cs with
 | nil=>rfl
 | cons c r =>
  show (List.foldl (fun acc p=>acc++Str.empty.cps++p.cps) (#[c]:Array Nat) (r.map one)).toList=c :: r
  rw [pW]
  simp only [List.flatMap_map,one]
  simp
theorem wx:Str.ofString "" = Str.empty:=by decide +kernel
theorem tG {ys:List Str}:∀ {us:List Value},Vals (ys.map V.str) us->StrsAre us ys:=by
 induction ys with
 | nil=>intro us r;cases r;exact .nil
 | cons y ys ih =>
  intro us r
  cases r with
  | cons h t =>
   obtain⟨k,e⟩:=h
   subst e
   exact .cons y k (ih t)
section
variable {X:Cx}
def rJoin (K:PySem.W.Frag):V->List V->Hp->VK->Prop:=fun x vs H Q=>∃ (z:Str) (p:Addr) (ys:List Str),x=.str z/\vs = [.ref p]/\aM K H p (ys.map V.str)/\(ys.map (·.length)).sum+ys.length * z.length<=16777216/\Q (.str (Txt.join z ys)) H
theorem r6:zo X "str.join" (rJoin X.K):=by
 intro pins s σ H x vs v us Q I rx rv h
 obtain⟨z,p,ys,rfl,rfl,hS,hz,q⟩:=h
 obtain⟨t,e⟩:=(show ∃ t,v=Value.str z t from rx)
 subst e
 obtain⟨u,rfl,ru⟩:=vals1 rv
 cases (show u=Value.ref p from ru)
 obtain⟨its,rv',pl,_⟩:=I.list hS
 exact join_list pl.isList (by simpa using tG rv') hz fun t' k=>⟨.str _,H,I.tok k,⟨_,rfl⟩,q⟩
end
inductive aW where
 | put (x:Str) (n:Int)
 | copy (x y:Str)
 | add (x:Str) (n:Int)
 | read (x:Str)
 | tell (x:Str)
inductive End where
 | stop
 | go (p:Nat)
 | dD (less:Bool) (x:Str) (n:Int) (p q:Nat)
abbrev Piece:=List aW × End
def wT (b:Bool):Str:=if b=true then "less" else "is"
def bH:aW->PyData
 | .put x n=>.tuple [.str "put",.str x,.int n]
 | .copy x y=>.tuple [.str "copy",.str x,.str y]
 | .add x n=>.tuple [.str "add",.str x,.int n]
 | .read x=>.tuple [.str "read",.str x]
 | .tell x=>.tuple [.str "tell",.str x]
def gX:End->PyData
 | .stop=>.tuple [.str "stop"]
 | .go p=>.tuple [.str "go",.int p]
 | .dD b x n p q=>.tuple [.str (wT b),.str x,.int n,.int p,.int q]
def eY (p:Piece):PyData:=.tuple [.tuple (p.1.map bH),gX p.2]
def cG (ps:List Piece):PyData:=.tuple (ps.map eY)
structure ik (x:Str):Prop where
 lo:1<=x.length
 hi:x.length<=8
 az:∀ c ∈ x.cps.toList,97<=c/\c<=122
def jR (n:Int):Prop:=-(10 ^ 40) < n/\n < 10 ^ 40
def iZ (xs:List Str):aW->Prop
 | .put x n=>x ∈ xs/\jR n
 | .copy x y=>x ∈ xs/\y ∈ xs
 | .add x n=>x ∈ xs/\jR n
 | .read x=>x ∈ xs
 | .tell x=>x ∈ xs
def o4 (xs:List Str) (count:Nat):End->Prop
 | .stop=>True
 | .go p=>p < count
 | .dD _ x n p q=>x ∈ xs/\jR n/\p < count/\q < count
structure i3 (xs:List Str) (most:Nat) (ps:List Piece):Prop where
 hX:∀ p ∈ ps,p.1.length<=most/\∀ d ∈ p.1,iZ xs d
 ends:∀ p ∈ ps,o4 xs ps.length p.2
mutual
def eC:PyData->Bool
 | .list _=>false
 | .tuple xs=>cf xs
 | _=>true
def cf:List PyData->Bool
 | []=>true
 | x :: xs=>eC x && cf xs
end
mutual
theorem aY.df {H H':Hp} (k:∀ p xs,H p=some (.tup xs)->H' p=some (.tup xs)):∀ {x:V} {d:PyData},aY H x d->eC d=true->aY H' x d
 | _,_,.bx,_=>.bx
 | _,_,.bl b,_=>.bl b
 | _,_,.int i,_=>.int i
 | _,_,.str x,_=>.str x
 | _,_,.lst _ _,h=>nomatch h
 | _,_,.tup e ds,h=>.tup (k _ _ e) (aV.df k ds h)
theorem aV.df {H H':Hp} (k:∀ p xs,H p=some (.tup xs)->H' p=some (.tup xs)):∀ {xs:List V} {ds:List PyData},aV H xs ds->cf ds=true->aV H' xs ds
 | _,_,.nil,_=>.nil
 | _,_,.cons r rs,h=>by
  simp only [cf,Bool.and_eq_true] at h
  exact .cons (aY.df k r h.1) (aV.df k rs h.2)
end
theorem aY.fix {b:Addr} {H H':Hp} {x:V} {d:PyData} (r:aY H x d) (hb:cN H b) (f:Fix b H H') (n:eC d=true):aY H' x d :=
 r.df (fun p xs e=>f p _ e (hb.pT e)) n
theorem aY.same {H H':Hp} {x:V} {d:PyData} (r:aY H x d) (f:ao H H') (n:eC d=true):aY H' x d :=
 r.df (fun p xs e=>f p _ e) n
theorem aV.fix {b:Addr} {H H':Hp} {xs:List V} {ds:List PyData} (r:aV H xs ds) (hb:cN H b) (f:Fix b H H') (n:cf ds=true):aV H' xs ds :=
 r.df (fun p xs e=>f p _ e (hb.pT e)) n
theorem aV.same {H H':Hp} {xs:List V} {ds:List PyData} (r:aV H xs ds) (f:ao H H') (n:cf ds=true):aV H' xs ds :=
 r.df (fun p xs e=>f p _ e) n
theorem aV.put {H:Hp} {xs ys:List V} {ds:List PyData} {l:Addr} {o:HO} (r:aV H xs ds) (hl:H l=some (.lst ys)) (n:cf ds=true):aV (upd H l o) xs ds :=
 r.df (fun p zs e=>by rw [af (bI e hl (by intro z;cases z))];exact e) n
theorem aV.app {H:Hp} {x:V} {d:PyData}:∀ {xs:List V} {ds:List PyData},aV H xs ds->aY H x d->aV H (xs ++ [x]) (ds ++ [d])
 | _,_,.nil,q=>.cons q .nil
 | _,_,.cons r rs,q=>.cons r (aV.app rs q)
theorem aV.len {H:Hp}:∀ {xs:List V} {ds:List PyData},aV H xs ds->xs.length=ds.length
 | _,_,.nil=>rfl
 | _,_,.cons _ rs=>by simp [aV.len rs]
theorem lK (d:aW):eC (bH d)=true:=by cases d <;> rfl
theorem jS (e:End):eC (gX e)=true:=by cases e <;> rfl
theorem bP:∀ ds:List aW,cf (ds.map bH)=true
 | []=>rfl
 | d :: ds=>by show (eC (bH d) && cf (ds.map bH))=true;rw [lK,bP ds];rfl
theorem kB (p:Piece):eC (eY p)=true:=by
 show (cf (p.1.map bH) && (eC (gX p.2) && true))=true
 rw [bP,jS];rfl
theorem bt:∀ ps:List Piece,cf (ps.map eY)=true
 | []=>rfl
 | p :: ps=>by show (eC (eY p) && cf (ps.map eY))=true;rw [kB,bt ps];rfl
theorem cL (ps:List Piece):eC (cG ps)=true:=bt ps
structure fH (H:Hp) (b l:Addr) (xs:List Str):Prop where
 at_:H l=some (.lst (xs.map V.str))
 ne:l ≠ b
 tH:xs ≠ []
 bK:xs.length<=1000
 ok:∀ x ∈ xs,ik x
theorem fH.fix {H H':Hp} {b l:Addr} {xs:List Str} (h:fH H b l xs) (f:Fix b H H'):fH H' b l xs:=⟨f l _ h.at_ h.ne,h.ne,h.tH,h.bK,h.ok⟩
theorem fH.pos {H:Hp} {b l:Addr} {xs:List Str} (h:fH H b l xs):0 < ((xs.map V.str).length:Int)/\((xs.map V.str).length:Int) < 1073741824:=by
 have h1:=h.tH
 have h2:=h.bK
 have h3:0 < xs.length:=by cases xs with | nil=>exact absurd rfl h1 | cons _ _=>simp
 rw [List.length_map]
 omega
def nH:Sp:=fun vs H Q _=>∃ (b:Addr),vs = [.ref b]/\cN H b/\∀ l xs H',fH H' b l xs->xs.length<=4->cN H' b->Fix b H H'->Q (.ref l) H'
def i4:Sp:=fun vs H Q _=>∃ (b:Addr),vs = [.ref b]/\cN H b/\∀ n H',jR n->cN H' b->Fix b H H'->Q (.int n) H'
def pX:Sp:=fun vs H Q _=>∃ (b l:Addr) (xs:List Str),vs = [.ref b,.ref l]/\cN H b/\fH H b l xs/\∀ v d H',aY H' v (bH d)->iZ xs d->cN H' b->Fix b H H'->Q v H'
def pY:Sp:=fun vs H Q _=>∃ (b l:Addr) (xs:List Str) (c:Nat),vs = [.ref b,.ref l,.int c]/\cN H b/\fH H b l xs/\0 < c/\c < 1073741824/\∀ v e H',aY H' v (gX e)->o4 xs c e->cN H' b->Fix b H H'->Q v H'
def pZ:Sp:=fun vs H Q _=>∃ (b:Addr) (c m:Nat),vs = [.ref b,.int c,.int m]/\cN H b/\0 < c/\c<=1000/\m<=1000/\∀ v xs ps H',aY H' v (cG ps)->ps.length=c->i3 xs m ps->((∀ x ∈ xs,ik x)/\xs.length<=4)->cN H' b->Fix b H H'->Q v H'
def nI:Sp:=fun vs H Q _=>∃ (b:Addr) (m:Nat),vs = [.ref b,.int m]/\cN H b/\0 < m/\m<=1000/\∀ (n:Nat) H',0 < n->n<=max m 4->cN H' b->Fix b H H'->Q (.int n) H'
def mU:Str := "abcdefghijklmnopqrstuvwxyz"
theorem p4:mU.cps.toList=(List.range 26).map (· + 97):=by decide +kernel
theorem sd:mU.length<=sizeLine:=by decide +kernel
theorem uU {r:Int} (h0:0<=r) (h1:r < 26):∃ c,dY mU.cps.toList r=some c/\97<=c/\c<=122:=by
 have hl:mU.cps.toList.length=26:=by rw [p4];simp
 obtain⟨c,hc,hm⟩:=tE (xs:=mU.cps.toList) h0 (by rw [hl];exact h1)
 refine⟨c,hc,?_⟩
 rw [p4] at hm
 obtain⟨k,hk,rfl⟩:=List.mem_map.mp hm
 have:=List.mem_range.mp hk
 omega
theorem ma {xs:List Str} {r:Int} (h0:0<=r) (h1:r < ((xs.map V.str).length:Int)):∃ x,dY (xs.map V.str) r=some (V.str x)/\x ∈ xs:=by
 obtain⟨v,hv,hm⟩:=tE h0 h1
 obtain⟨x,hx,rfl⟩:=List.mem_map.mp hm
 exact⟨x,hv,hx⟩
theorem wy {σ : L2.St} {H:Hp} {Q:Bool->Hp->Prop} (h:Q true H):zy σ H Q:=h
theorem kC {i:Nat} {v:V} {σ : L2.St} {H:Hp} {Q:L2.St->Hp->Prop} (h:Q (σ.set i (some v)) H):mK i v σ H Q:=h
section
variable {κ : Type} [DecidableEq κ]
def dh (kvs:List (κ × V)) (k:κ):Option V:=(kvs.find? fun kv=>decide (kv.1=k)).map (·.2)
def putK (kvs:List (κ × V)) (k:κ) (v:V):List (κ × V) :=
 if (kvs.any fun kv=>decide (kv.1=k))=true then kvs.map (fun kv=>if kv.1=k then (kv.1,v) else kv) else kvs ++ [(k,v)]
theorem cX {p:κ × V} {r:List (κ × V)} {k:κ} (e:p.1=k):dh (p :: r) k=some p.2:=by simp [dh,List.find?_cons,e]
theorem cY {p:κ × V} {r:List (κ × V)} {k:κ} (e:¬ p.1=k):dh (p :: r) k=dh r k:=by simp [dh,List.find?_cons,e]
theorem jT (k:κ):∀ kvs:List (κ × V),(kvs.any fun kv=>decide (kv.1=k))=(dh kvs k).isSome
 | []=>rfl
 | p :: r=>by
  rw [List.any_cons]
  by_cases e:p.1=k
  ·simp only [cX e,decide_eq_true e,Bool.true_or,Option.isSome_some]
  ·rw [cY e,decide_eq_false e,Bool.false_or];exact jT k r
theorem p5 (k j:κ) (y:V):∀ kvs:List (κ × V),dh (kvs.map fun kv=>if kv.1=k then (kv.1,y) else kv) j=(dh kvs j).map fun x=>if j=k then y else x
 | []=>rfl
 | p :: r=>by
  have ih:=p5 k j y r
  rw [List.map_cons]
  by_cases h:p.1=k
  ·rw [if_pos h]
   by_cases e:p.1=j
   ·rw [cX (p:=(p.1,y)) e,cX e,Option.map_some,if_pos (e.symm.trans h)]
   ·rw [cY (p:=(p.1,y)) e,cY e,ih]
  ·rw [if_neg h]
   by_cases e:p.1=j
   ·rw [cX (p:=p) e,cX e,Option.map_some,if_neg (fun z=>h (e.trans z))]
   ·rw [cY (p:=p) e,cY e,ih]
theorem oC (k j:κ) (y:V):∀ kvs:List (κ × V),dh kvs k=none->dh (kvs ++ [(k,y)]) j=if j=k then some y else dh kvs j
 | [],_=>by
  by_cases e:k=j
  ·rw [if_pos e.symm];exact cX (p:=(k,y)) e
  ·rw [if_neg (fun z=>e z.symm)];exact cY (p:=(k,y)) e
 | p :: r,hn=>by
  rw [List.cons_append]
  have hk:¬ p.1=k:=fun z=>by rw [cX z] at hn;cases hn
  rw [cY hk] at hn
  have ih:=oC k j y r hn
  by_cases e:p.1=j
  ·rw [cX e,cX e,if_neg (fun z=>hk (e.trans z))]
  ·rw [cY e,cY e,ih]
theorem p6 (kvs:List (κ × V)) (k j:κ) (y:V):dh (putK kvs k y) j=if j=k then some y else dh kvs j:=by
 unfold putK
 by_cases a:(kvs.any fun kv=>decide (kv.1=k))=true
 ·rw [if_pos a,p5]
  rw [jT] at a
  by_cases e:j=k
  ·obtain⟨x,hx⟩:=Option.isSome_iff_exists.mp a
   rw [if_pos e,e,hx,Option.map_some,if_pos rfl]
  ·rw [if_neg e]
   cases dh kvs j with
   | none=>rfl
   | some x=>rw [Option.map_some,if_neg e]
 ·rw [if_neg a]
  refine oC k j y kvs ?_
  rw [jT] at a
  cases q:dh kvs k with
  | none=>rfl
  | some x=>rw [q] at a;exact (a rfl).elim
theorem cx (kvs:List (κ × V)) (k:κ) (v:V):(putK kvs k v).length<=kvs.length+1:=by
 unfold putK
 split
 ·rw [List.length_map];omega
 ·rw [List.length_append,List.length_cons,List.length_nil];omega
theorem fS.kF {o:Option V} {u:Option Value} (r:fS o u):o.isSome=u.isSome:=by
 cases o with
 | none=>cases u with
  | none=>rfl
  | some _=>exact (show False from r).elim
 | some _=>cases u with
  | none=>exact (show False from r).elim
  | some _=>rfl
theorem fS.getD {o:Option V} {u:Option Value} {d:V} {d':Value} (r:fS o u) (rd:RelV d d'):RelV (o.getD d) (u.getD d'):=by
 cases o with
 | none=>cases u with
  | none=>exact rd
  | some _=>exact (show False from r).elim
 | some _=>cases u with
  | none=>exact (show False from r).elim
  | some _=>exact r
theorem KV.val {kvs:List (κ × V)} {vs:List (κ × Value)} (r:KV kvs vs) (k:κ):fS (dh kvs k) (valueAt vs k):=by
 unfold KV at r
 induction r with
 | nil=>exact True.intro
 | @cons p q ps qs h t ih =>
  obtain⟨h1,h2⟩:=h
  by_cases e:p.1=k
  ·have e':q.1=k:=h1.symm.trans e
   have b:valueAt (q :: qs) k=some q.2:=by simp [valueAt,List.find?_cons,e']
   rw [cX e,b];exact h2
  ·have e':¬ q.1=k:=fun z=>e (h1.trans z)
   have b:valueAt (q :: qs) k=valueAt qs k:=by simp [valueAt,List.find?_cons,e']
   rw [cY e,b];exact ih
theorem KV.any {kvs:List (κ × V)} {vs:List (κ × Value)} (r:KV kvs vs) (k:κ):(kvs.any fun kv=>decide (kv.1=k))=vs.any fun kv=>decide (kv.1=k):=by
 unfold KV at r
 induction r with
 | nil=>rfl
 | cons h t ih=>rw [List.any_cons,List.any_cons,ih,h.1]
theorem KV.wz {kvs:List (κ × V)} {vs:List (κ × Value)} (r:KV kvs vs) (k:κ) {y:V} {u:Value} (ry:RelV y u) :
  KV (kvs.map fun kv=>if kv.1=k then (kv.1,y) else kv) (vs.map fun kv=>if kv.1=k then (kv.1,u) else kv):=by
 unfold KV at r ⊢
 induction r with
 | nil=>exact .nil
 | @cons p q ps qs h t ih =>
  rw [List.map_cons,List.map_cons]
  refine .cons ?_ ih
  obtain⟨h1,h2⟩:=h
  by_cases e:p.1=k
  ·rw [if_pos e,if_pos (h1.symm.trans e)];exact⟨h1,ry⟩
  ·rw [if_neg e,if_neg (fun z=>e (h1.trans z))];exact⟨h1,h2⟩
theorem KV.put {kvs:List (κ × V)} {vs:List (κ × Value)} (r:KV kvs vs) (k:κ) {y:V} {u:Value} (ry:RelV y u):KV (putK kvs k y) (stored vs k u):=by
 unfold putK stored
 rw [r.any k]
 by_cases e:(vs.any fun kv=>decide (kv.1=k))=true
 ·rw [if_pos e,if_pos e];exact r.wz k ry
 ·rw [if_neg e,if_neg e];exact Paired.snoc r ⟨rfl,ry⟩
theorem KV.keys {kvs:List (κ × V)} {vs:List (κ × Value)} (r:KV kvs vs):kvs.map (·.1)=vs.map (·.1):=by
 unfold KV at r
 induction r with
 | nil=>rfl
 | cons h t ih=>rw [List.map_cons,List.map_cons,ih,h.1]
theorem KV.length {kvs:List (κ × V)} {vs:List (κ × Value)} (r:KV kvs vs):kvs.length=vs.length:=Paired.length r
end
theorem mV {P:Program} {w:World} {k:Key} {u:Value} (r:RelV (kV k) u):(aN P w).is k u=true:=by
 cases k with
 | inl i=>obtain⟨t,e⟩:=(show ∃ t,u=Value.int i t from r);subst e;exact lF P w i t
 | inr x=>obtain⟨t,e⟩:=(show ∃ t,u=Value.str x t from r);subst e;exact lG P w x t
theorem oE {P:Program} {w:World}:∀ {ks:List Key} {us:List Value},Vals (ks.map kV) us->ItemsAre (aN P w) ks us
 | [],_,r=>by rw [List.map_nil] at r;cases r;exact .nil
 | k :: ks,_,r=>by
  rw [List.map_cons] at r
  cases r with
  | cons h t=>exact .cons (mV h) (oE t)
abbrev KT (H:Hp):List (List Key × V)->List (List Key × Addr × Value)->Prop:=Paired fun p q=>p.1=q.1/\H q.2.1=some (.tup (p.1.map kV))/\RelV p.2 q.2.2
theorem KT.val {H:Hp} {kvs:List (List Key × V)} {xs:List (List Key × Addr × Value)} (r:KT H kvs xs) (k:List Key):fS (dh kvs k) ((atKey xs k).map (·.2)):=by
 induction r with
 | nil=>exact True.intro
 | @cons p q ps qs h t ih =>
  obtain⟨h1,_,h2⟩:=h
  by_cases e:p.1=k
  ·have e':q.1=k:=h1.symm.trans e
   have b:atKey (q :: qs) k=some q.2:=by simp [atKey,List.find?_cons,e']
   rw [cX e,b];exact h2
  ·have e':¬ q.1=k:=fun z=>e (h1.trans z)
   have b:atKey (q :: qs) k=atKey qs k:=by simp [atKey,List.find?_cons,e']
   rw [cY e,b];exact ih
theorem KT.wz {H:Hp} {kvs:List (List Key × V)} {xs:List (List Key × Addr × Value)} (r:KT H kvs xs) (k:List Key) {y:V} {u:Value} (ry:RelV y u) :
  KT H (kvs.map fun kv=>if kv.1=k then (kv.1,y) else kv) (xs.map (putAt k u)):=by
 induction r with
 | nil=>exact .nil
 | @cons p q ps qs h t ih =>
  rw [List.map_cons,List.map_cons]
  refine .cons ?_ ih
  obtain⟨h1,h2,h3⟩:=h
  unfold putAt
  by_cases e:p.1=k
  ·rw [if_pos e,if_pos (h1.symm.trans e)];exact⟨h1,h2,ry⟩
  ·rw [if_neg e,if_neg (fun z=>e (h1.trans z))];exact⟨h1,h2,h3⟩
theorem KT.put {H:Hp} {kvs:List (List Key × V)} {xs:List (List Key × Addr × Value)} (r:KT H kvs xs) (k:List Key) {b:Addr} {y:V} {u:Value} (hb:H b=some (.tup (k.map kV))) (ry:RelV y u) :
  KT H (putK kvs k y) (storedH xs k b u):=by
 have e:(kvs.any fun kv=>decide (kv.1=k))=(atKey xs k).isSome:=by
  rw [jT,(r.val k).kF,Option.isSome_map]
 unfold putK storedH
 rw [e]
 by_cases q:(atKey xs k).isSome=true
 ·rw [if_pos q,if_pos q];exact r.wz k ry
 ·rw [if_neg q,if_neg q];exact Paired.snoc r ⟨rfl,hb,ry⟩
theorem KT.keeps {H H':Hp} {kvs:List (List Key × V)} {xs:List (List Key × Addr × Value)} (r:KT H kvs xs) (ht:∀ b ys,H b=some (.tup ys)->H' b=some (.tup ys)):KT H' kvs xs :=
 Paired.vQ r fun _ _ z=>⟨z.1,ht _ _ z.2.1,z.2.2⟩
section
variable {P:Program} {w:World} {H:Hp} {h:Heap} {a:Addr}
theorem xK {u:HO} (ok:dm P w H h) (e:Rd H a u):bV P w H h a u:=e.ok ok
theorem ll {kvs:List (Key × V)} (ok:dm P w H h) (e:Rd H a (.dK kvs)):kvs.length<=sizeLine/\(a == sysModules)=false/\∃ vs,KV kvs vs/\h.DictOf (aN P w) a vs :=
 show bV P w H h a (.dK kvs) from xK ok e
theorem o5 {kvs:List (Key × V)} (ok:dm P w H h) (e:H a=some (.dK kvs)):kvs.length<=sizeLine/\(a == sysModules)=false/\∃ vs,KV kvs vs/\h.DictOf (aN P w) a vs:=ll ok (.inl e)
theorem mW {ks:List Key} (ok:dm P w H h) (e:H a=some (.tup (ks.map kV))):(tupleKind (aN P w)).is h ks a:=by
 obtain⟨_,its,r,o,h1,h2,n,h3⟩:=(show bV P w H h a (.tup (ks.map kV)) from ok a _ e)
 exact⟨o,its.toArray,n,h1,h2,h3.1,by simpa using oE r⟩
theorem o6 {kvs:List (List Key × V)} (ok:dm P w H h) (e:Rd H a (.dT kvs)):kvs.length<=sizeLine/\(a == sysModules)=false /\
  ∃ xs,KT H kvs xs/\h.DictOfH (tupleKind (aN P w)) a xs:=by
 obtain⟨z,y,xs,r,o,es,ep,h1,h2,h3,h4,h5⟩:=(show bV P w H h a (.dT kvs) from xK ok e)
 refine⟨z,y,xs,r,o,es,ep,h1,h2,h3,h4,fun x hx=>?_,h5⟩
 have all:∀ {l:List (List Key × V)} {m:List (List Key × Addr × Value)},KT H l m->∀ x ∈ m,(tupleKind (aN P w)).is h x.1 x.2.1:=by
  intro l m q
  induction q with
  | nil=>intro x hx;exact nomatch hx
  | @cons p q ps qs hq t ih =>
   intro x hx
   rcases List.mem_cons.mp hx with e | hx
   ·subst e
    exact mW ok (by rw [<-hq.1];exact hq.2.1)
   ·exact ih x hx
 exact all r x hx
theorem Au {kvs:List (List Key × V)} (ok:dm P w H h) (e:H a=some (.dT kvs)):kvs.length<=sizeLine/\(a == sysModules)=false /\
  ∃ xs,KT H kvs xs/\h.DictOfH (tupleKind (aN P w)) a xs:=o6 ok (.inl e)
end
def eT (H:Hp) (a:Addr) (y:V) (r:Option V):Prop :=
 (∃ kvs k,Rd H a (.dK kvs)/\y=kV k/\r=dh kvs k)\/∃ kvs k b,Rd H a (.dT kvs)/\y=.ref b/\H b=some (.tup (k.map kV))/\r=dh kvs k
def fT (H:Hp) (a:Addr) (y v:V) (H':Hp):Prop :=
 (∃ kvs k,H a=some (.dK kvs)/\y=kV k/\kvs.length < sizeLine/\H' = upd H a (.dK (putK kvs k v))) \/
 ∃ kvs k b,H a=some (.dT kvs)/\y=.ref b/\H b=some (.tup (k.map kV))/\kvs.length < sizeLine/\H' = upd H a (.dT (putK kvs k v))
theorem eT.k {H:Hp} {a:Addr} {kvs:List (Key × V)} {k:Key} (e:H a=some (.dK kvs)):eT H a (kV k) (dh kvs k):=.inl ⟨kvs,k,.inl e,rfl,rfl⟩
theorem fT.k {H:Hp} {a:Addr} {kvs:List (Key × V)} {k:Key} {v:V} (e:H a=some (.dK kvs)) (hl:kvs.length < sizeLine):fT H a (kV k) v (upd H a (.dK (putK kvs k v))):=.inl ⟨kvs,k,e,rfl,hl,rfl⟩
section
variable {X:Cx} {pins:List (Addr × Obj)} {σ : St} {H:Hp} {s:Shared} {a:Addr} {y v:V} {u r:Value} {o:Option V} {A:Around} {E:Value->Shared->Prop}
theorem Inv.big (I:Inv X pins σ H s):sysModules < s.heap.objs.size:=by
 have h:mainGlobals < s.heap.objs.size:=(I.mod.glob.keeps I.bk).lt
 exact Nat.lt_trans (by decide) h
theorem yl {Q:Value->Shared->Prop} (hu:A.units+1 < cLine) (I:Inv X pins σ H s) (g:eT H a y o) (ry:RelV y u) (h:∀ s',Inv X pins σ H s'->Q (.bool (!o.isSome)) s') :
  wpAny (model X.prog X.w) A (compareOp .NotIn u (.ref a)) Q E s:=by
 rcases g with ⟨kvs,k,e,ey,l⟩ | ⟨kvs,k,b,e,ey,eb,l⟩
 ·subst ey
  obtain⟨z,hd,vs,rel,dd⟩:=ll I.aP e
  refine wpAny_notIn_of (mV ry) hd dd.mapOf ?_
  rw [<-(rel.val k).kF,<-l]
  exact h _ (I.tok _)
 ·subst ey
  cases (show u=Value.ref b from ry)
  obtain⟨z,hd,xs,rel,dd⟩:=o6 I.aP e
  refine wpAny_notIn_heap (tupleKind_room_in1 hu) (mW I.aP eb) hd dd ?_
  have q:=(rel.val k).kF
  rw [Option.isSome_map] at q
  rw [<-q,<-l]
  exact h _ (I.tok _)
theorem nJ {h':Heap} {t':Nat} {ob:HO} (I:Inv X pins σ H s) (mu:ux (H a)) (hs:Heap.SameBut a s.heap h') (he:∃ q,h'.get? a=some q) (new:bV X.prog X.w (upd H a ob) h' a ob) :
  Inv X pins σ (upd H a ob) { s with heap:=h',toks:=t' } :=
 I.write (x:=a) (e:=a) mu (.inl rfl) (fun b q hb z=>(hs.2 b hb).trans z) he new
theorem jE {P:Program} {w:World} {H':Hp} {h':Heap} {kvs:List (Key × V)} {vs:List (Key × Value)} (z:kvs.length<=sizeLine) (hd:(a == sysModules)=false) (rel:KV kvs vs) (dd:h'.DictOf (aN P w) a vs) :
  bV P w H' h' a (.dK kvs):=⟨z,hd,vs,rel,dd⟩
theorem uV {H':Hp} {Q:Unit->Shared->Prop} (hu:A.units+1 < cLine) (I:Inv X pins σ H s) (g:fT H a y v H') (ry:RelV y u) (rv:RelV v r) (h:∀ s',Inv X pins σ H' s'->Q () s') :
  wpAny (model X.prog X.w) A (setItem (.ref a) u r) Q E s:=by
 rcases g with ⟨kvs,k,e,ey,l,eH⟩ | ⟨kvs,k,b,e,ey,eb,l,eH⟩
 ·subst ey eH
  obtain⟨z,hd,vs,rel,dd⟩:=o5 I.aP e
  have hz:vs.length<=sizeLine:=by rw [<-rel.length];exact z
  have hl:(putK kvs k v).length<=sizeLine:=by have:=cx kvs k v;omega
  refine wpAny_setItem_pairs (hsz:=hz) (mV ry) dd fun h' dd' hs=>h _ ?_
  have he:∃ q,h'.get? a=some q:=let ⟨q,_,_,hq,_⟩:=dd';⟨q,hq⟩
  exact nJ I (by rw [e];exact True.intro) hs he (jE hl hd (rel.put k rv) dd')
 ·subst ey eH
  cases (show u=Value.ref b from ry)
  obtain⟨z,hd,xs,rel,dd⟩:=Au I.aP e
  have hz:xs.length<=sizeLine:=by rw [<-Paired.length rel];exact z
  have hl:(putK kvs k v).length<=sizeLine:=by have:=cx kvs k v;omega
  refine wpAny_setItem_heap (hsz:=hz) (tupleKind_room_in1 hu) (mW I.aP eb) dd fun h' dd' hs=>h _ ?_
  obtain⟨q,es,ep,hq,h2,h3,h4,_,h5⟩:=dd'
  refine nJ I (by rw [e];exact True.intro) hs ⟨q,hq⟩ ⟨hl,hd,_,(rel.put k eb rv).keeps fun c ys ec=>?_,q,es,ep,hq,h2,h3,h4,h5⟩
  rw [af (bI ec e (fun z=>nomatch z))]
  exact ec
end
section
variable {X:Cx} {pins:List (Addr × Obj)} {σ : St} {H:Hp} {s:Shared} {a:Addr} {kvs:List (Key × V)} {k:Key} {u:Value} {A:Around} {E:Value->Shared->Prop}
end
def zB (i:Expr):Prop:=∀ ov iv,subscripted i false ov iv=operate [ov,iv] (getItem ov iv)
theorem ym {prog:Program} {w:World} {A:Around} {E:Value->Shared->Prop} {s:Shared} {env:Env} {value slice:Expr} {pos:Pos} {T id:String} {Q:Value->Shared->Prop}
  (hl:typeLookup (.type T) "__getitem__" = pure (some (.builtin id))) (hs:zB slice)
  (h:wpAny (model prog w) A (eval value env) (fun o s₁=>wpAny (model prog w) A (eval slice env) (fun i s₂=>s₂.TypeIs o T/\wpAny (model prog w) A (getItem o i) Q E s₂) E s₁) E s) :
  wpAny (model prog w) A (eval (.Subscript value slice pos) env) Q E s:=by
 refine Subscript_ (wpAny_mono h (fun o s₁ h₁=>wpAny_mono h₁ (fun i s₂ h₂=>?_) fun _ _ x=>x) fun _ _ x=>x)
 obtain⟨hT,h₂⟩:=h₂
 unfold subscriptTail
 refine wpAny_bind ?_
 rw [getitemInPython_of_ne hT.not_modules]
 refine wpAny_bind (wpAny_specialOf hT hl ?_)
 have fin:wpAny (model prog w) A (subscripted slice false o i) (fun r s₃=>wpAny (model prog w) A (letTemporaryGo value o r >>= fun _=>pure r) Q E s₃) E s₂:=by
  rw [hs o i]
  exact wpAny_operating (wpAny_mono h₂ (fun r s₃ h₃=>wpAny_bind (wpAny_letTemporaryGo (wpAny_pure h₃))) fun _ _ x=>x)
 first
  | exact wpAny_pure (wpAny_bind fin)
  | exact wpAny_bind (wpAny_pure (wpAny_bind fin))
  | exact wpAny_bind fin
def yn (ty td:TE):TE:=fun σ H Q=>ty σ H fun y H1=>td σ H1 fun x H2=>∃ a o,x=.ref a/\eT H2 a y o/\Q (.bl (!o.isSome)) H2
def Av (td ty tv:TE):TS:=fun D σ H=>tv σ H fun v H1=>td σ H1 fun x H2=>ty σ H2 fun y H3=>∃ a H4,x=.ref a/\fT H3 a y v H4/\D.nx σ H4
section
variable {X:Cx} {o i e value:Expr} {pos pos' tpos:Pos} {td ty tv:TE}
theorem uW (hu:X.A.units+1 < cLine) (hi:PE X i ty) (ho:PE X o td):PC X .NotIn i o (yn ty td):=by
 intro pins s σ H Q I h
 refine aU (hi pins s σ H _ I h) fun iv s1 ⟨y,H1,I1,ry,q1⟩=>aU (ho pins s1 σ H1 _ I1 q1) fun u s2 ⟨x,H2,I2,rx,a,ov,ex,g,q2⟩=>?_
 subst ex
 obtain rfl:u=Value.ref a:=rx
 exact yl hu I2 g ry fun s3 I3=>⟨.bl (!ov.isSome),H2,I3,rfl,q2⟩
theorem eD (hu:X.A.units+1 < cLine) (ho:PE X o td) (hi:PE X i ty) (hv:PE X value tv) (hs:swapsWith value (some (.Subscript o i pos')) pos.line X.env=pure false) :
  PS X (.Assign [.Subscript o i pos'] value pos) (Av td ty tv):=by
 intro pins s σ H D I h
 refine wpAny_Assign_Subscript (aU (hv pins s σ H _ I h) fun r s1 ⟨v,H1,I1,rv,q1⟩=>aU (ho pins s1 σ H1 _ I1 q1) fun u s2 ⟨x,H2,I2,rx,q2⟩=>aU (hi pins s2 σ H2 _ I2 q2) fun iv s3 ⟨y,H3,I3,ry,a,H4,ex,g,q3⟩=>?_) hs
 subst ex
 obtain rfl:u=Value.ref a:=rx
 exact uV hu I3 g ry rv fun s4 I4=>⟨σ,H4,I4,q3⟩
end
theorem wA {P:Program} {w:World} {H:Hp} (h:Heap) (hb:sysModules < h.objs.size):bV P w H (h.push { cls:=.type "dict",data:=.dict #[] }) h.objs.size (.dK []) :=
 ⟨Nat.zero_le _,beq_eq_false_iff_ne.mpr (Ne.symm (Nat.ne_of_lt hb)),[],.nil,Heap.DictOf.new h⟩
def zC:TE:=fun _ H Q=>∀ p,H p=none->Q (.ref p) (upd H p (.dK []))
section
variable {X:Cx} {pos:Pos}
theorem md:PE X (.Dict [] [] pos) zC:=fun pins s σ H Q I h =>
 wpAny_Dict_empty ⟨.ref s.heap.objs.size,_,I.laid (a:=s.heap.objs.size) (o:=.dK []) (t':=s.toks) (fun _ _ q=>Heap.get?_push_of_some _ q) (Nat.le_refl _) (wA s.heap I.big),rfl,h _ (I.aP.fresh (Nat.le_refl _))⟩
end
structure M2 (X:Cx) (o:Expr) (m:Str) (apos:Pos) (e f:Expr) (cpos:Pos):Prop where
 base:attributeBase o m X.env (eval o X.env)=eval o X.env
 bK:((backTo cpos (starEach [e,f] X.env)).all (fun x=>!x.1) && (backToKw cpos (keywordEach [] X.env)).all (fun x=>x.1.isSome)
  && decide (([e,f]:List Expr).length+([]:List Keyword).length+(if ([]:List Keyword).isEmpty then 0 else 1) < 30))=true
 line:(apos.endLine == cpos.line)=true
 trees:backTo cpos (starEach [e,f] X.env) = [(false,eval e X.env),(false,eval f X.env)]
def AN (H:Hp) (a:Addr):Prop:=(∃ kvs,Rd H a (.dK kvs))\/∃ kvs,Rd H a (.dT kvs)
theorem zD {X:Cx} {pins:List (Addr × Obj)} {σ : St} {H:Hp} {s:Shared} {a:Addr} (I:Inv X pins σ H s) (d:AN H a) :
  s.TypeIs (.ref a) "dict" /\ (∀ b,Value.ref a=.ref b->∃ ob,s.heap.get? b=some ob/\ob.dict=none)/\(a == sysModules)=false:=by
 rcases d with ⟨kvs,e⟩ | ⟨kvs,e⟩
 ·obtain⟨_,hd,vs,_,dd⟩:=ll I.aP e
  refine⟨dd.typeIs,fun b q=>?_,hd⟩
  cases q
  obtain⟨ob,_,_,h1,h2,_⟩:=dd
  exact⟨ob,h1,h2.2.1⟩
 ·obtain⟨_,hd,xs,_,dd⟩:=o6 I.aP e
  refine⟨dd.typeIs,fun b q=>?_,hd⟩
  cases q
  obtain⟨ob,_,_,h1,h2,_⟩:=dd
  exact⟨ob,h1,h2.2.1⟩
section
variable {X:Cx} {pins:List (Addr × Obj)} {σ : St} {H:Hp} {s:Shared} {a:Addr} {y d:V} {u r:Value} {o:Option V} {A:Around} {E:Value->Shared->Prop}
theorem zE {Q:Value->Shared->Prop} (hu:A.units+1 < cLine) (I:Inv X pins σ H s) (g:eT H a y o) (ry:RelV y u) (rd:RelV d r) (h:∀ w' s',Inv X pins σ H s'->RelV (o.getD d) w'->Q w' s') :
  wpAny (model X.prog X.w) A (call (.builtin "dict.get") [.ref a,u,r]) Q E s:=by
 rcases g with ⟨kvs,k,e,ey,l⟩ | ⟨kvs,k,b,e,ey,eb,l⟩
 ·subst ey
  obtain⟨z,hd,vs,rel,dd⟩:=ll I.aP e
  refine call_meetsIn PySem.F.slot_dict_get dd.typeIs PySem.F.entry_dict_get (PySem.F.args_dict_get_3 _ _ _) (meets_dict_get_default (aN X.prog X.w) a (mV ry) hd r) ⟨_,dd.mapOf,h _ _ (I.tok _) ?_⟩
  rw [l]
  exact (rel.val k).getD rd
 ·subst ey
  cases (show u=Value.ref b from ry)
  obtain⟨z,hd,xs,rel,dd⟩:=o6 I.aP e
  refine call_meetsIn PySem.F.slot_dict_get dd.typeIs PySem.F.entry_dict_get (PySem.F.args_dict_get_3 _ _ _) (meetsH_dict_get_default (tupleKind (aN X.prog X.w)) a b hd r) ⟨tupleKind_room_in1 hu,k,xs,mW I.aP eb,dd,h _ _ (I.tok _) ?_⟩
  rw [l]
  exact (rel.val k).getD rd
end
section
variable {X:Cx} {o e f:Expr} {apos cpos:Pos} {td ty tx:TE}
end
section
variable {X:Cx} {pins:List (Addr × Obj)} {σ : St} {H:Hp} {s:Shared} {a:Addr} {kvs:List (Key × V)} {A:Around} {E:Value->Shared->Prop}
theorem wB {Q:Value->Shared->Prop} (I:Inv X pins σ H s) (e:Rd H a (.dK kvs)) (h:∀ p s',H p=none->Inv X pins σ (upd H p (.dK kvs)) s'->Q (.ref p) s'):wpAny (model X.prog X.w) A (call (.type "dict") [.ref a]) Q E s:=by
 obtain⟨z,hd,vs,rel,dd⟩:=ll I.aP e
 refine kt_call_dict hd dd (by rw [<-rel.length];exact z) fun h' dd' hs=>?_
 refine h _ _ (I.aP.fresh (Nat.le_refl _)) (I.laid (a:=s.heap.objs.size) (o:=.dK kvs) (t':=s.toks) (fun b q hq=>?_) (Nat.le_refl _) (jE z (beq_eq_false_iff_ne.mpr (Ne.symm (Nat.ne_of_lt I.big))) rel dd'))
 exact (hs.2 b (Nat.ne_of_lt (Heap.lt_size hq))).trans (Heap.get?_push_of_some _ hq)
end
section
variable {X:Cx} {pins:List (Addr × Obj)} {σ : St} {H:Hp} {s:Shared} {a:Addr} {y:V} {u:Value} {A:Around} {E:Value->Shared->Prop}
end
section
variable {X:Cx}
end
section
variable {κ : Type} [DecidableEq κ]
end
theorem aY.bU {H:Hp} {v:V} {ds:List PyData} (h:aY H v (.tuple ds)):∃ p xs,v=.ref p/\H p=some (.tup xs)/\aV H xs ds:=by
 cases h with
 | tup e r=>exact⟨_,_,rfl,e,r⟩
theorem aY.int_inv {H:Hp} {v:V} {i:Int} (h:aY H v (.int i)):v=.int i:=by cases h;rfl
theorem aY.str_inv {H:Hp} {v:V} {x:Str} (h:aY H v (.str x)):v=.str x:=by cases h;rfl
theorem aV.cons_inv {H:Hp} {xs:List V} {d:PyData} {ds:List PyData} (h:aV H xs (d :: ds)):∃ x r,xs=x :: r/\aY H x d/\aV H r ds:=by
 cases h with
 | cons a b=>exact⟨_,_,rfl,a,b⟩
theorem aV.nil_inv {H:Hp} {xs:List V} (h:aV H xs []):xs = []:=by cases h;rfl
theorem aV.get {H:Hp}:∀ {xs:List V} {ds:List PyData} {i:Nat} {d:PyData},aV H xs ds->ds[i]? = some d->∃ x,xs[i]? = some x/\aY H x d
 | _,_,_,_,.nil,e=>by simp at e
 | _,_,0,_,.cons r _,e=>by
  simp at e
  subst e
  exact⟨_,rfl,r⟩
 | _,_,i+1,d,.cons _ t,e=>by
  obtain⟨x,h1,h2⟩:=aV.get (i:=i) (d:=d) t (by simpa using e)
  exact⟨x,by simpa using h1,h2⟩
theorem aV.ints {H:Hp}:∀ {xs:List V} {ns:List Int},aV H xs (ns.map PyData.int)->xs=ns.map V.int
 | _,[],h=>h.nil_inv
 | _,n :: ns,h=>by
  obtain⟨x,r,rfl,h1,h2⟩:=h.cons_inv
  rw [h1.int_inv,aV.ints h2]
  rfl
def jd:aW->List V
 | .put x n=>[.str "put",.str x,.int n]
 | .copy x y=>[.str "copy",.str x,.str y]
 | .add x n=>[.str "add",.str x,.int n]
 | .read x=>[.str "read",.str x]
 | .tell x=>[.str "tell",.str x]
def i5:End->List V
 | .stop=>[.str "stop"]
 | .go p=>[.str "go",.int p]
 | .dD b x n p q=>[.str (wT b),.str x,.int n,.int p,.int q]
theorem iI {H:Hp} {v:V} {d:aW} (h:aY H v (bH d)):∃ p,v=.ref p/\H p=some (.tup (jd d)):=by
  cases d <;> (
    obtain⟨p,xs,rfl,e,r⟩:=aY.bU h
    obtain⟨x1,r1,rfl,h1,r⟩:=r.cons_inv
    obtain⟨x2,r2,rfl,h2,r⟩:=r.cons_inv
    first
      | (obtain⟨x3,r3,rfl,h3,r⟩:=r.cons_inv
         have z:=r.nil_inv
         subst z
         refine⟨p,rfl,?_⟩
         first
           | rw [e,h1.str_inv,h2.str_inv,h3.int_inv];rfl
           | rw [e,h1.str_inv,h2.str_inv,h3.str_inv];rfl)
      | (have z:=r.nil_inv
         subst z
         refine⟨p,rfl,?_⟩
         rw [e,h1.str_inv,h2.str_inv];rfl))
theorem zF {H:Hp} {v:V} {e:End} (h:aY H v (gX e)):∃ p,v=.ref p/\H p=some (.tup (i5 e)):=by
 cases e with
 | stop =>
  obtain⟨p,xs,rfl,e,r⟩:=aY.bU h
  obtain⟨x1,r1,rfl,h1,r⟩:=r.cons_inv
  have z:=r.nil_inv
  subst z
  exact⟨p,rfl,by rw [e,h1.str_inv];rfl⟩
 | go q =>
  obtain⟨p,xs,rfl,e,r⟩:=aY.bU h
  obtain⟨x1,r1,rfl,h1,r⟩:=r.cons_inv
  obtain⟨x2,r2,rfl,h2,r⟩:=r.cons_inv
  have z:=r.nil_inv
  subst z
  exact⟨p,rfl,by rw [e,h1.str_inv,h2.int_inv];rfl⟩
 | dD b x n q q' =>
  obtain⟨p,xs,rfl,e,r⟩:=aY.bU h
  obtain⟨x1,r1,rfl,h1,r⟩:=r.cons_inv
  obtain⟨x2,r2,rfl,h2,r⟩:=r.cons_inv
  obtain⟨x3,r3,rfl,h3,r⟩:=r.cons_inv
  obtain⟨x4,r4,rfl,h4,r⟩:=r.cons_inv
  obtain⟨x5,r5,rfl,h5,r⟩:=r.cons_inv
  have z:=r.nil_inv
  subst z
  exact⟨p,rfl,by rw [e,h1.str_inv,h2.str_inv,h3.int_inv,h4.int_inv,h5.int_inv];rfl⟩
theorem fw {H:Hp} {v:V} {ps:List Piece} {i:Nat} {ds:List aW} {e:End} (h:aY H v (cG ps)) (hi:ps[i]? = some (ds,e)) :
  ∃ p xs pc da ea vs,v=.ref p/\H p=some (.tup xs)/\xs.length=ps.length/\xs[i]? = some (.ref pc)/\H pc=some (.tup [.ref da,.ref ea])/\H da=some (.tup vs)/\aV H vs (ds.map bH)/\H ea=some (.tup (i5 e)):=by
 obtain⟨p,xs,rfl,e1,r⟩:=aY.bU h
 have hl:=r.len
 obtain⟨x,hx,rx⟩:=r.get (i:=i) (d:=eY (ds,e)) (by rw [List.getElem?_map,hi];rfl)
 obtain⟨pc,ys,rfl,e2,r2⟩:=aY.bU rx
 obtain⟨y1,t1,rfl,q1,r2⟩:=r2.cons_inv
 obtain⟨y2,t2,rfl,q2,r2⟩:=r2.cons_inv
 have z:=r2.nil_inv
 subst z
 obtain⟨da,vs,rfl,e3,r3⟩:=aY.bU q1
 obtain⟨ea,rfl,e4⟩:=zF q2
 exact⟨p,xs,pc,da,ea,vs,rfl,e1,by rw [hl,List.length_map],hx,e2,e3,r3,e4⟩
theorem aH {n:Nat} (h:n<=1000000):n < sizeLine:=Nat.lt_of_le_of_lt h (by decide)
theorem ax {c:Bool} {A B:Prop} (hc:c=false) (h:B):if c=true then A else B:=by subst hc;exact cb h
theorem bu {c:Bool} {A B:Prop} (hc:c=true) (h:A):if c=true then A else B:=by subst hc;exact cM h
def yo (td ty tx:TE):TE:=fun σ H Q=>td σ H fun x H1=>∃ a,x=.ref a/\AN H1 a/\ty σ H1 fun y H2=>tx σ H2 fun z H3=>∃ o v,eT H3 a y o/\o.getD z=v/\Q v H3
theorem eO {X:Cx} {o e f:Expr} {apos cpos:Pos} {td ty tx:TE} (hu:X.A.units+1 < cLine) (ho:PE X o td) (he:PE X e ty) (hf:PE X f tx) (m:M2 X o "get" apos e f cpos):PE X (.Call (.Attribute o "get" apos) [e,f] [] cpos) (yo td ty tx):=by
 intro pins s σ H Q I h
 refine wpAny_Call_method m.base m.bK m.line PySem.F.plainAttrs_dict PySem.F.slot_dict_get PySem.F.type_dict_get (aU (ho pins s σ H _ I h) fun u s1 ⟨x,H1,I1,rx,a,ex,d,q1⟩=>?_)
 subst ex
 obtain rfl:u=Value.ref a:=rx
 obtain⟨t1,t2,_⟩:=zD I1 d
 refine⟨t1,t2,?_⟩
 rw [m.trees]
 refine Calls.callWith_builtin rfl (Calls.evalArgs_plain (Calls.spliced_cons (aU (he pins s1 σ H1 _ I1 q1) fun iv s2 ⟨y,H2,I2,ry,q2⟩ =>
  Calls.spliced_cons (aU (hf pins s2 σ H2 _ I2 q2) fun fv s3 ⟨z,H3,I3,rz,ov,v,g,ev,q3⟩=>Calls.spliced_nil ?_))))
 exact zE hu I3 g ry rz fun w' s4 I4 rw'=>⟨v,H3,I4,by rw [<-ev];exact rw',q3⟩
structure RS where
 aR:Nat
 place:Nat
 w:Str->Int
 taken:Nat
 told:List Int
 word:Str
 bQ:List Nat
def gm (w:Str->Int) (x:Str) (n:Int):Str->Int:=fun y=>if y=x then n else w y
def cH (nums:List Int) (S:RS):aW->RS
 | .put x n=>{ S with w:=gm S.w x n,place:=S.place+1 }
 | .copy x y=>{ S with w:=gm S.w x (S.w y),place:=S.place+1 }
 | .add x n=>{ S with w:=gm S.w x (S.w x+n),place:=S.place+1 }
 | .tell x=>{ S with told:=S.told ++ [S.w x],place:=S.place+1 }
 | .read x=>match nums[S.taken]? with
  | none=>{ S with word := "dry" }
  | some n=>{ S with w:=gm S.w x n,taken:=S.taken+1,place:=S.place+1 }
def eE (b:Bool) (u n:Int):Bool:=if b=true then decide (u < n) else decide (u=n)
def gK (S:RS):End->RS
 | .stop=>{ S with word := "stop" }
 | .go p=>{ S with aR:=p,place:=0,bQ:=S.bQ ++ [p] }
 | .dD b x n p q=>{ S with aR:=if eE b (S.w x) n=true then p else q,place:=0,bQ:=S.bQ ++ [if eE b (S.w x) n=true then p else q] }
def bf (ps:List Piece) (nums:List Int) (S:RS):RS:=match ps[S.aR]? with
 | none=>S
 | some (ds,e)=>match ds[S.place]? with
  | some d=>cH nums S d
  | none=>gK S e
def DW (kvs:List (Key × V)) (w:Str->Int):Prop:=∀ x:Str,(dh kvs (Sum.inr x:Key)).getD (.int 0)=.int (w x)
theorem DW.put {kvs:List (Key × V)} {w:Str->Int} (h:DW kvs w) (x:Str) (n:Int):DW (putK kvs (Sum.inr x) (.int n)) (gm w x n):=fun y=>by
 rw [p6]
 unfold gm
 by_cases e:y=x
 ·subst e
  rw [if_pos rfl,if_pos rfl];rfl
 ·rw [if_neg (fun z=>e (Sum.inr.inj z)),if_neg e]
  exact h y
structure eF (H:Hp) (st d tl bl:Addr) (S:RS) (m:Nat):Prop where
 at_:H st=some (.tup [.int S.aR,.int S.place,.ref d,.int S.taken,.ref tl,.str S.word,.ref bl])
 dict:∃ kvs,H d=some (.dK kvs)/\DW kvs S.w/\kvs.length<=m
 told:H tl=some (.lst (S.told.map V.int))
 bQ:H bl=some (.lst (S.bQ.map fun k=>V.int (k:Nat)))
 ne:tl ≠ bl
 bK:S.told.length<=m/\S.bQ.length<=m+1
def dM (d tl bl:Addr) (H H':Hp):Prop:=∀ c o,H c=some o->c ≠ d->c ≠ tl->c ≠ bl->H' c=some o
theorem dM.trans {d tl bl:Addr} {H H1 H2:Hp} (a:dM d tl bl H H1) (b:dM d tl bl H1 H2):dM d tl bl H H2:=fun c o h n1 n2 n3=>b c o (a c o h n1 n2 n3) n1 n2 n3
theorem dM.new {d tl bl p:Addr} {H:Hp} {o:HO} (hp:H p=none):dM d tl bl H (upd H p o):=fun c u h _ _ _=>by rw [af (aw h hp)];exact h
def cy (ps:List Piece):Prop:=∀ p ∈ ps,match p.2 with
 | .stop=>True
 | .go q=>q < ps.length
 | .dD _ _ _ q r=>q < ps.length/\r < ps.length
theorem i3.kG {xs:List Str} {m:Nat} {ps:List Piece} (h:i3 xs m ps):cy ps:=fun p hp=>by
 have:=h.ends p hp
 cases e:p.2 with
 | stop=>exact True.intro
 | go q=>rw [e] at this;exact this
 | dD b x n q r=>rw [e] at this;exact⟨this.2.2.1,this.2.2.2⟩
def p7:Sp:=fun vs H Q _=>∃ (pv:V) (st np d tl bl:Addr) (ps:List Piece) (nums:List Int) (S:RS) (m:Nat),vs = [pv,.ref st,.ref np]/\aY H pv (cG ps)/\cy ps/\H np=some (.tup (nums.map V.int))/\eF H st d tl bl S m /\
 S.aR < ps.length/\S.taken<=nums.length/\m<=10000/\∀ st' H',eF H' st' d tl bl (bf ps nums S) (m+1)->dM d tl bl H H'->Q (.ref st') H'
theorem p8 {ps:List Piece} {nums:List Int} {S:RS} (hp:cy ps) (h:S.aR < ps.length) (ht:S.taken<=nums.length):(bf ps nums S).aR < ps.length/\(bf ps nums S).taken<=nums.length:=by
 unfold bf
 have hx:ps[S.aR]? = some ps[S.aR]:=by simp [h]
 rw [hx]
 generalize hpc:ps[S.aR] = pc
 obtain⟨ds,e⟩:=pc
 have hm:(ds,e) ∈ ps:=by rw [<-hpc];exact List.getElem_mem h
 dsimp only
 cases hd:ds[S.place]? with
 | some dd =>
  cases dd with
  | read x =>
   dsimp only [cH]
   cases hn:nums[S.taken]? with
   | none=>exact⟨h,ht⟩
   | some n =>
    have:S.taken < nums.length:=(List.getElem?_eq_some_iff.mp hn).1
    exact⟨h,this⟩
  | _=>exact⟨h,ht⟩
 | none =>
  have hq:=hp (ds,e) hm
  cases e with
  | stop=>exact⟨h,ht⟩
  | go q=>exact⟨hq,ht⟩
  | dD b x n q r =>
   dsimp only [gK]
   refine⟨?_,ht⟩
   split
   ·exact hq.1
   ·exact hq.2
theorem eF.lL {H1:Hp} {st' d tl bl:Addr} {S':RS} {m:Nat} {kvs:List (Key × V)} (h1:H1 d=some (.dK kvs)) (dw:DW kvs S'.w) (hk:kvs.length<=m) (t1:H1 tl=some (.lst (S'.told.map V.int)))
  (b1:H1 bl=some (.lst (S'.bQ.map fun k=>V.int (k:Nat)))) (ne:tl ≠ bl) (bK:S'.told.length<=m/\S'.bQ.length<=m+1) (hn:H1 st' = none) {xs:List V}
  (ex:xs = [.int S'.aR,.int S'.place,.ref d,.int S'.taken,.ref tl,.str S'.word,.ref bl]):eF (upd H1 st' (.tup xs)) st' d tl bl S' m:=by
 subst ex
 exact⟨aa,⟨kvs,by rw [af (aw h1 hn)];exact h1,dw,hk⟩,by rw [af (aw t1 hn)];exact t1,by rw [af (aw b1 hn)];exact b1,ne,bK⟩
theorem dM.iD {d tl bl:Addr} {H:Hp} {o:HO}:dM d tl bl H (upd H d o):=fun c u h n _ _=>by rw [af n];exact h
theorem dM.Aw {d tl bl:Addr} {H:Hp} {o:HO}:dM d tl bl H (upd H tl o):=fun c u h _ n _=>by rw [af n];exact h
theorem dM.xM {d tl bl:Addr} {H:Hp} {o:HO}:dM d tl bl H (upd H bl o):=fun c u h _ _ n=>by rw [af n];exact h
theorem oF {ps:List Piece} {nums:List Int} {S:RS} {ds:List aW} {e:End} {dd:aW} (h1:ps[S.aR]? = some (ds,e)) (h2:ds[S.place]? = some dd):bf ps nums S=cH nums S dd:=by
 unfold bf
 rw [h1]
 dsimp only
 rw [h2]
theorem p9 {ps:List Piece} {nums:List Int} {S:RS} {ds:List aW} {e:End} (h1:ps[S.aR]? = some (ds,e)) (h2:ds[S.place]? = none):bf ps nums S=gK S e:=by
 unfold bf
 rw [h1]
 dsimp only
 rw [h2]
def vO:Option Int->V
 | none=>.bx
 | some i=>.int i
def jU (n:Int) (lo hi:Option Int):Bool:=(match lo with | none=>true | some a=>decide (a<=n)) && (match hi with | none=>true | some a=>decide (n<=a))
abbrev Rs:=Option (Option Int × Option Int)
def jn (hi:Option Int) (n:Int):Int:=match hi with | none=>n - 1 | some h=>if n - 1 < h then n - 1 else h
def gY (lo:Option Int) (n:Int):Int:=match lo with | none=>n | some l=>if n > l then n else l
def fY (lo hi:Option Int) (n:Int):Rs :=
 match lo with | none=>some (none,some (jn hi n)) | some l=>if jn hi n < l then none else some (some l,some (jn hi n))
def gL (lo hi:Option Int) (n:Int):Rs :=
 match hi with | none=>some (some (gY lo n),none) | some h=>if h < gY lo n then none else some (some (gY lo n),some h)
def mX (lo hi:Option Int) (n:Int):Rs:=if jU n lo hi=true then some (some n,some n) else none
def gZ (lo hi:Option Int) (n:Int):Rs:=if lo=some n then (if hi=some n then none else some (some (n+1),hi)) else if hi=some n then some (lo,some (n - 1)) else some (lo,hi)
def je (lo hi:Option Int) (n:Int) (side:Bool):Rs:=if side=true then fY lo hi n else gL lo hi n
def oG (lo hi:Option Int) (n:Int) (side:Bool):Rs:=if side=true then mX lo hi n else gZ lo hi n
def eU (w:Str) (lo hi:Option Int) (n:Int) (side:Bool):Rs:=if w = "less" then je lo hi n side else oG lo hi n side
def zG (rt rf:Rs):Str:=match rf with
 | none => "yes"
 | some _=>match rt with
  | none => "no"
  | some _ => "open"
def RV (H:Hp) (v:V) (r:Rs):Prop:=match r with
 | none=>v=.bx
 | some (a,b)=>∃ p,v=.ref p/\H p=some (.tup [vO a,vO b])
def qc:Sp:=fun vs H Q _=>∃ (n:Int) (q:Addr) (lo hi:Option Int),vs = [.int n,.ref q]/\H q=some (.tup [vO lo,vO hi])/\Q (.bl (jU n lo hi)) H
def j8 (F:Option Int->Option Int->Int->Rs):Sp:=fun vs H Q _=>∃ (p:Addr) (n:Int) (lo hi:Option Int),vs = [.ref p,.int n]/\H p=some (.tup [vO lo,vO hi])/\∀ v H',RV H' v (F lo hi n)->ao H H'->Q v H'
def qd:Sp:=fun vs H Q _=>∃ (p:Addr) (w:Str) (n:Int) (side:Bool) (lo hi:Option Int),vs = [.ref p,.str w,.int n,.bl side]/\H p=some (.tup [vO lo,vO hi])/\∀ v H',RV H' v (eU w lo hi n side)->ao H H'->Q v H'
def tI:Sp:=fun vs H Q _=>∃ (p:Addr) (w:Str) (n:Int) (lo hi:Option Int),vs = [.ref p,.str w,.int n]/\H p=some (.tup [vO lo,vO hi])/\∀ H',ao H H'->Q (.str (zG (eU w lo hi n true) (eU w lo hi n false))) H'
theorem ao.put {H H':Hp} {l:Addr} {o:HO} (s:ao H H') (n:H l=none):ao H (upd H' l o):=fun c u e=>by rw [af (aw e n)];exact s c u e
theorem uX:decide (V.str "less" = V.str "less")=true:=by decide +kernel
theorem tJ:¬ (("is" : Str) = "less"):=by decide +kernel
theorem mY {lo:Option Int} {n:Int}:decide (vO lo=V.int n)=decide (lo=some n):=by
 cases lo with
 | none=>rfl
 | some i =>
  by_cases h:i=n
  ·subst h;simp [vO]
  ·have h1:¬ (V.int i=V.int n):=fun z=>h (V.int.inj z)
   have h2:¬ ((some i:Option Int)=some n):=fun z=>h (Option.some.inj z)
   rw [show vO (some i)=V.int i from rfl,decide_eq_false h1,decide_eq_false h2]
theorem kH {lo:Option Int} {n:Int}:vZ (vO lo) (V.int n)=true:=by cases lo <;> rfl
structure d7 (P:Program) (w:World) (K:PySem.W.Frag) (mg:Str->Option Value) (base:Heap) (C:Addr) (m:Str) (k:Nat) (ps:List Str) (sp:Sp):Prop where
 cl:j7 K C
 ex:∃ f fd,bg P w K mg base bS k f fd ps sp/\Meth K C m f/\Binds K fd ps []
structure wC (P:Program) (w:World) (K:PySem.W.Frag) (mg:Str->Option Value) (base:Heap) (C:Addr) (x:Str) (k:Nat) (ps:List Str) (sp:Sp):Prop where
 ex:∃ f fd,bg P w K mg base bS k f fd ps sp/\Mk K C f/\mg x=some (.ref C)/\Binds K fd ps []
section
variable {X:Cx} {C:Addr} {m x:Str} {k:Nat} {ps:List Str} {sp:Sp} {oe e:Expr} {es:List Expr} {ta:TE} {t:TA} {p pos apos:Pos}
theorem gu {pl:Sem Bool} (o:d7 X.prog X.w X.K X.mg X.base C m k ps sp) (he:PE X oe ta) (hr:cE k X.A) (ha:PA X (e :: es) t)
  (hst:starEach (e :: es) X.env=(false,eval e X.env) :: starEach es X.env:=by rfl) (hpl:(backTo pos (starEach es X.env)).any (·.1)=false:=by rfl)
  (ht:eval (.Call (.Attribute oe m apos) (e :: es) [] pos) X.env=(do
   let ov <-eval oe X.env
   standAt apos.atName
   let (f,first) <-holding [ov] (getMethod ov m pl)
   callWith pos f first (backTo pos (starEach (e :: es) X.env)) (backToKw pos (keywordEach [] X.env))):=by rfl) :
  PE X (.Call (.Attribute oe m apos) (e :: es) [] pos) (oY C m sp [] E0 ta t):=by
 obtain⟨f,fd,F,hm,hb⟩:=o.ex
 exact yc he o.cl hm F hr hb .nil oZ ha hst hpl ht
theorem i6 {pl:Sem Bool} (o:d7 X.prog X.w X.K X.mg X.base C m k ps sp) (he:PE X oe ta) (hr:cE k X.A)
  (ht:eval (.Call (.Attribute oe m apos) [] [] pos) X.env=(do
   let ov <-eval oe X.env
   standAt apos.atName
   let (f,first) <-holding [ov] (getMethod ov m pl)
   callWith pos f first (backTo pos (starEach [] X.env)) (backToKw pos (keywordEach [] X.env))):=by rfl) :
  PE X (.Call (.Attribute oe m apos) [] [] pos) (oY C m sp [] E0 ta wc):=by
 obtain⟨f,fd,F,hm,hb⟩:=o.ex
 exact we he o.cl hm F hr hb .nil oZ ht
theorem yp (o:wC X.prog X.w X.K X.mg X.base C x k ps sp) (hr:cE (k+1) X.A) (hg:Gl X x) (ha:PA X (e :: es) t)
  (hdb:(x == ("__debug__" : Str))=false:=by decide) (he:starEach (e :: es) X.env=(false,eval e X.env) :: starEach es X.env:=by rfl)
  (hpl:(backTo pos (starEach es X.env)).any (·.1)=false:=by rfl):PE X (.Call (.Name x p) (e :: es) [] pos) (xH C sp [] E0 t):=by
 obtain⟨f,fd,F,M,hm,hb⟩:=o.ex
 exact yd M F hr hg hm hb .nil oZ ha hdb he hpl
theorem qe:fZ X (.type "dict") (fun vs H Q=>∃ a kvs,vs = [.ref a]/\H a=some (.dK kvs)/\∀ q,H q=none->Q (.ref q) (upd H q (.dK kvs))):=by
 intro pins s σ H vs us Q I r h
 obtain⟨a,kvs,rfl,hd,q⟩:=h
 obtain⟨u,rfl,ru⟩:=vals1 r
 cases ru
 exact wB I (.inl hd) fun q' s' hn I'=>⟨.ref q',_,I',rfl,q q' hn⟩
end
theorem yq:bootBuiltins "dict" = some (.type "dict"):=by decide +kernel
theorem kI {k:Str} {v:V} {l:List (Str × V)}:((k,v) :: l).lookup k=some v:=by simp [List.lookup]
theorem aD {k k':Str} {v:V} {l:List (Str × V)} {o:Option V} (h:¬ k=k') (e:l.lookup k=o):((k',v) :: l).lookup k=o:=by
 rw [List.lookup_cons,beq_false_of_ne h];exact e
theorem wF {k:Str} {v u:V} {l:List (Str × V)}:bX k v ((k,u) :: l)=(k,v) :: l:=by simp only [bX,if_true]
theorem bN {k k':Str} {v u:V} {l l':List (Str × V)} (h:¬ k' = k) (e:bX k v l=l'):bX k v ((k',u) :: l)=(k',u) :: l':=by simp only [bX,if_neg h,e]
theorem kJ {k:Str} {v:V}:bX k v [] = [(k,v)]:=rfl
def d4 (a0 a1 a2 a3 a4 a5 a6 a7:V):List (Str × V):=[("pieces",a0),("passed",a1),("place",a2),("worths",a3),("numbers",a4),("taken",a5),("spoken",a6),("over",a7)]
section
variable {a0 a1 a2 a3 a4 a5 a6 a7 z:V}
theorem oH:(d4 a0 a1 a2 a3 a4 a5 a6 a7).lookup ("pieces" : Str)=some a0:=kI
theorem kK:(d4 a0 a1 a2 a3 a4 a5 a6 a7).lookup ("passed" : Str)=some a1:=(aD (by decide +kernel) kI)
theorem eV:(d4 a0 a1 a2 a3 a4 a5 a6 a7).lookup ("place" : Str)=some a2:=(aD (by decide +kernel) (aD (by decide +kernel) kI))
theorem il:(d4 a0 a1 a2 a3 a4 a5 a6 a7).lookup ("worths" : Str)=some a3:=(aD (by decide +kernel) (aD (by decide +kernel) (aD (by decide +kernel) kI)))
theorem mZ:(d4 a0 a1 a2 a3 a4 a5 a6 a7).lookup ("numbers" : Str)=some a4:=(aD (by decide +kernel) (aD (by decide +kernel) (aD (by decide +kernel) (aD (by decide +kernel) kI))))
theorem me:(d4 a0 a1 a2 a3 a4 a5 a6 a7).lookup ("taken" : Str)=some a5:=(aD (by decide +kernel) (aD (by decide +kernel) (aD (by decide +kernel) (aD (by decide +kernel) (aD (by decide +kernel) kI)))))
theorem kL:(d4 a0 a1 a2 a3 a4 a5 a6 a7).lookup ("spoken" : Str)=some a6:=(aD (by decide +kernel) (aD (by decide +kernel) (aD (by decide +kernel) (aD (by decide +kernel) (aD (by decide +kernel) (aD (by decide +kernel) kI))))))
theorem se:(d4 a0 a1 a2 a3 a4 a5 a6 a7).lookup ("over" : Str)=some a7:=(aD (by decide +kernel) (aD (by decide +kernel) (aD (by decide +kernel) (aD (by decide +kernel) (aD (by decide +kernel) (aD (by decide +kernel) (aD (by decide +kernel) kI)))))))
theorem jV:(d4 a0 a1 a2 a3 a4 a5 a6 a7).lookup ("worth" : Str)=none:=(aD (by decide +kernel) (aD (by decide +kernel) (aD (by decide +kernel) (aD (by decide +kernel) (aD (by decide +kernel) (aD (by decide +kernel) (aD (by decide +kernel) (aD (by decide +kernel) rfl))))))))
theorem uY:(d4 a0 a1 a2 a3 a4 a5 a6 a7).lookup ("coming" : Str)=none:=(aD (by decide +kernel) (aD (by decide +kernel) (aD (by decide +kernel) (aD (by decide +kernel) (aD (by decide +kernel) (aD (by decide +kernel) (aD (by decide +kernel) (aD (by decide +kernel) rfl))))))))
theorem m3:(d4 a0 a1 a2 a3 a4 a5 a6 a7).lookup ("lacks_number" : Str)=none:=(aD (by decide +kernel) (aD (by decide +kernel) (aD (by decide +kernel) (aD (by decide +kernel) (aD (by decide +kernel) (aD (by decide +kernel) (aD (by decide +kernel) (aD (by decide +kernel) rfl))))))))
theorem tK:(d4 a0 a1 a2 a3 a4 a5 a6 a7).lookup ("is_held" : Str)=none:=(aD (by decide +kernel) (aD (by decide +kernel) (aD (by decide +kernel) (aD (by decide +kernel) (aD (by decide +kernel) (aD (by decide +kernel) (aD (by decide +kernel) (aD (by decide +kernel) rfl))))))))
theorem nK:(d4 a0 a1 a2 a3 a4 a5 a6 a7).lookup ("take_number" : Str)=none:=(aD (by decide +kernel) (aD (by decide +kernel) (aD (by decide +kernel) (aD (by decide +kernel) (aD (by decide +kernel) (aD (by decide +kernel) (aD (by decide +kernel) (aD (by decide +kernel) rfl))))))))
theorem tL:(d4 a0 a1 a2 a3 a4 a5 a6 a7).lookup ("do_deed" : Str)=none:=(aD (by decide +kernel) (aD (by decide +kernel) (aD (by decide +kernel) (aD (by decide +kernel) (aD (by decide +kernel) (aD (by decide +kernel) (aD (by decide +kernel) (aD (by decide +kernel) rfl))))))))
theorem m4:(d4 a0 a1 a2 a3 a4 a5 a6 a7).lookup ("come_to" : Str)=none:=(aD (by decide +kernel) (aD (by decide +kernel) (aD (by decide +kernel) (aD (by decide +kernel) (aD (by decide +kernel) (aD (by decide +kernel) (aD (by decide +kernel) (aD (by decide +kernel) rfl))))))))
theorem uZ:(d4 a0 a1 a2 a3 a4 a5 a6 a7).lookup ("do_end" : Str)=none:=(aD (by decide +kernel) (aD (by decide +kernel) (aD (by decide +kernel) (aD (by decide +kernel) (aD (by decide +kernel) (aD (by decide +kernel) (aD (by decide +kernel) (aD (by decide +kernel) rfl))))))))
theorem tM:(d4 a0 a1 a2 a3 a4 a5 a6 a7).lookup ("do_step" : Str)=none:=(aD (by decide +kernel) (aD (by decide +kernel) (aD (by decide +kernel) (aD (by decide +kernel) (aD (by decide +kernel) (aD (by decide +kernel) (aD (by decide +kernel) (aD (by decide +kernel) rfl))))))))
theorem g9:bX "place" z (d4 a0 a1 a2 a3 a4 a5 a6 a7)=d4 a0 a1 z a3 a4 a5 a6 a7:=(bN (by decide +kernel) (bN (by decide +kernel) wF))
theorem wG:bX "taken" z (d4 a0 a1 a2 a3 a4 a5 a6 a7)=d4 a0 a1 a2 a3 a4 z a6 a7:=(bN (by decide +kernel) (bN (by decide +kernel) (bN (by decide +kernel) (bN (by decide +kernel) (bN (by decide +kernel) wF)))))
theorem yr:bX "over" z (d4 a0 a1 a2 a3 a4 a5 a6 a7)=d4 a0 a1 a2 a3 a4 a5 a6 z:=(bN (by decide +kernel) (bN (by decide +kernel) (bN (by decide +kernel) (bN (by decide +kernel) (bN (by decide +kernel) (bN (by decide +kernel) (bN (by decide +kernel) wF)))))))
theorem u0:bX "pieces" a0 ([]:List (Str × V))=([("pieces",a0)]:List (Str × V)):=kJ
theorem u9:bX "passed" a1 ([("pieces",a0)]:List (Str × V))=([("pieces",a0),("passed",a1)]:List (Str × V)):=(bN (by decide +kernel) kJ)
theorem wH:bX "place" a2 ([("pieces",a0),("passed",a1)]:List (Str × V))=([("pieces",a0),("passed",a1),("place",a2)]:List (Str × V)):=(bN (by decide +kernel) (bN (by decide +kernel) kJ))
theorem va:bX "worths" a3 ([("pieces",a0),("passed",a1),("place",a2)]:List (Str × V))=([("pieces",a0),("passed",a1),("place",a2),("worths",a3)]:List (Str × V)):=(bN (by decide +kernel) (bN (by decide +kernel) (bN (by decide +kernel) kJ)))
theorem tN:bX "numbers" a4 ([("pieces",a0),("passed",a1),("place",a2),("worths",a3)]:List (Str × V))=([("pieces",a0),("passed",a1),("place",a2),("worths",a3),("numbers",a4)]:List (Str × V)):=(bN (by decide +kernel) (bN (by decide +kernel) (bN (by decide +kernel) (bN (by decide +kernel) kJ))))
theorem wI:bX "taken" a5 ([("pieces",a0),("passed",a1),("place",a2),("worths",a3),("numbers",a4)]:List (Str × V))=([("pieces",a0),("passed",a1),("place",a2),("worths",a3),("numbers",a4),("taken",a5)]:List (Str × V)):=(bN (by decide +kernel) (bN (by decide +kernel) (bN (by decide +kernel) (bN (by decide +kernel) (bN (by decide +kernel) kJ)))))
theorem vb:bX "spoken" a6 ([("pieces",a0),("passed",a1),("place",a2),("worths",a3),("numbers",a4),("taken",a5)]:List (Str × V))=([("pieces",a0),("passed",a1),("place",a2),("worths",a3),("numbers",a4),("taken",a5),("spoken",a6)]:List (Str × V)):=(bN (by decide +kernel) (bN (by decide +kernel) (bN (by decide +kernel) (bN (by decide +kernel) (bN (by decide +kernel) (bN (by decide +kernel) kJ))))))
theorem yt:bX "over" a7 ([("pieces",a0),("passed",a1),("place",a2),("worths",a3),("numbers",a4),("taken",a5),("spoken",a6)]:List (Str × V))=([("pieces",a0),("passed",a1),("place",a2),("worths",a3),("numbers",a4),("taken",a5),("spoken",a6),("over",a7)]:List (Str × V)):=(bN (by decide +kernel) (bN (by decide +kernel) (bN (by decide +kernel) (bN (by decide +kernel) (bN (by decide +kernel) (bN (by decide +kernel) (bN (by decide +kernel) kJ)))))))
end
structure jF (K:PySem.W.Frag) (C:Addr):Prop where
 cl:j7 K C
 pieces:dC K C "pieces"
 dE:dC K C "passed"
 place:dC K C "place"
 fz:dC K C "worths"
 nL:dC K C "numbers"
 taken:dC K C "taken"
 dG:dC K C "spoken"
 over:dC K C "over"
structure bC (C:Addr) (H:Hp) (p pl d nl sl:Addr) (plv:V) (nums:List Int) (S:RS) (m:Nat):Prop where
 ob:∃ dx,H p=some (.ins C dx (d4 plv (.ref pl) (.int S.place) (.ref d) (.ref nl) (.int S.taken) (.ref sl) (.bl (decide (S.word = "stop")))))
 dE:H pl=some (.lst (S.bQ.map fun k=>V.int (k:Nat)))
 last:∃ xs,S.bQ=xs ++ [S.aR]
 dict:∃ kvs,H d=some (.dK kvs)/\DW kvs S.w/\kvs.length<=m
 nums:H nl=some (.lst (nums.map V.int))
 dG:H sl=some (.lst (S.told.map V.int))
 ne:pl ≠ nl/\pl ≠ sl/\nl ≠ sl
 bK:S.told.length<=m/\S.bQ.length<=m+1
def bO (p pl d sl:Addr) (H H':Hp):Prop:=∀ c o,H c=some o->c ≠ p->c ≠ pl->c ≠ d->c ≠ sl->H' c=some o
theorem bO.refl (p pl d sl:Addr) (H:Hp):bO p pl d sl H H:=fun _ _ h _ _ _ _=>h
theorem bO.trans {p pl d sl:Addr} {H H1 H2:Hp} (a:bO p pl d sl H H1) (b:bO p pl d sl H1 H2):bO p pl d sl H H2:=fun c o h n1 n2 n3 n4=>b c o (a c o h n1 n2 n3 n4) n1 n2 n3 n4
theorem bO.jf {p pl d sl:Addr} {H:Hp} {o:HO}:bO p pl d sl H (upd H p o):=fun c u h n _ _ _=>by rw [af n];exact h
theorem bO.zH {p pl d sl:Addr} {H:Hp} {o:HO}:bO p pl d sl H (upd H pl o):=fun c u h _ n _ _=>by rw [af n];exact h
theorem bO.iD {p pl d sl:Addr} {H:Hp} {o:HO}:bO p pl d sl H (upd H d o):=fun c u h _ _ n _=>by rw [af n];exact h
theorem bO.zI {p pl d sl:Addr} {H:Hp} {o:HO}:bO p pl d sl H (upd H sl o):=fun c u h _ _ _ n=>by rw [af n];exact h
theorem bO.of_same {p pl d sl:Addr} {H H':Hp} (h:ao H H'):bO p pl d sl H H':=fun c o e _ _ _ _=>h c o e
section
variable {C:Addr} {H H':Hp} {p pl d nl sl:Addr} {plv:V} {nums:List Int} {S:RS} {m:Nat}
theorem bC.xN (A:bC C H p pl d nl sl plv nums S m):p ≠ pl/\p ≠ d/\p ≠ nl/\p ≠ sl/\d ≠ pl/\d ≠ nl/\d ≠ sl:=by
 obtain⟨dx,h1⟩:=A.ob
 obtain⟨kvs,h2,_⟩:=A.dict
 refine⟨bI h1 A.dE ?_,bI h1 h2 ?_,bI h1 A.nums ?_,bI h1 A.dG ?_,bI h2 A.dE ?_,bI h2 A.nums ?_,bI h2 A.dG ?_⟩ <;> (intro z;cases z)
theorem bC.tup {c:Addr} {xs:List V} (A:bC C H p pl d nl sl plv nums S m) (b:bO p pl d sl H H') (h:H c=some (.tup xs)):H' c=some (.tup xs):=by
 obtain⟨dx,h1⟩:=A.ob
 obtain⟨kvs,h2,_⟩:=A.dict
 refine b c _ h (bI h h1 ?_) (bI h A.dE ?_) (bI h h2 ?_) (bI h A.dG ?_) <;> (intro z;cases z)
theorem bC.rd {x:V} {dd:PyData} (A:bC C H p pl d nl sl plv nums S m) (b:bO p pl d sl H H') (r:aY H x dd) (n:eC dd=true):aY H' x dd :=
 r.df (fun c xs e=>A.tup b e) n
theorem bC.same (A:bC C H p pl d nl sl plv nums S m) (s:ao H H'):bC C H' p pl d nl sl plv nums S m:=by
 obtain⟨⟨dx,h1⟩,h2,h3,⟨kvs,h4,h5⟩,h6,h7,h8,h9⟩:=A
 exact⟨⟨dx,s _ _ h1⟩,s _ _ h2,h3,⟨kvs,s _ _ h4,h5⟩,s _ _ h6,s _ _ h7,h8,h9⟩
theorem bC.obj {dx:Addr} {S':RS} {fs:List (Str × V)} (A:bC C H p pl d nl sl plv nums S m)
  (e:fs=d4 plv (.ref pl) (.int S'.place) (.ref d) (.ref nl) (.int S'.taken) (.ref sl) (.bl (decide (S'.word = "stop"))))
  (e1:S'.bQ=S.bQ) (e2:S'.aR=S.aR) (e3:S'.w=S.w) (e4:S'.told=S.told):bC C (upd H p (.ins C dx fs)) p pl d nl sl plv nums S' m:=by
 obtain⟨n1,n2,n3,n4,_⟩:=A.xN
 obtain⟨kvs,h4,h5⟩:=A.dict
 subst e
 refine⟨⟨dx,aa⟩,by rw [af n1.symm,e1];exact A.dE,by rw [e1,e2];exact A.last,⟨kvs,by rw [af n2.symm];exact h4,by rw [e3];exact h5⟩,by rw [af n3.symm];exact A.nums,by rw [af n4.symm,e4];exact A.dG,A.ne,by rw [e1,e4];exact A.bK⟩
theorem bC.fz {kvs:List (Key × V)} {x:Str} {n:Int} (A:bC C H p pl d nl sl plv nums S m) (h:H d=some (.dK kvs)) (dw:DW kvs S.w) (hl:kvs.length<=m) :
  bC C (upd H d (.dK (putK kvs (Sum.inr x) (.int n)))) p pl d nl sl plv nums { S with w:=gm S.w x n } (m+1):=by
 obtain⟨n1,n2,n3,n4,n5,n6,n7⟩:=A.xN
 obtain⟨dx,h1⟩:=A.ob
 refine⟨⟨dx,by rw [af n2];exact h1⟩,by rw [af n5.symm];exact A.dE,A.last,⟨_,aa,dw.put x n,?_⟩,by rw [af n6.symm];exact A.nums,by rw [af n7.symm];exact A.dG,A.ne,⟨Nat.le_succ_of_le A.bK.1,Nat.le_succ_of_le A.bK.2⟩⟩
 have:=cx kvs (Sum.inr x:Key) (V.int n)
 omega
theorem bC.Ax {n:Int} (A:bC C H p pl d nl sl plv nums S m):bC C (upd H sl (.lst (S.told.map V.int ++ [.int n]))) p pl d nl sl plv nums { S with told:=S.told ++ [n] } (m+1):=by
 obtain⟨n1,n2,n3,n4,n5,n6,n7⟩:=A.xN
 obtain⟨dx,h1⟩:=A.ob
 obtain⟨kvs,h4,h5,h6⟩:=A.dict
 refine⟨⟨dx,by rw [af n4];exact h1⟩,by rw [af A.ne.2.1];exact A.dE,A.last,⟨kvs,by rw [af n7];exact h4,h5,Nat.le_succ_of_le h6⟩,by rw [af A.ne.2.2];exact A.nums,by rw [aa,List.map_append];rfl,A.ne,?_,Nat.le_succ_of_le A.bK.2⟩
 have:=A.bK.1
 show (S.told ++ [n]).length<=m+1
 rw [List.length_append]
 exact Nat.succ_le_succ this
theorem bC.Bu {q:Nat} (A:bC C H p pl d nl sl plv nums S m):bC C (upd H pl (.lst ((S.bQ.map fun k=>V.int (k:Nat)) ++ [.int q]))) p pl d nl sl plv nums { S with aR:=q,bQ:=S.bQ ++ [q] } (m+1):=by
 obtain⟨n1,n2,n3,n4,n5,n6,n7⟩:=A.xN
 obtain⟨dx,h1⟩:=A.ob
 obtain⟨kvs,h4,h5,h6⟩:=A.dict
 refine⟨⟨dx,by rw [af n1];exact h1⟩,by rw [aa,List.map_append];rfl,⟨S.bQ,rfl⟩,⟨kvs,by rw [af n5];exact h4,h5,Nat.le_succ_of_le h6⟩,by rw [af A.ne.1.symm];exact A.nums,by rw [af A.ne.2.1.symm];exact A.dG,A.ne,Nat.le_succ_of_le A.bK.1,?_⟩
 have:=A.bK.2
 show (S.bQ ++ [q]).length<=m+1+1
 rw [List.length_append]
 exact Nat.succ_le_succ this
theorem bC.mono {m':Nat} (A:bC C H p pl d nl sl plv nums S m) (h:m<=m'):bC C H p pl d nl sl plv nums S m':=by
 obtain⟨h1,h2,h3,⟨kvs,h4,h5,h6⟩,h7,h8,h9,h10⟩:=A
 exact⟨h1,h2,h3,⟨kvs,h4,h5,Nat.le_trans h6 h⟩,h7,h8,h9,Nat.le_trans h10.1 h,Nat.le_trans h10.2 (Nat.succ_le_succ h)⟩
theorem bC.sg (A:bC C H p pl d nl sl plv nums S m):dY (S.bQ.map fun k=>V.int (k:Nat)) (-1)=some (.int S.aR):=by
 obtain⟨xs,e⟩:=A.last
 rw [e]
 simp only [List.map_append,List.map_cons,List.map_nil]
 unfold dY lJ
 simp
 rw [if_pos (by omega)]
 have e1:(-1+((xs.length:Int)+1)).toNat=xs.length:=by omega
 rw [e1]
 simp
end
def lp (C:Addr):Sp:=fun vs H Q _=>∃ (p pl d nl sl:Addr) (plv:V) (nums:List Int) (S:RS) (m:Nat) (x:Str),vs = [.ref p,.str x]/\bC C H p pl d nl sl plv nums S m/\Q (.int (S.w x)) H
inductive Nx (H:Hp) (ds:List aW) (e:End) (i:Nat) (v:V):Prop
 | zJ (dd:aW) (q:Addr) (h:ds[i]? = some dd) (hv:v=.ref q) (hq:H q=some (.tup (jd dd)))
 | end_ (q:Addr) (h:ds[i]? = none) (hv:v=.ref q) (hq:H q=some (.tup (i5 e)))
def mf (C:Addr):Sp:=fun vs H Q _=>∃ (p pl d nl sl:Addr) (plv:V) (nums:List Int) (S:RS) (m:Nat) (ps:List Piece) (ds:List aW) (e:End),vs = [.ref p]/\bC C H p pl d nl sl plv nums S m/\aY H plv (cG ps)/\ps[S.aR]? = some (ds,e) /\
 ∀ v,Nx H ds e S.place v->Q v H
def jG:aW->Bool
 | .read _=>true
 | _=>false
def fI (ps:List Piece) (nums:List Int) (S:RS):Bool:=match ps[S.aR]? with
 | none=>false
 | some (ds,_)=>match ds[S.place]? with
  | some dd=>jG dd && decide (S.taken=nums.length)
  | none=>false
def nM (C:Addr):Sp:=fun vs H Q _=>∃ (p pl d nl sl:Addr) (plv:V) (nums:List Int) (S:RS) (m:Nat) (ps:List Piece),vs = [.ref p]/\bC C H p pl d nl sl plv nums S m/\aY H plv (cG ps)/\S.aR < ps.length/\Q (.bl (fI ps nums S)) H
def nN (C:Addr):Sp:=fun vs H Q _=>∃ (p pl d nl sl:Addr) (plv:V) (nums:List Int) (S:RS) (m:Nat) (n:Int),vs = [.ref p]/\bC C H p pl d nl sl plv nums S m/\nums[S.taken]? = some n /\
 ∀ H',bC C H' p pl d nl sl plv nums { S with taken:=S.taken+1 } m->bO p pl d sl H H'->Q (.int n) H'
def mh (C:Addr):Sp:=fun vs H Q _=>∃ (p pl d nl sl q:Addr) (plv:V) (nums:List Int) (S:RS) (m:Nat) (dd:aW),vs = [.ref p,.ref q]/\bC C H p pl d nl sl plv nums S m/\H q=some (.tup (jd dd))/\(jG dd=true->S.taken < nums.length)/\m<=10000 /\
 ∀ H',bC C H' p pl d nl sl plv nums (cH nums S dd) (m+1)->bO p pl d sl H H'->Q .bx H'
def qf (C:Addr):Sp:=fun vs H Q _=>∃ (p pl d nl sl:Addr) (plv:V) (nums:List Int) (S:RS) (m n:Nat),vs = [.ref p,.int n]/\bC C H p pl d nl sl plv nums S m/\m<=10000 /\
 ∀ H',bC C H' p pl d nl sl plv nums { S with aR:=n,place:=0,bQ:=S.bQ ++ [n] } (m+1)->bO p pl d sl H H'->Q .bx H'
def nO (C:Addr):Sp:=fun vs H Q _=>∃ (p pl d nl sl q:Addr) (plv:V) (nums:List Int) (S:RS) (m:Nat) (e:End),vs = [.ref p,.ref q]/\bC C H p pl d nl sl plv nums S m/\H q=some (.tup (i5 e))/\m<=10000 /\
 ∀ H',bC C H' p pl d nl sl plv nums (gK S e) (m+1)->bO p pl d sl H H'->Q .bx H'
def mi (C:Addr):Sp:=fun vs H Q _=>∃ (p pl d nl sl:Addr) (plv:V) (nums:List Int) (S:RS) (m:Nat) (ps:List Piece),vs = [.ref p]/\bC C H p pl d nl sl plv nums S m/\aY H plv (cG ps)/\S.aR < ps.length/\S.taken<=nums.length/\fI ps nums S=false/\m<=10000 /\
 ∀ H',bC C H' p pl d nl sl plv nums (bf ps nums S) (m+1)->bO p pl d sl H H'->Q .bx H'
def ft (ps:List Piece) (nums:List Int) (S:RS):RS:=if S.word = "on" then bf ps nums S else S
def aG (ps:List Piece) (nums:List Int):Nat->RS->RS
 | 0,S=>S
 | n+1,S=>ft ps nums (aG ps nums n S)
theorem jH {ps:List Piece} {nums:List Int} {n:Nat} {S:RS} (h:(aG ps nums n S).word = "on"):aG ps nums (n+1) S=bf ps nums (aG ps nums n S):=by
 show ft ps nums _=_
 unfold ft
 rw [if_pos h]
theorem i7 {ps:List Piece} {nums:List Int} {n:Nat} {S:RS} (h:¬ (aG ps nums n S).word = "on"):∀ k,aG ps nums (n+k) S=aG ps nums n S
 | 0=>rfl
 | k+1=>by
  show ft ps nums (aG ps nums (n+k) S)=_
  rw [i7 h k]
  unfold ft
  rw [if_neg h]
theorem nP {ps:List Piece} {nums:List Int} {S:RS} (hp:cy ps) (h:S.aR < ps.length) (ht:S.taken<=nums.length):∀ n,(aG ps nums n S).aR < ps.length/\(aG ps nums n S).taken<=nums.length
 | 0=>⟨h,ht⟩
 | n+1=>by
  have ih:=nP hp h ht n
  show (ft ps nums (aG ps nums n S)).aR < _/\(ft ps nums (aG ps nums n S)).taken<=_
  unfold ft
  split
  ·exact p8 hp ih.1 ih.2
  ·exact ih
theorem wJ {ps:List Piece} {nums:List Int} {S:RS} (h:fI ps nums S=true):bf ps nums S = { S with word := "dry" }:=by
 unfold fI at h
 unfold bf
 cases hx:ps[S.aR]? with
 | none=>rw [hx] at h;cases h
 | some pc =>
  obtain⟨ds,e⟩:=pc
  rw [hx] at h
  dsimp only at h ⊢
  cases hd:ds[S.place]? with
  | none=>rw [hd] at h;cases h
  | some dd =>
   rw [hd] at h
   dsimp only at h ⊢
   cases dd with
   | read x =>
    have ht:S.taken=nums.length:=of_decide_eq_true (by simpa [jG] using h)
    have hn:nums[S.taken]? = none:=by rw [ht];simp
    show cH nums S (.read x)=_
    unfold cH
    rw [hn]
   | _=>cases h
theorem wK {ps:List Piece} {nums:List Int} {S:RS} (h:fI ps nums S=false) (hw:S.word = "on") (ht:S.taken<=nums.length):(bf ps nums S).word = "on" \/ (bf ps nums S).word = "stop" := by
 unfold fI at h
 unfold bf
 cases hx:ps[S.aR]? with
 | none=>exact .inl hw
 | some pc =>
  obtain⟨ds,e⟩:=pc
  rw [hx] at h
  dsimp only at h ⊢
  cases hd:ds[S.place]? with
  | none =>
   dsimp only
   cases e with
   | stop=>exact .inr rfl
   | go q=>exact .inl hw
   | dD b x n q r=>exact .inl hw
  | some dd =>
   rw [hd] at h
   dsimp only at h ⊢
   cases dd with
   | read x =>
    have hlt:S.taken < nums.length:=by
     have:¬ S.taken=nums.length:=of_decide_eq_false (by simpa [jG] using h)
     omega
    have hn:nums[S.taken]? = some nums[S.taken]:=by simp [hlt]
    show (cH nums S (.read x)).word=_\/_
    unfold cH
    rw [hn]
    exact .inl hw
   | put x n=>exact .inl hw
   | copy x y=>exact .inl hw
   | add x n=>exact .inl hw
   | tell x=>exact .inl hw
def ba (pc:Nat) (w:Str->Int):RS:=⟨pc,0,w,0,[], "on",[pc]⟩
def dI (ps:List Piece) (nums:List Int) (S:RS):Bool:=decide (S.word = "stop") || fI ps nums S
def cO (ps:List Piece) (nums:List Int):Nat->RS->RS
 | 0,S=>S
 | n+1,S=>if dI ps nums (cO ps nums n S)=true then cO ps nums n S else bf ps nums (cO ps nums n S)
def hG (ps:List Piece) (nums:List Int):Nat->RS->Nat
 | 0,_=>0
 | n+1,S=>if dI ps nums (cO ps nums n S)=true then hG ps nums n S else hG ps nums n S+1
theorem vc {ps:List Piece} {nums:List Int} {n:Nat} {S:RS} (h:dI ps nums (cO ps nums n S)=false):cO ps nums (n+1) S=bf ps nums (cO ps nums n S)/\hG ps nums (n+1) S=hG ps nums n S+1:=by
 have h':¬ dI ps nums (cO ps nums n S)=true:=by rw [h];decide
 exact⟨if_neg h',if_neg h'⟩
theorem jI {ps:List Piece} {nums:List Int} {n:Nat} {S:RS} (h:dI ps nums (cO ps nums n S)=true):∀ k,cO ps nums (n+k) S=cO ps nums n S/\hG ps nums (n+k) S=hG ps nums n S
 | 0=>⟨rfl,rfl⟩
 | k+1=>by
  have ih:=jI h k
  have h':dI ps nums (cO ps nums (n+k) S)=true:=by rw [ih.1];exact h
  exact⟨(if_pos h').trans ih.1,(if_pos h').trans ih.2⟩
theorem tO {ps:List Piece} {nums:List Int} {S:RS} (hp:cy ps) (h:S.aR < ps.length) (ht:S.taken<=nums.length):∀ n,(cO ps nums n S).aR < ps.length/\(cO ps nums n S).taken<=nums.length
 | 0=>⟨h,ht⟩
 | n+1=>by
  have ih:=tO hp h ht n
  unfold cO
  split
  ·exact ih
  ·exact p8 hp ih.1 ih.2
theorem sh {ps:List Piece} {nums:List Int} {S:RS} (hin:cy ps) (hpc:S.aR < ps.length) (ht:S.taken<=nums.length) (hw:S.word = "on"):∀ n,
  ((aG ps nums n S).word = "on" /\ cO ps nums n S=aG ps nums n S/\hG ps nums n S=n)\/((aG ps nums n S).word = "stop" /\ cO ps nums n S=aG ps nums n S) \/
  (aG ps nums n S = { cO ps nums n S with word := "dry" }/\(cO ps nums n S).word = "on" /\ fI ps nums (cO ps nums n S)=true/\hG ps nums n S < n)
 | 0=>.inl ⟨hw,rfl,rfl⟩
 | n+1=>by
  have gi:=tO (ps:=ps) (nums:=nums) (S:=S) hin hpc ht n
  rcases sh hin hpc ht hw n with ⟨h1,h2,h3⟩ | ⟨h1,h2⟩ | ⟨h1,h2,h3,h4⟩
  ·have e1:=jH h1
   have ns:decide ((cO ps nums n S).word = "stop")=false:=by rw [h2,h1];decide +kernel
   cases hl:fI ps nums (cO ps nums n S) with
   | true =>
    have hh:dI ps nums (cO ps nums n S)=true:=by unfold dI;rw [ns,hl];rfl
    have e2:=jI hh 1
    refine .inr (.inr ⟨?_,?_,?_,?_⟩)
    ·rw [e1,e2.1,<-h2]
     exact wJ hl
    ·rw [e2.1,h2];exact h1
    ·rw [e2.1];exact hl
    ·rw [e2.2,h3];omega
   | false =>
    have hh:dI ps nums (cO ps nums n S)=false:=by unfold dI;rw [ns,hl];rfl
    have e2:=vc hh
    have w2:=wK hl (by rw [h2];exact h1) gi.2
    have e3:cO ps nums (n+1) S=aG ps nums (n+1) S:=by rw [e2.1,e1,h2]
    rcases w2 with w2 | w2
    ·exact .inl ⟨by rw [<-e3,e2.1];exact w2,e3,by rw [e2.2,h3]⟩
    ·exact .inr (.inl ⟨by rw [<-e3,e2.1];exact w2,e3⟩)
  ·have hh:dI ps nums (cO ps nums n S)=true:=by unfold dI;rw [h2,h1];rfl
   have e2:=jI hh 1
   have e1:=i7 (n:=n) (ps:=ps) (nums:=nums) (S:=S) (by rw [h1];decide +kernel) 1
   exact .inr (.inl ⟨by rw [e1];exact h1,by rw [e2.1,e1];exact h2⟩)
  ·have hh:dI ps nums (cO ps nums n S)=true:=by unfold dI;rw [h3];simp
   have e2:=jI hh 1
   have e1:=i7 (n:=n) (ps:=ps) (nums:=nums) (S:=S) (by rw [h1];show ¬ (("dry" : Str) = "on");decide +kernel) 1
   refine .inr (.inr ⟨?_,?_,?_,?_⟩)
   ·rw [e1,e2.1];exact h1
   ·rw [e2.1];exact h2
   ·rw [e2.1];exact h3
   ·rw [e2.2];omega
def qg (C:Addr):Sp:=fun vs H Q _=>∃ (p pl d nl sl:Addr) (plv:V) (nums:List Int) (S:RS) (m:Nat) (ps:List Piece),vs = [.ref p]/\bC C H p pl d nl sl plv nums S m/\aY H plv (cG ps)/\S.aR < ps.length/\Q (.bl (dI ps nums S)) H
def qh (C:Addr):Sp:=fun vs H Q _=>∃ (p pl d nl sl:Addr) (plv:V) (nums:List Int) (S:RS) (m n:Nat) (ps:List Piece),vs = [.ref p,.int n]/\bC C H p pl d nl sl plv nums S m/\aY H plv (cG ps)/\cy ps/\S.aR < ps.length/\S.taken<=nums.length/\m+n<=10000 /\
 ∀ H',bC C H' p pl d nl sl plv nums (cO ps nums n S) (m+hG ps nums n S)->bO p pl d sl H H'->Q (.int (hG ps nums n S:Nat)) H'
def nQ (C:Addr):Sp:=fun vs H Q _=>∃ (p dx d0 np:Addr) (plv:V) (pc:Nat) (kvs:List (Key × V)) (w:Str->Int) (nums:List Int),vs = [.ref p,plv,.int pc,.ref d0,.ref np]/\H p=some (.ins C dx [])/\H d0=some (.dK kvs)/\DW kvs w/\H np=some (.tup (nums.map V.int)) /\
 ∀ (pl d nl sl:Addr) (H':Hp),bC C H' p pl d nl sl plv nums (ba pc w) kvs.length->(∀ c o,H c=some o->c ≠ p->H' c=some o)->H pl=none->H d=none->H nl=none->H sl=none->Q .bx H'
def fU (S:RS):PyData:=.tuple [.str S.word,.tuple (S.told.map PyData.int)]
def nR:Sp:=fun vs H Q _=>∃ (d0 np:Addr) (plv:V) (pc n:Nat) (kvs:List (Key × V)) (w:Str->Int) (nums:List Int) (ps:List Piece),vs = [plv,.int pc,.ref d0,.ref np,.int n]/\aY H plv (cG ps)/\cy ps/\pc < ps.length/\H d0=some (.dK kvs)/\DW kvs w/\H np=some (.tup (nums.map V.int))/\kvs.length<=1000/\n<=2000 /\
 ∀ v H',aY H' v (fU (aG ps nums n (ba pc w)))->ao H H'->Q v H'
def tP:Sp:=fun vs H Q _=>∃ (np:Addr) (plv:V) (n:Nat) (nums:List Int) (ps:List Piece),vs = [plv,.ref np,.int n]/\aY H plv (cG ps)/\cy ps/\0 < ps.length/\H np=some (.tup (nums.map V.int))/\n<=2000 /\
 ∀ v H',aY H' v (fU (aG ps nums n (ba 0 fun _=>0)))->ao H H'->Q v H'
theorem vd {b:Bool} {u n:Int}:zG (eU (wT b) (some u) (some u) n true) (eU (wT b) (some u) (some u) n false)=(if eE b u n=true then ("yes" : Str) else ("no" : Str)):=by
 cases b with
 | true =>
  have e1:∀ s,eU (wT true) (some u) (some u) n s=je (some u) (some u) n s:=fun s=>by
   unfold eU
   rw [if_pos (show wT true=("less" : Str) from rfl)]
  have e2:je (some u) (some u) n true=fY (some u) (some u) n:=by
   unfold je
   rw [if_pos rfl]
  have e3:je (some u) (some u) n false=gL (some u) (some u) n:=by
   unfold je
   rw [if_neg (by decide)]
  rw [e1,e1,e2,e3]
  by_cases h:u < n
  ·have hb:gY (some u) n=n:=by
    show (if n > u then n else u)=n
    exact if_pos h
   have f1:gL (some u) (some u) n=none:=by
    show (if u < gY (some u) n then (none:Rs) else some (some (gY (some u) n),some u))=none
    rw [hb,if_pos h]
   have f2:eE true u n=true:=by
    unfold eE
    rw [if_pos rfl]
    exact decide_eq_true h
   rw [f1,if_pos f2]
   rfl
  ·have hb:gY (some u) n=u:=by
    show (if n > u then n else u)=u
    exact if_neg h
   have ht:jn (some u) n=n - 1:=by
    show (if n - 1 < u then n - 1 else u)=n - 1
    exact if_pos (by omega)
   have f1:gL (some u) (some u) n=some (some u,some u):=by
    show (if u < gY (some u) n then (none:Rs) else some (some (gY (some u) n),some u))=_
    rw [hb,if_neg (Int.lt_irrefl u)]
   have f3:fY (some u) (some u) n=none:=by
    show (if jn (some u) n < u then (none:Rs) else some (some u,some (jn (some u) n)))=none
    rw [ht,if_pos (by omega)]
   have f2:eE true u n=false:=by
    unfold eE
    rw [if_pos rfl]
    exact decide_eq_false h
   rw [f1,f3,f2]
   rfl
 | false =>
  have e1:∀ s,eU (wT false) (some u) (some u) n s=oG (some u) (some u) n s:=fun s=>by
   unfold eU
   rw [if_neg (show ¬ wT false=("less" : Str) from tJ)]
  have e2:oG (some u) (some u) n true=mX (some u) (some u) n:=by
   unfold oG
   rw [if_pos rfl]
  have e3:oG (some u) (some u) n false=gZ (some u) (some u) n:=by
   unfold oG
   rw [if_neg (by decide)]
  rw [e1,e1,e2,e3]
  by_cases h:u=n
  ·subst h
   have f1:gZ (some u) (some u) u=none:=by
    unfold gZ
    rw [if_pos rfl,if_pos rfl]
   have f2:eE false u u=true:=by
    unfold eE
    rw [if_neg (by decide)]
    exact decide_eq_true rfl
   rw [f1,if_pos f2]
   rfl
  ·have h1:¬ ((some u:Option Int)=some n):=fun z=>h (Option.some.inj z)
   have f1:gZ (some u) (some u) n=some (some u,some u):=by
    unfold gZ
    rw [if_neg h1,if_neg h1]
   have f3:mX (some u) (some u) n=none:=by
    have hl:jU n (some u) (some u)=false:=by
     show (decide (u<=n) && decide (n<=u))=false
     by_cases g:u<=n
     ·rw [decide_eq_false (show ¬ n<=u by omega),Bool.and_false]
     ·rw [decide_eq_false g,Bool.false_and]
    unfold mX
    rw [hl,if_neg (by decide)]
   have f2:eE false u n=false:=by
    unfold eE
    rw [if_neg (by decide)]
    exact decide_eq_false h
   rw [f1,f3,f2]
   rfl
theorem dn {H:Hp}:∀ ns:List Int,aV H (ns.map V.int) (ns.map PyData.int)
 | []=>.nil
 | n :: ns=>.cons (.int n) (dn ns)
theorem d8 {H1:Hp} {p q c:Addr} {o o1 o2:HO} (h:H1 c=some o) (n:c ≠ p) (hq:H1 q=none):(upd (upd H1 q o1) p o2) c=some o:=by
 rw [af n,af (aw h hq)];exact h
theorem cZ {H H1:Hp} {p q:Addr} {u:HO} (k:∀ c o,H c=some o->c ≠ p->H1 c=some o) (h1:H1 p=some u) (hn:H1 q=none):H q=none/\q ≠ p:=by
 have n:q ≠ p:=fun z=>by rw [z,h1] at hn;cases hn
 refine⟨?_,n⟩
 cases e:H q with
 | none=>rfl
 | some o=>rw [k q o e n] at hn;cases hn
end L2
namespace HT
open PySem PyProof.Rows PySem.Spec
section
variable {prog:Program} {w:World} {A:Around} {E:Value->Shared->Prop} {s:Shared}
theorem lB {t sl:Addr} {items:Array Value} {vl vu:Value} {lo hi:Option Int} {Q:Value->Shared->Prop} (ht:IsTup s.heap t items) (hs:s.heap.IsSliceOf sl vl vu .none) (pl:IsPart vl lo) (pu:IsPart vu hi)
  (hw:bM items.size 0 lo=0/\bM items.size items.size hi=items.size) (h:Q (.ref t) s):wpAny (model prog w) A (getItem (.ref t) (.ref sl)) Q E s:=by
 obtain⟨os,hos,hcs,hds⟩:=id hs
 have hTs:s.TypeIs (.ref sl) "slice" := ⟨os,hos,hcs⟩
 unfold getItem
 try with_reducible refine wpAny_holding ?_
 first | refine wpAny_bind (wpAny_pure ?_) | skip
 refine wpAny_bind (wpAny_sequenceKey ht.typeIs (by decide) ?_)
 refine wpAny_bind (wpAny_callSpecial?_slot (name:=Str.ofString "__getitem__") ht.typeIs PyProof.Rows.slot_tuple_getitem
  (wpAny_call_entry PyProof.Rows.slot_tuple_getitem ht.typeIs entry_tuple_getitem ?_ (args_tuple_getitem _ _)))
 show wpAny _ _ (Builtin.Tuple.tupleItemsOf (.ref t) >>= _) _ _ s
 refine wpAny_bind (tupleItemsOf_ ht ?_)
 refine wpAny_bind (wpAny_typeOf hTs ?_)
 rw [if_pos (by decide)]
 refine wpAny_bind (iU hs pl pu ?_)
 have hno:((((bM items.size 0 lo:Nat):Int) == 0 && (1:Int) == 1 && (bM items.size items.size hi - bM items.size 0 lo) == items.size)=true):=by
  rw [hw.1,hw.2]
  simp
 show wpAny _ _ (if (((bM items.size 0 lo:Nat):Int) == 0 && (1:Int) == 1 && (bM items.size items.size hi - bM items.size 0 lo) == items.size)=true then _ else _) _ _ s
 rw [if_pos hno]
 refine wpAny_bind ?_
 unfold Builtin.Tuple.tupleIsExact
 refine wpAny_bind (wpAny_typeOf ht.typeIs (wpAny_pure ?_))
 rw [if_pos (by decide)]
 refine wpAny_bind (wpAny_rule ?_)
 first
  | exact wpAny_pure ⟨_,rfl,wpAny_pure h⟩
  | exact wpAny_bind (wpAny_pure (wpAny_pure ⟨_,rfl,wpAny_pure h⟩))
  | exact wpAny_pure (wpAny_pure ⟨_,rfl,wpAny_pure h⟩)
end
end HT
namespace L2
open PySem PySem.Spec PyProof.Rows
section
variable {X:Cx}
def Ay (K:PySem.W.Frag):V->Option Int->Option Int->Hp->VK->Prop:=fun x lo hi H Q=>∃ a xs,x=.ref a/\av K H a xs /\
 ((HT.bM xs.length 0 lo=0/\HT.bM xs.length xs.length hi=xs.length)->Q (.ref a) H)/\(¬ (HT.bM xs.length 0 lo=0/\HT.bM xs.length xs.length hi=xs.length)->∀ p,H p=none->Q (.ref p) (upd H p (.tup (gW xs lo hi))))
theorem nS:zl X (Ay X.K):=by
 intro pins s σ H x v vl vu lo hi sl Q I rx hs pl pu h
 obtain⟨a,xs,rfl,hx,q1,q2⟩:=h
 by_cases hw:HT.bM xs.length 0 lo=0/\HT.bM xs.length xs.length hi=xs.length
 ·cases rx
  obtain⟨its,r,ht,hz⟩:=I.tuple hx
  have hlen:its.toArray.size=xs.length:=by rw [List.size_toArray];exact r.length.symm
  refine⟨"tuple",_,PyProof.Rows.slot_tuple_getitem.lookup,ht.typeIs,?_⟩
  exact HT.lB ht hs pl pu (by rw [hlen];exact hw) ⟨.ref a,H,I,rfl,q1 hw⟩
 ·exact zm pins s σ H (.ref a) v vl vu lo hi sl Q I rx hs pl pu ⟨a,xs,rfl,hx,hw,q2 hw⟩
end
theorem BM {α : Type} {x y z u v:α} {xs:List α}:dY (x :: y :: z :: u :: v :: xs) 4=some v:=bp (j:=4) rfl
theorem AO {α : Type} {x y z u v w:α} {xs:List α}:dY (x :: y :: z :: u :: v :: w :: xs) 5=some w:=bp (j:=5) rfl
theorem zK {x y z r:Int} (h0:0<=r) (h1:r < 3):∃ g:Int,dY [V.int x,V.int y,V.int z] r=some (V.int g)/\(g=x\/g=y\/g=z):=by
 obtain rfl | rfl | rfl:r=0\/r=1\/r=2:=by omega
 ·exact⟨x,bo,.inl rfl⟩
 ·exact⟨y,cu,.inr (.inl rfl)⟩
 ·exact⟨z,at2,.inr (.inr rfl)⟩
theorem eF.mono {H:Hp} {st d tl bl:Addr} {S:RS} {m m':Nat} (h:eF H st d tl bl S m) (le:m<=m'):eF H st d tl bl S m':=by
 obtain⟨h1,⟨kvs,h2,h3,h4⟩,h5,h6,h7,h8⟩:=h
 exact⟨h1,⟨kvs,h2,h3,Nat.le_trans h4 le⟩,h5,h6,h7,Nat.le_trans h8.1 le,Nat.le_trans h8.2 (Nat.succ_le_succ le)⟩
theorem lay_ints:∀ ns:List Int,(PyData.tuple (ns.map PyData.int)).canLay0=true
 | []=>rfl
 | n :: ns=>by
  show (true && (PyData.tuple (ns.map PyData.int)).canLay0)=true
  rw [lay_ints ns];rfl
theorem kM:∀ ns:List Int,PyData.depthAll (ns.map PyData.int)=0
 | []=>rfl
 | n :: ns=>by
  show max 0 (PyData.depthAll (ns.map PyData.int))=0
  rw [kM ns];rfl
theorem si (S:RS):(fU S).depth<=60:=by
 show max 0 (max (PyData.depthAll (S.told.map PyData.int)+1) 0)+1<=60
 rw [kM];decide
theorem sj (S:RS) (h:PySem.PyData.canLay0 (.str S.word)=true):(fU S).canLay0=true:=by
 show (PySem.PyData.canLay0 (.str S.word) && ((PyData.tuple (S.told.map PyData.int)).canLay0 && true))=true
 rw [lay_ints,h];rfl
theorem tQ (ps:List Piece) (nums:List Int) (S:RS):(bf ps nums S).word=S.word\/(bf ps nums S).word = "stop" \/ (bf ps nums S).word = "dry" := by
 unfold bf
 cases hx:ps[S.aR]? with
 | none=>exact .inl rfl
 | some pc =>
  obtain⟨ds,e⟩:=pc
  dsimp only
  cases hd:ds[S.place]? with
  | none =>
   dsimp only
   cases e with
   | stop=>exact .inr (.inl rfl)
   | go q=>exact .inl rfl
   | dD b x n q r=>exact .inl rfl
  | some dd =>
   dsimp only
   cases dd with
   | read x =>
    unfold cH
    cases hn:nums[S.taken]? with
    | none=>exact .inr (.inr rfl)
    | some n=>exact .inl rfl
   | put x n=>exact .inl rfl
   | copy x y=>exact .inl rfl
   | add x n=>exact .inl rfl
   | tell x=>exact .inl rfl
theorem oJ {ps:List Piece} {nums:List Int} {S:RS} (h:S.word = "on"):∀ n,(aG ps nums n S).word = "on" \/ (aG ps nums n S).word = "stop" \/ (aG ps nums n S).word = "dry"
 | 0=>.inl h
 | n+1=>by
  by_cases hw:(aG ps nums n S).word = "on"
  ·rw [jH hw]
   rcases tQ ps nums (aG ps nums n S) with z | z
   ·exact .inl (z.trans hw)
   ·exact .inr z
  ·rw [i7 hw 1]
   exact oJ h n
theorem qi {ps:List Piece} {nums:List Int} {S:RS} (h:S.word = "on") (n:Nat):PySem.PyData.canLay0 (.str (aG ps nums n S).word)=true:=by
 rcases oJ (ps:=ps) (nums:=nums) h n with z | z | z <;> (rw [z];decide +kernel)
theorem ql:∀ ns:List Int,cf (ns.map PyData.int)=true
 | []=>rfl
 | n :: ns=>by
  show (true && cf (ns.map PyData.int))=true
  rw [ql ns];rfl
def nT:Sp:=fun vs H Q _=>∃ (np:Addr) (plv:V) (n:Nat) (nums:List Int) (ps:List Piece),vs = [plv,.ref np,.int n]/\aY H plv (cG ps)/\cy ps/\0 < ps.length/\H np=some (.tup (nums.map V.int))/\n<=2000 /\
 ∀ st d tl bl H',eF H' st d tl bl (aG ps nums n (ba 0 fun _=>0)) n->ao H H'->Q (.ref st) H'
def mj:Sp:=fun vs H Q _=>∃ (b:Addr),vs = [.ref b]/\cN H b/\∀ (t:Addr) (nums:List Int) (H':Hp),H' t=some (.tup (nums.map V.int))->cN H' b->Fix b H H'->Q (.ref t) H'
theorem lM {P:Program} {w:World} {x:Str} {v:Value} (h:(aN P w).is (Sum.inr x) v=true):∃ t,v=.str x t:=by
 cases v with
 | str y t =>
  have:y=x:=by simpa [aN,iz,Value.isStrOf] using h
  exact⟨t,by rw [this]⟩
 | _=>simp [aN,iz,Value.isStrOf] at h
theorem m5:∀ {vs:List Value} {ks:List Str},vs.length=ks.length->(∀ (j:Nat) (v:Value) (x:Str),vs[j]? = some v->ks[j]? = some x->∃ t,v=.str x t)->StrsAre vs ks
 | [],[],_,_=>.nil
 | v :: vs,x :: ks,hl,h=>by
  obtain⟨t,rfl⟩:=h 0 v x rfl rfl
  exact .cons x t (m5 (by simpa using hl) fun j v' x' h1 h2=>h (j+1) v' x' (by simpa using h1) (by simpa using h2))
 | [],_ :: _,hl,_=>by simp at hl
 | _ :: _,[],hl,_=>by simp at hl
section
variable {prog:Program} {w:World} {A:Around} {E:Value->Shared->Prop} {s:Shared}
open PySem.Calls PySem.W in
theorem gather {T:String} {r d:Addr} {n:Nat} {P:Nat->Value->Prop} {OK:Heap->Prop} {G:List Value->Shared->Prop} (src:KdlSrc prog w T r d n P OK) (calm:A.handled=none) (ok:OK s.heap) (bK:n<=sizeLine)
  (fin:∀ (g:Heap) (tk:Nat) (got:Array Value),(∀ b o,s.heap.get? b=some o->g.get? b=some o)->ItemsOf P got n->s.heap.objs.size<=g.objs.size->G got.toList { s with heap:=g,toks:=tk }) :
  wpAny (model prog w) A (collect (.ref r)) G E s:=by
 obtain⟨lt1,lt2⟩:=src.there _ ok
 unfold collect
 refine wpAny_bind (wpAny_runValue (codeAny_builtin entry_proto_collect' ?_))
 rw [Around.under_plainId PySem.F.plain_proto_collect _]
 show wpAny _ A.in1 (newList [] >>= fun z=>again (.builtin "list.__iadd__" ⟨[z,.ref r],[]⟩)) _ _ s
 refine wpAny_bind (wpAny_newObj_type (wpAny_pure ⟨plainId_quiet PySem.F.plain_list_iadd _,codeAny_builtin entry_list_iadd' ?_⟩))
 rw [Around.under_plainId PySem.F.plain_list_iadd _]
 show wpAny _ A.in1 (Builtin.List.listExtendWith (.ref s.heap.objs.size) (.ref r) (.ref s.heap.objs.size)) _ _ _
 have made:(s.heap.push { cls:=.type "list",data:=.seq ([]:List Value).toArray }).get? s.heap.objs.size=some { cls:=.type "list",data:=.seq #[] }:=Heap.get?_push_size _ rfl
 have run:=kdl_extend (A:=A) (s:={ s with heap:=s.heap.push { cls:=.type "list",data:=.seq ([]:List Value).toArray } })
  (R:=fun (z:Result) (t:Shared)=>∃ (g:Heap) (tk:Nat) (got:Array Value) (c:Nat),z=.ok (.ret (.ref s.heap.objs.size))/\t = { s with heap:=g,toks:=tk } /\
   (∀ b o,s.heap.get? b=some o->g.get? b=some o)/\g.get? s.heap.objs.size=some { cls:=.type "list",dict:=none,data:=.seq got c,slots:=#[] }/\ItemsOf P got n)
  src calm (src.keep _ _ ok fun b _ o e=>Heap.get?_push_of_some _ e) s.heap.objs.size (Nat.ne_of_gt lt1) (Nat.ne_of_gt lt2) (.ref s.heap.objs.size) 0 made
  (fun g tk got c kept at_ its=>⟨g,tk,got,c,rfl,rfl,fun b o e=>kept b o (Nat.ne_of_lt (Heap.lt_size e)) (Heap.get?_push_of_some _ e),at_,its⟩) bK
 refine wpAny_mono run (fun z t x=>?_) fun z t ⟨_,_,_,_,bad,_⟩=>by cases bad
 cases z with
 | done f =>
  obtain⟨g,tk,got,c,e,rfl,kept,at_,its⟩:=x
  cases e
  show wpAny _ A (load s.heap.objs.size >>= _) _ _ _
  exact wpAny_bind (wpAny_load at_ (wpAny_pure (fin g tk got kept its (Nat.le_of_lt (Heap.lt_size at_)))))
 | again more =>
  refine⟨x.1,codeAny_mono x.2 fun z' t' ⟨g,tk,got,c,e1,e2,kept,at_,its⟩=>?_⟩
  subst e1 e2
  show wpAny _ A (load s.heap.objs.size >>= _) _ _ _
  exact wpAny_bind (wpAny_load at_ (wpAny_pure (fin g tk got kept its (Nat.le_of_lt (Heap.lt_size at_)))))
theorem qm {a:Addr} {kvs:List (Key × Value)} {ks:List Str} {Q:Value->Shared->Prop} (hh:A.handled=none) (lo:(a == sysModules)=false) (dd:s.heap.DictOf (aN prog w) a kvs)
  (hk:kvs.map (·.1)=ks.map Sum.inr) (h64:ks.length < 64)
  (h:∀ (h':Heap) (tk:Nat) (D:Addr) (out:Array Value) (ss':List Str) (e:Nat),(∀ b o,s.heap.get? b=some o->h'.get? b=some o)->s.heap.objs.size<=D->h'.get? D=some { cls:=.type "list",data:=.seq out e } ->
   StrsAre out.toList ss'->ss'.Perm ks->sortedS ss' = true->Q (.ref D) { s with heap:=h',toks:=tk }) :
  wpAny (model prog w) A (call (.builtin "sorted") [.ref a]) Q E s:=by
 refine Calls.call_function_entry kind_sorted plain_sorted entry_sorted (args_sorted1 _) ?_
 unfold Builtin.«sorted»
 refine wpAny_bind (m:=checkCount "sorted" 1 1 _) (wpAny_pure ?_)
 obtain⟨ep,hat⟩:=dd.dictAt
 have hlk:kvs.length=ks.length:=by have:=congrArg List.length hk;simpa using this
 have hs:sizeLine=16777216\/64<=sizeLine:=.inr (by decide)
 have hz:kvs.length<=sizeLine:=by rw [hlk];exact Nat.le_trans (Nat.le_of_lt h64) (by decide)
 refine wpAny_bind (gather (A:=A.in1) (PySem.W.kdl_dict (knd:=aN prog w) (kvs:=kvs) (ep:=ep) lo) hh hat hz fun h' tk acc hkeep hacc hsz=>?_)
 have hl:acc.toList.length=ks.length:=by rw [Array.length_toList,hacc.1,hlk]
 have hS:StrsAre acc.toList ks:=m5 hl fun j v x h1 h2=>by
  obtain⟨k,y,e1,e2⟩:=hacc.2 j v (by rw [<-Array.getElem?_toList];exact h1)
  have e3:(kvs.map (·.1))[j]? = some k:=by rw [List.getElem?_map,e1];rfl
  rw [hk,List.getElem?_map,h2] at e3
  cases (Option.some.inj e3)
  exact lM e2
 refine wpAny_bind (wpAny_newList ?_ (by rw [hl];exact Nat.le_trans (Nat.le_of_lt h64) (by decide)))
 have hoL:(h'.push (seqObj "list" acc.toList.toArray 0)).get? h'.objs.size=some (seqObj "list" acc.toList.toArray 0):=Heap.get?_push_size _ rfl
 refine wpAny_bind (wpAny_holding (wpAny_call_entry slot_list_sort ⟨_,hoL,rfl⟩ entry_list_sort (list_sort_treeK strKind_oneLt hoL hS.keysOf (fun v₁ v₂ rest e=>keyKind_strs (by rw [<-e];exact hS)) (by rw [hl];exact h64) fun st' a1 a2=>⟨_,rfl,?_⟩) (args_list_sort _)))
 obtain⟨ss',b1,b2,b3⟩:=sorted_out_str hS a1 a2
 obtain⟨e,he⟩:=sortedHeap_at (out:=(arrOf st').map (·.2)) hoL
 refine wpAny_pure ⟨_,rfl,h _ tk _ _ ss' e (fun b o ho=>?_) hsz he b1 b2 b3⟩
 have h1:=hkeep b o ho
 have hlt:=Heap.lt_size h1
 rw [sortedHeap_old (Nat.ne_of_lt hlt) (by rw [size_push'];exact Nat.lt_succ_of_lt hlt)]
 exact Heap.get?_push_of_some _ h1
end
theorem sk:∀ {us:List Value} {ys:List Str},StrsAre us ys->Vals (ys.map V.str) us
 | _,_,.nil=>.nil
 | _,_,.cons x t r=>.cons ⟨t,rfl⟩ (sk r)
section
variable {X:Cx}
theorem qo (hc:X.calm=true):fZ X (.builtin "sorted") (fun vs H Q=>∃ (a:Addr) (kvs:List (Key × V)) (ks:List Str),vs = [.ref a]/\H a=some (.dK kvs)/\kvs.map (·.1)=ks.map Sum.inr/\ks.length < 64 /\
  ∀ (l:Addr) (ss:List Str),ss.Perm ks->sortedS ss=true->H l=none->Q (.ref l) (upd H l (.lst (ss.map V.str)))):=by
 intro pins s σ H xs us Q I r h
 obtain⟨a,kvs,ks,rfl,ha,hk,h64,q⟩:=h
 obtain⟨u,rfl,ru⟩:=vals1 r
 cases (show u=Value.ref a from ru)
 obtain⟨z,hd,vs,rel,dd⟩:=o5 I.aP ha
 refine qm (I.ok.hd hc) hd dd (by rw [<-rel.keys];exact hk) h64 fun h' tk D out ss' e hkeep hD he hS hp hs=>?_
 have hv:Vals (ss'.map V.str) out.toList:=sk hS
 refine⟨.ref D,_,I.laid (t':=tk) (o:=.lst (ss'.map V.str)) hkeep hD (show bV X.prog X.w _ h' _ (.lst (ss'.map V.str)) from ⟨?_,out.toList,e,hv,by simpa using he⟩),rfl,q D ss' hp hs (I.aP.fresh hD)⟩
 rw [List.length_map,hp.length_eq]
 exact Nat.le_trans (Nat.le_of_lt h64) (by decide)
end
section
variable {X:Cx}
end
theorem ve:bootBuiltins "sorted" = some (.builtin "sorted"):=PyProof.Rows.boot_sorted
theorem nU (S:RS):eC (fU S)=true:=by
 show (true && (cf (S.told.map PyData.int) && true))=true
 rw [ql];rfl
theorem m6 (l:Addr) (items:Array Value) (n:Nat) (b:Addr) (items2:Array Value) (n2:Nat) (dd:Option Addr) (sl:Array (Option Value)) (hs0:¬(!items.isEmpty && Builtin.List.listTooLong (items.size+items2.size))=true) (hs1:items.size<=sizeLine) (hs2:items.size+items2.size<=sizeLine+1) :
  Meets (Builtin.«list.extend» ⟨[.ref l,.ref b],[]⟩) (fun _ R s=>s.heap.get? l=some { cls:=.type "list",dict:=none,data:=.seq items n,slots:=#[] }/\s.heap.get? b=some { cls:=.type "tuple",dict:=dd,data:=.seq items2 n2,slots:=sl }/\R (.ok (.ret Value.none)) { s with heap:=s.heap.update l (Obj.mapSeq fun x=>x++items2),toks:=s.toks }) :=
 .of_wp fun prog w A R s h=>by
  obtain⟨hp,g,d,tk,os⟩:=s;obtain⟨hl,hb,h⟩:=h;have f1:=AutoSeq1.idx_int;have f2:=AutoSeq1.sub_tuple_tuple;have f3:=AutoSeq1.sub_list_list;have f4:=AutoSeq1.sub_tuple_list;have f5:=AutoSeq1.sub_list_tuple
  have hz':(items++items2).size<=sizeLine+1:=by rw [Array.size_append];exact hs2
  wp_walk using (wpAny_updateSeq hl rfl (hz:=hs1) (_hz':=hz')),wpAny_loadPart' hl,wpAny_loadPart' hb;exact⟨_,rfl,h⟩
section
variable {X:Cx}
def wL (K:PySem.W.Frag):V->List V->Hp->VK->Prop:=fun x vs H Q=>∃ l b xs zs,x=.ref l/\vs = [.ref b]/\H l=some (.lst xs)/\av K H b zs/\xs.length+zs.length<=sizeLine/\Q .bx (upd H l (.lst (xs++zs)))
theorem tR:pO X "list.extend" (wL X.K):=by
 intro pins s σ H x vs v us Q I rx rv h
 obtain⟨l,b,xs,zs,rfl,rfl,hH,hB,hz,q⟩:=h
 cases rx
 obtain⟨u,rfl,ru⟩:=rv.one
 cases ru
 obtain⟨z,its,n,r,hl,e⟩:=I.pP hH
 obtain⟨its2,r2,⟨o,e2,hc,n2,hd⟩,z2⟩:=I.tuple hB
 have hl2:=r2.length
 obtain⟨oc,od,oda,os⟩:=o
 dsimp only at hc hd
 subst hc
 subst hd
 have hsz:its.toArray.size+its2.toArray.size<=sizeLine:=by rw [List.size_toArray,List.size_toArray];omega
 have hlong:¬ (!its.toArray.isEmpty && Builtin.List.listTooLong (its.toArray.size+its2.toArray.size))=true:=by
  rw [pQ hsz,Bool.and_false]
  exact Bool.false_ne_true
 refine call_meets F.slot_list_extend ⟨_,e,rfl⟩ F.entry_list_extend (F.args_list_extend_2 _ _)
  (m6 l its.toArray n b its2.toArray n2 od os hlong (by rw [List.size_toArray];omega) (by omega)) ⟨e,e2,?_⟩
 refine⟨.bx,_,I.tD (its':=its++its2) hH e (by simp) (r.append r2) ?_,rfl,q⟩
 rw [List.length_append]
 omega
end
section
variable {a0 a1 z:V}
end
section
variable {C D:Addr} {H H':Hp} {wp p pl d nl sl:Addr} {plv:V} {nums:List Int} {S:RS} {m:Nat}
theorem bC.keep (A:bC C H p pl d nl sl plv nums S m) (k:∀ c o,H c=some o->(c=p\/c=pl\/c=d\/c=nl\/c=sl)->H' c=some o):bC C H' p pl d nl sl plv nums S m:=by
 obtain⟨⟨dx,h1⟩,h2,h3,⟨kvs,h4,h5⟩,h6,h7,h8,h9⟩:=A
 exact⟨⟨dx,k _ _ h1 (.inl rfl)⟩,k _ _ h2 (.inr (.inl rfl)),h3,⟨kvs,k _ _ h4 (.inr (.inr (.inl rfl))),h5⟩,k _ _ h6 (.inr (.inr (.inr (.inl rfl)))),k _ _ h7 (.inr (.inr (.inr (.inr rfl)))),h8,h9⟩
end
section
variable (C D:Addr)
end
section
variable {C D:Addr} {H H':Hp} {wp p pl d nl sl st d2 tl bl np:Addr} {plv:V} {nums nums':List Int} {S S':RS} {m m':Nat}
end
section
variable (C D:Addr)
end
section
variable {C D:Addr} {H0 H H1 H2:Hp} {wp p pl d nl sl st st' d2 tl bl np b:Addr} {plv:V} {nums more:List Int} {S S':RS} {m m':Nat}
end
theorem wM (ns:List Int):(PyData.tuple (ns.map PyData.int)).depth<=60:=by
 simp [PyData.depth,kM]
section
variable {X:Cx}
end
section
variable {ps:List Piece} {nums more:List Int} {S S0:RS} {m n:Nat}
end
section
variable {ps:List Piece} {nums more:List Int} {S:RS} {m n:Nat}
end
inductive Call where
 | hand (ns:List Int)
 | go (n:Nat)
structure zL where
 S:RS
 nums:List Int
 m:Nat
structure WA where
 wp:Addr
 p:Addr
 pl:Addr
 d:Addr
 nl:Addr
 sl:Addr
section
variable {C D:Addr} {H H' H0:Hp} {x y:WA} {pv pv':V} {s s':zL} {c:Addr} {o:HO}
end
section
variable (C D:Addr)
end
section
variable {C D:Addr} {H0 H H1:Hp} {w0 w1 w2:WA} {wl cl nb:Addr} {plv ov:V} {x0 x1 x2 x':zL} {n0 n1 n':List Int} {vs:List V} {cs:List Call}
end
section
variable {prog:Program} {w:World} {A:Around} {E:Value->Shared->Prop} {s:Shared}
theorem m7 {j t:Addr} {n:Nat} {its:Array Value} {x:Value} {Q:Value->Shared->Prop} (hj:s.heap.IsTupleIter j t n) (ht:s.heap.IsTuple t its) (hx:its[n]? = some x)
  (hQ:∀ g,g.IsTupleIter j t (n+1)->Heap.SameBut j s.heap g->Q x { s with heap:=g }):wpAny (model prog w) A (Builtin.SmallTypes.nextOf (.ref j)) Q E s:=by
 obtain⟨ob,eo,ec,ed⟩:=id hj
 obtain⟨ot,et,_,k,ek⟩:=ht
 unfold Builtin.SmallTypes.nextOf
 refine wpAny_bind (wpAny_callSpecial?_slot (name:=Str.ofString "__next__") hj.typeIs F.slot_tuple_iterator_next (wpAny_call_entry F.slot_tuple_iterator_next hj.typeIs F.entry_tuple_iterator_next ?_ (F.args_tuple_iterator_next_1 _)))
 show wpAny _ _ (field (.ref j) 0 >>= _) _ _ s
 refine wpAny_bind (wpAny_field eo ed (x:=.ref t) rfl ?_)
 show wpAny _ _ (if (Value.ref t == Value.none)=true then _ else _) _ _ s
 refine (if_neg (c:=(Value.ref t == Value.none)=true) Bool.false_ne_true) ▸ ?_
 show wpAny _ _ (field (.ref j) 1 >>= _) _ _ s
 refine wpAny_bind (wpAny_field eo ed (x:=.int n 0) rfl (wpAny_bind (wpAny_seqItems et ek ?_)))
 simp only [hx,Int.toNat_natCast]
 refine wpAny_bind (wpAny_setField eo ed (by simp) (wpAny_pure ⟨x,rfl,wpAny_pure (hQ _ ⟨_,Heap.get?_update_self _ eo (Obj.isFreed_of_fields (Obj.data_mapFields ed _)),(Obj.cls_mapFields ..).trans ec,?_⟩ (Heap.SameBut.update ..))⟩))
 rw [Obj.data_mapFields ed];simp [rawInt]
theorem nV {j t:Addr} {n:Nat} {its:Array Value} {Q:Value->Shared->Prop} (ha:A.handled=none) (hj:s.heap.IsTupleIter j t n) (ht:s.heap.IsTuple t its) (hx:its[n]? = none)
    (hE:∀ g e,Heap.ExtBut j s.heap g->(∃ o,g.get? e=some o/\o.cls=.type "StopIteration")->E (.ref e) { s with heap:=g }):wpAny (model prog w) A (Builtin.SmallTypes.nextOf (.ref j)) Q E s:=by
  obtain⟨ob,eo,ec,ed⟩:=id hj
  obtain⟨ot,et,_,k,ek⟩:=ht
  unfold Builtin.SmallTypes.nextOf
  refine wpAny_bind (wpAny_callSpecial?_slot (name:=Str.ofString "__next__") hj.typeIs F.slot_tuple_iterator_next (wpAny_call_entry F.slot_tuple_iterator_next hj.typeIs F.entry_tuple_iterator_next ?_ (F.args_tuple_iterator_next_1 _)))
  show wpAny _ _ (field (.ref j) 0 >>= _) _ _ s
  refine wpAny_bind (wpAny_field eo ed (x:=.ref t) rfl ?_)
  show wpAny _ _ (if (Value.ref t == Value.none)=true then _ else _) _ _ s
  refine (if_neg (c:=(Value.ref t == Value.none)=true) Bool.false_ne_true) ▸ ?_
  show wpAny _ _ (field (.ref j) 1 >>= _) _ _ s
  refine wpAny_bind (wpAny_field eo ed (x:=.int n 0) rfl (wpAny_bind (wpAny_seqItems et ek ?_)))
  simp only [hx,Int.toNat_natCast]
  refine wpAny_bind (wpAny_rule (wpAny_bind (wpAny_setField eo ed (by simp) ?_)))
  show wpAny _ _ (newExc (.type "StopIteration") [] >>= fun _=>_) _ _ _
  refine wpAny_bind ?_
  simp only [newTuple,newExc]
  refine wpAny_bind (wpAny_newObj_type (wpAny_bind (m:=firstArgMember _ _) (wpAny_of_eq (a:=Value.none) (by first | rfl | (simp only [firstArgMember];rfl)) (wpAny_newObj_type ?_ (by size_fits)))) (by size_fits))
  simp only [raiseNew]
  refine wpAny_bind (wpAny_handled (by
    first | rw [show A.in1.handled=none from ha] | rw [ha]
    exact wpAny_bind (wpAny_pure (wpAny_throw (hE _ _ (((Heap.SameBut.update ..).extBut.push _).push _) ⟨_,Heap.get?_push_size _ rfl,rfl⟩)))))
structure sm (z p q j k a b:Addr):Prop where
 pz:p ≠ z
 qz:q ≠ z
 jz:j ≠ z
 kz:k ≠ z
 pq:p ≠ q
 pj:p ≠ j
 pk:p ≠ k
 qj:q ≠ j
 qk:q ≠ k
 jk:j ≠ k
 az:a ≠ z
 aq:a ≠ q
 aj:a ≠ j
 ak:a ≠ k
 bz:b ≠ z
 bq:b ≠ q
 bj:b ≠ j
 bk:b ≠ k
theorem gx {h g:Heap} {a:Addr} {xs:Array Value} (x:h.IsTuple a xs) (k:∀ o,h.get? a=some o->g.get? a=some o):g.IsTuple a xs:=by
 obtain⟨o,e,r⟩:=x
 exact⟨o,k o e,r⟩
theorem yu {z p q j k a b:Addr} {m n:Nat} {xs ys:Array Value} {x y u v:Value} {Q:Value->Shared->Prop} (D:sm z p q j k a b)
  (gz:IsZip s.heap z p q .none) (gp:IsPair s.heap p (.ref j) (.ref k)) (gq:IsPair s.heap q u v)
  (gj:s.heap.IsTupleIter j a m) (gk:s.heap.IsTupleIter k b n) (ga:s.heap.IsTuple a xs) (gb:s.heap.IsTuple b ys) (hx:xs[m]? = some x) (hy:ys[n]? = some y)
  (hQ:∀ g,IsZip g z p q (rawInt s.heap.objs.size)->IsPair g q x y->g.IsTupleIter j a (m+1)->g.IsTupleIter k b (n+1)->IsPair g s.heap.objs.size x y->g.objs.size=s.heap.objs.size+1 ->
   (∀ c o,c ≠ z->c ≠ q->c ≠ j->c ≠ k->s.heap.get? c=some o->g.get? c=some o)->Q (.ref s.heap.objs.size) { s with heap:=g }) :
  wpAny (model prog w) A (Builtin.«zip.__next__» ⟨[.ref z],[]⟩) (fun fin s'=>∃ v,fin=.done (.ret v)/\Q v s') E s:=by
 show wpAny _ _ (field (.ref z) 2 >>= fun _=>_) _ _ _
 refine wpAny_bind (wpAny_field gz rfl (x:=.bool false) rfl ?_)
 show wpAny _ _ (field (.ref z) 3 >>= fun _=>_) _ _ _
 refine wpAny_bind (wpAny_field gz rfl (x:=.ref p) rfl (wpAny_bind (wpAny_seqItems gp rfl ?_)))
 show wpAny _ _ (Builtin.SmallTypes.ownedTupleIsFree (.ref z) >>= fun _=>_) _ _ _
 refine wpAny_bind ?_
 unfold Builtin.SmallTypes.ownedTupleIsFree
 refine wpAny_bind (wpAny_field gz rfl (x:=.none) rfl (wpAny_pure ?_))
 simp only [if_true]
 refine wpAny_bind (wpAny_rule (wpAny_bind (wpAny_field gz rfl (x:=.ref q) rfl (wpAny_bind (wpAny_setField_rec gz (by simp) fun g1 gz1 t1=>?_)))))
 replace gz1:IsZip g1 z p q .ellipsis:=gz1
 refine wpAny_bind ?_
 simp only [List.forIn_cons,List.forIn_nil,List.zipIdx_cons,List.zipIdx_nil]
 refine wpAny_bind (wpAny_bind (wpAny_onRaise ?_))
 show wpAny _ _ (Builtin.SmallTypes.nextOf (.ref j) >>= fun _=>_) _ _ _
 refine wpAny_bind (m7 (gj.extBut t1.extBut D.jz) (gx ga fun o e=>t1.extBut _ _ D.az e) hx fun g2 gj2 t2=>wpAny_pure ?_)
 have gq2:IsPair g2 q u v:=t2.extBut _ _ D.qj (t1.extBut _ _ D.qz gq)
 refine wpAny_bind (wpAny_seqItems gq2 rfl (wpAny_bind (wpAny_updateSeq_pair gq2 fun g3 gq3 t3=>?_)))
 replace gq3:IsPair g3 q x v:=gq3
 refine wpAny_bind (wpAny_letGo (wpAny_pure (wpAny_bind (wpAny_bind (wpAny_onRaise ?_)))))
 show wpAny _ _ (Builtin.SmallTypes.nextOf (.ref k) >>= fun _=>_) _ _ _
 refine wpAny_bind (m7 (((gk.extBut t1.extBut D.kz).extBut t2.extBut D.jk.symm).extBut t3.extBut D.qk.symm) (gx gb fun o e=>t3.extBut _ _ D.bq (t2.extBut _ _ D.bj (t1.extBut _ _ D.bz e))) hy fun g4 gk4 t4=>wpAny_pure ?_)
 have gq4:IsPair g4 q x v:=t4.extBut _ _ D.qk gq3
 refine wpAny_bind (wpAny_seqItems gq4 rfl (wpAny_bind (wpAny_updateSeq_pair gq4 fun g5 gq5 t5=>?_)))
 replace gq5:IsPair g5 q x y:=gq5
 refine wpAny_bind (wpAny_letGo (wpAny_pure (wpAny_pure (wpAny_bind (wpAny_seqItems gq5 rfl (wpAny_bind (wpAny_newTuple ?_)))))))
 have ez:g5.objs.size=s.heap.objs.size:=by rw [t5.1,t4.1,t3.1,t2.1,t1.1]
 have gz5:IsZip g5 z p q .ellipsis:=t5.extBut _ _ D.qz.symm (t4.extBut _ _ D.kz.symm (t3.extBut _ _ D.qz.symm (t2.extBut _ _ D.jz.symm gz1)))
 have k5:∀ c o,c ≠ z->c ≠ q->c ≠ j->c ≠ k->s.heap.get? c=some o->g5.get? c=some o:=fun c o c1 c2 c3 c4 e=>t5.extBut _ _ c2 (t4.extBut _ _ c4 (t3.extBut _ _ c2 (t2.extBut _ _ c3 (t1.extBut _ _ c1 e))))
 have gj5:g5.IsTupleIter j a (m+1):=((gj2.extBut t3.extBut D.qj.symm).extBut t4.extBut D.jk).extBut t5.extBut D.qj.symm
 have gk5:g5.IsTupleIter k b (n+1):=gk4.extBut t5.extBut D.qk.symm
 have lz:z < g5.objs.size:=Heap.lt_size gz5
 show wpAny _ _ (Builtin.SmallTypes.ownedTupleHandOut (.ref z) (.ref g5.objs.size) >>= fun _=>_) _ _ _
 refine wpAny_bind ?_
 unfold Builtin.SmallTypes.ownedTupleHandOut
 have gz6:IsZip (g5.push { cls:=.type "tuple",data:=.seq #[x,y] }) z p q .ellipsis:=Heap.get?_push_of_some _ gz5
 refine wpAny_bind (wpAny_setField_rec gz6 (by simp) fun g7 gz7 t7=>?_)
 replace gz7:IsZip g7 z p q (rawInt g5.objs.size):=gz7
 refine wpAny_setField_rec gz7 (by simp) fun g8 gz8 t8=>?_
 replace gz8:IsZip g8 z p q (rawInt g5.objs.size):=gz8
 have up:∀ c o,c ≠ z->g5.get? c=some o->g8.get? c=some o:=fun c o c1 e=>t8.extBut _ _ c1 (t7.extBut _ _ c1 (Heap.get?_push_of_some _ e))
 have gT:IsPair g8 g5.objs.size x y:=t8.extBut _ _ (Nat.ne_of_gt lz) (t7.extBut _ _ (Nat.ne_of_gt lz) (Heap.get?_push_size _ rfl))
 have e8:g8.objs.size=g5.objs.size+1:=by rw [t8.1,t7.1,Heap.size_push]
 rw [ez] at gz8 gT e8
 refine wpAny_pure ⟨_,rfl,?_⟩
 show Q (.ref g5.objs.size) _
 rw [ez]
 refine hQ g8 gz8 (up _ _ D.qz gq5) ?_ ?_ gT e8 fun c o c1 c2 c3 c4 e=>up c o c1 (k5 c o c1 c2 c3 c4 e)
 ·obtain⟨o,e,r⟩:=gj5
  exact⟨o,up _ _ D.jz e,r⟩
 ·obtain⟨o,e,r⟩:=gk5
  exact⟨o,up _ _ D.kz e,r⟩
theorem zM {z p q j k a b:Addr} {m n:Nat} {xs ys:Array Value} {u v:Value} {Q:Fin->Shared->Prop} (ha:A.handled=none) (D:sm z p q j k a b)
  (gz:IsZip s.heap z p q .none) (gp:IsPair s.heap p (.ref j) (.ref k)) (gq:IsPair s.heap q u v)
  (gj:s.heap.IsTupleIter j a m) (gk:s.heap.IsTupleIter k b n) (ga:s.heap.IsTuple a xs) (gb:s.heap.IsTuple b ys) (hend:xs[m]? = none\/ys[n]? = none)
  (hE:∀ g e,(∀ c o,c ≠ z->c ≠ q->c ≠ j->c ≠ k->s.heap.get? c=some o->g.get? c=some o)->(∃ o,g.get? e=some o/\o.cls=.type "StopIteration")->E (.ref e) { s with heap:=g }) :
  wpAny (model prog w) A (Builtin.«zip.__next__» ⟨[.ref z],[]⟩) Q E s:=by
 show wpAny _ _ (field (.ref z) 2 >>= fun _=>_) _ _ _
 refine wpAny_bind (wpAny_field gz rfl (x:=.bool false) rfl ?_)
 show wpAny _ _ (field (.ref z) 3 >>= fun _=>_) _ _ _
 refine wpAny_bind (wpAny_field gz rfl (x:=.ref p) rfl (wpAny_bind (wpAny_seqItems gp rfl ?_)))
 show wpAny _ _ (Builtin.SmallTypes.ownedTupleIsFree (.ref z) >>= fun _=>_) _ _ _
 refine wpAny_bind ?_
 unfold Builtin.SmallTypes.ownedTupleIsFree
 refine wpAny_bind (wpAny_field gz rfl (x:=.none) rfl (wpAny_pure ?_))
 simp only [if_true]
 refine wpAny_bind (wpAny_rule (wpAny_bind (wpAny_field gz rfl (x:=.ref q) rfl (wpAny_bind (wpAny_setField_rec gz (by simp) fun g1 gz1 t1=>?_)))))
 replace gz1:IsZip g1 z p q .ellipsis:=gz1
 refine wpAny_bind ?_
 simp only [List.forIn_cons,List.forIn_nil,List.zipIdx_cons,List.zipIdx_nil]
 refine wpAny_bind (wpAny_bind (wpAny_onRaise ?_))
 show wpAny _ _ (Builtin.SmallTypes.nextOf (.ref j) >>= fun _=>_) _ _ _
 cases hx:xs[m]? with
 | none =>
  refine wpAny_bind (nV ha (gj.extBut t1.extBut D.jz) (gx ga fun o e=>t1.extBut _ _ D.az e) hx fun g2 e t2 he=>?_)
  obtain⟨oe,eoe,ce⟩:=he
  have gz2:IsZip g2 z p q .ellipsis:=t2 _ _ D.jz.symm gz1
  have ne:e ≠ z:=fun x=>by subst x;rw [gz2] at eoe;cases eoe;simp at ce
  exact wpAny_setField_rec gz2 (by simp) fun g3 _ t3=>hE g3 e (fun c o c1 _ c3 _ x=>t3.extBut _ _ c1 (t2 _ _ c3 (t1.extBut _ _ c1 x))) ⟨oe,t3.extBut _ _ ne eoe,ce⟩
 | some x =>
  have hy:ys[n]? = none:=hend.elim (fun h=>by rw [hx] at h;cases h) id
  refine wpAny_bind (m7 (gj.extBut t1.extBut D.jz) (gx ga fun o e=>t1.extBut _ _ D.az e) hx fun g2 gj2 t2=>wpAny_pure ?_)
  have gq2:IsPair g2 q u v:=t2.extBut _ _ D.qj (t1.extBut _ _ D.qz gq)
  refine wpAny_bind (wpAny_seqItems gq2 rfl (wpAny_bind (wpAny_updateSeq_pair gq2 fun g3 gq3 t3=>?_)))
  refine wpAny_bind (wpAny_letGo (wpAny_pure (wpAny_bind (wpAny_bind (wpAny_onRaise ?_)))))
  show wpAny _ _ (Builtin.SmallTypes.nextOf (.ref k) >>= fun _=>_) _ _ _
  refine wpAny_bind (nV ha (((gk.extBut t1.extBut D.kz).extBut t2.extBut D.jk.symm).extBut t3.extBut D.qk.symm) (gx gb fun o e=>t3.extBut _ _ D.bq (t2.extBut _ _ D.bj (t1.extBut _ _ D.bz e))) hy fun g4 e t4 he=>?_)
  obtain⟨oe,eoe,ce⟩:=he
  have gz4:IsZip g4 z p q .ellipsis:=t4 _ _ D.kz.symm (t3.extBut _ _ D.qz.symm (t2.extBut _ _ D.jz.symm gz1))
  have ne:e ≠ z:=fun x=>by subst x;rw [gz4] at eoe;cases eoe;simp at ce
  exact wpAny_setField_rec gz4 (by simp) fun g5 _ t5=>hE g5 e (fun c o c1 c2 c3 c4 x=>t5.extBut _ _ c1 (t4 _ _ c4 (t3.extBut _ _ c2 (t2.extBut _ _ c3 (t1.extBut _ _ c1 x))))) ⟨oe,t5.extBut _ _ ne eoe,ce⟩
theorem yw {z p q j k a b:Addr} {m n:Nat} {xs ys:Array Value} {x y u v:Value} {Q:Option Value->Shared->Prop} (D:sm z p q j k a b)
  (gz:IsZip s.heap z p q .none) (gp:IsPair s.heap p (.ref j) (.ref k)) (gq:IsPair s.heap q u v)
  (gj:s.heap.IsTupleIter j a m) (gk:s.heap.IsTupleIter k b n) (ga:s.heap.IsTuple a xs) (gb:s.heap.IsTuple b ys) (hx:xs[m]? = some x) (hy:ys[n]? = some y)
  (hQ:∀ g,IsZip g z p q (rawInt s.heap.objs.size)->IsPair g q x y->g.IsTupleIter j a (m+1)->g.IsTupleIter k b (n+1)->IsPair g s.heap.objs.size x y->g.objs.size=s.heap.objs.size+1 ->
   (∀ c o,c ≠ z->c ≠ q->c ≠ j->c ≠ k->s.heap.get? c=some o->g.get? c=some o)->Q (some (.ref s.heap.objs.size)) { s with heap:=g }) :
  wpAny (model prog w) A (pyNext (.ref z)) Q E s:=by
 have ty:s.TypeIs (.ref z) "zip" := ⟨_,gz,rfl⟩
 unfold pyNext
 exact wpAny_bind (wpAny_attempt (wpAny_callSpecial?_slot (name:=Str.ofString "__next__") ty F.slot_zip_next (wpAny_call_entry F.slot_zip_next ty F.entry_zip_next
   (yu D gz gp gq gj gk ga gb hx hy fun g a1 a2 a3 a4 a5 a6 a7=>wpAny_pure (hQ g a1 a2 a3 a4 a5 a6 a7)) (F.args_zip_next_1 _))))
theorem yx {z p q j k a b:Addr} {m n:Nat} {xs ys:Array Value} {u v:Value} {Q:Option Value->Shared->Prop} (ha:A.handled=none) (D:sm z p q j k a b)
  (gz:IsZip s.heap z p q .none) (gp:IsPair s.heap p (.ref j) (.ref k)) (gq:IsPair s.heap q u v)
  (gj:s.heap.IsTupleIter j a m) (gk:s.heap.IsTupleIter k b n) (ga:s.heap.IsTuple a xs) (gb:s.heap.IsTuple b ys) (hend:xs[m]? = none\/ys[n]? = none)
  (hQ:∀ g,(∀ c o,c ≠ z->c ≠ q->c ≠ j->c ≠ k->s.heap.get? c=some o->g.get? c=some o)->Q none { s with heap:=g }):wpAny (model prog w) A (pyNext (.ref z)) Q E s:=by
 have ty:s.TypeIs (.ref z) "zip" := ⟨_,gz,rfl⟩
 unfold pyNext
 refine wpAny_bind (wpAny_attempt (wpAny_callSpecial?_slot (name:=Str.ofString "__next__") ty F.slot_zip_next (wpAny_call_entry F.slot_zip_next ty F.entry_zip_next
   (zM ha D gz gp gq gj gk ga gb hend fun g e hk he=>?_) (F.args_zip_next_1 _))))
 obtain⟨o,eo,ec⟩:=he
 exact wpAny_bind (wpAny_isInstance (T := "StopIteration") (b:=true) ⟨o,eo,ec⟩ isSubtype_stop (wpAny_pure (hQ _ hk)))
abbrev vf (h:Heap) (a:Addr):Heap:=h.push { cls:=.type "tuple_iterator",data:=.fields #[.ref a,.int 0 0] }
abbrev xO (h:Heap) (a b:Addr):Heap:=(vf h a).push { cls:=.type "tuple_iterator",data:=.fields #[.ref b,.int 0 0] }
abbrev xP (h:Heap) (a b:Addr):Heap:=(xO h a b).push { cls:=.type "tuple",data:=.seq #[.ref h.objs.size,.ref (vf h a).objs.size] }
abbrev xQ (h:Heap) (a b:Addr):Heap:=(xP h a b).push { cls:=.type "tuple",data:=.seq #[.none,.none] }
abbrev so (h:Heap) (a b:Addr):Heap:=(xQ h a b).push { cls:=.type "zip",data:=.fields #[.none,.bool false,.bool false,.ref (xO h a b).objs.size,.ref (xP h a b).objs.size] }
theorem zN (a b:Addr) (xs ys:Array Value):Meets (Builtin.«zip.__new__» ⟨[.type "zip",.ref a,.ref b],[]⟩) (fun _ R s=>s.heap.IsTuple a xs/\s.heap.IsTuple b ys /\
   R (.ok (.ret (.ref (xQ s.heap a b).objs.size))) { s with heap:=so s.heap a b }) :=
 .of_wp fun P w' A' R' s' hh=>by
  obtain⟨hp,g,d,tk,os⟩:=s'
  obtain⟨ga,gb,hh⟩:=hh
  have hsub:=sub_zip
  have la:Heap.IsTuple (Shared.heap ⟨hp,g,d,tk,os⟩) a xs:=ga
  have lb:Heap.IsTuple (Shared.heap ⟨vf hp a,g,d,tk,os⟩) b ys:=gx gb fun o e=>Heap.get?_push_of_some _ e
  wp_walk using wpAny_pyIter_tuple la,wpAny_pyIter_tuple lb
  exact⟨_,rfl,hh⟩
theorem yy {a b:Addr} {xs ys:Array Value} {Q:Value->Shared->Prop} (ga:s.heap.IsTuple a xs) (gb:s.heap.IsTuple b ys)
  (h:∀ g,IsZip g (s.heap.objs.size+4) (s.heap.objs.size+2) (s.heap.objs.size+3) .none->IsPair g (s.heap.objs.size+2) (.ref s.heap.objs.size) (.ref (s.heap.objs.size+1)) ->
   IsPair g (s.heap.objs.size+3) .none .none->g.IsTupleIter s.heap.objs.size a 0->g.IsTupleIter (s.heap.objs.size+1) b 0 ->
   (∀ c o,s.heap.get? c=some o->g.get? c=some o)->Q (.ref (s.heap.objs.size+4)) { s with heap:=g }) :
  wpAny (model prog w) A (call (.type "zip") [.ref a,.ref b]) Q E s:=by
 refine callType_new F.called_zip (by decide) (F.typeCall_zip_2 _ _) (F.newCall_zip_2 _ _) (fun obj=>F.args_object_init_3 obj _ _) F.entry_zip_new (zN a b xs ys) ⟨ga,gb,?_⟩
 have z1:(vf s.heap a).objs.size=s.heap.objs.size+1:=Heap.size_push ..
 have z2:(xO s.heap a b).objs.size=s.heap.objs.size+2:=by rw [Heap.size_push,z1]
 have z3:(xP s.heap a b).objs.size=s.heap.objs.size+3:=by rw [Heap.size_push,z2]
 have z4:(xQ s.heap a b).objs.size=s.heap.objs.size+4:=by rw [Heap.size_push,z3]
 have up:∀ {h:Heap} {c:Addr} {o o':Obj},h.get? c=some o->(h.push o').get? c=some o:=fun e=>Heap.get?_push_of_some _ e
 have q5:(so s.heap a b).get? (xQ s.heap a b).objs.size=some _:=Heap.get?_push_size _ rfl
 have q4:(so s.heap a b).get? (xP s.heap a b).objs.size=some _:=up (Heap.get?_push_size _ rfl)
 have q3:(so s.heap a b).get? (xO s.heap a b).objs.size=some _:=up (up (Heap.get?_push_size _ rfl))
 have q2:(so s.heap a b).get? (vf s.heap a).objs.size=some _:=up (up (up (Heap.get?_push_size _ rfl)))
 have q1:(so s.heap a b).get? s.heap.objs.size=some _:=up (up (up (up (Heap.get?_push_size _ rfl))))
 show _/\_
 rw [z2,z3,z4] at q5
 rw [z1,z2] at q3
 rw [z3] at q4
 rw [z1] at q2
 rw [z4]
 exact⟨⟨_,q5,rfl⟩,h _ q5 q3 q4 ⟨_,q1,rfl,rfl⟩ ⟨_,q2,rfl,rfl⟩ fun c o x=>up (up (up (up (up x))))⟩
end
section
variable {X:Cx} {pins:List (Addr × Obj)} {σ : List (Option V)} {H H':Hp} {s:Shared} {h':Heap}
theorem Inv.jJ {t':Nat} {fp:List Addr} (I:Inv X pins σ H s) (k:∀ b o,b ∉ fp->s.heap.get? b=some o->h'.get? b=some o) (f:∀ b ∈ fp,fi X pins H b):Inv X pins σ H { s with heap:=h',toks:=t' }:=by
 have nit:∀ b u,H b=some u->b ∉ fp:=fun b u e z=>by rw [(f b z).1] at e;cases e
 refine I.step (g':=s.gens) (d':=s.drawn) (ch:=fp) (fun b hb=>?_) (fun b o _ _ hc e _=>k b o hc e) (fun b o _ _ hc e _=>⟨o.slots,k b o hc e⟩) (fun _ _ _ _ n=>n)
  (fun b o hc e=>⟨o,k b o hc e⟩) (fun _ _ e=>e) (fun _ _ _ e=>e) (fun b ps e=>⟨#[],by rw [e];simp⟩) (fun m hm=>?_) (fun b u e=>?_) I.bare
 ·obtain⟨f0,f1,f2,f3,f4,f5⟩:=f b hb
  exact⟨f3,f1,f4,f5⟩
 ·obtain⟨o,es,ep,ho,r⟩:=hm
  exact⟨o,es,ep,k _ o (fun z=>(f _ z).2.1 rfl) ho,r⟩
 ·refine (I.aP b u e).lV (fun c v hc q=>k c v ?_ q) (fun _ q=>q) fun _ _ q=>q
  rcases hc with z | z
  ·rw [z];exact nit b u e
  ·exact nit c _ z
def xR (K:PySem.W.Frag) (a b:Addr):It :=
 ⟨fun i H=>∃ xs ys x y,av K H a xs/\av K H b ys/\xs[i]? = some x/\ys[i]? = some y,
  fun i H v H'=>∃ t x y,v=.ref t/\H t=none/\H' = upd H t (.tup [x,y])/\∀ xs ys,av K H a xs->av K H b ys->xs[i]? = some x/\ys[i]? = some y,
  fun i H=>∃ xs ys,av K H a xs/\av K H b ys/\(xs.length<=i\/ys.length<=i)⟩
theorem wN {P:Program} {w:World} {K:PySem.W.Frag} {elts:List Expr} {kk:Nat} {pos:Pos} (a b z p q j k:Addr) (D:sm z p q j k a b) :
    Turn P w K (.Tuple elts kk pos) (xR K a b) [z,p,q,j,k] z (fun i h=>IsZip h z p q .none/\IsPair h p (.ref j) (.ref k)/\(∃ u v,IsPair h q u v)/\h.IsTupleIter j a i/\h.IsTupleIter k b i) where
  mem:=by simp
  obj:=fun i h st c hc=>by
    obtain⟨gz,gp,⟨u,v,gq⟩,⟨oj,ej,cj,dj⟩,⟨ok,ek,ck,dk⟩⟩:=st
    simp only [List.mem_cons,List.not_mem_nil,or_false] at hc
    rcases hc with rfl | rfl | rfl | rfl | rfl
    · exact⟨_,gz,fun v e=>by cases e⟩
    · exact⟨_,gp,fun v e=>by cases e⟩
    · exact⟨_,gq,fun v e=>by cases e⟩
    · exact⟨oj,ej,fun v e=>by rw [dj] at e;cases e⟩
    · exact⟨ok,ek,fun v e=>by rw [dk] at e;cases e⟩
  keep:=fun i h g st kp=>by
    obtain⟨gz,gp,⟨u,v,gq⟩,⟨oj,ej,rj⟩,⟨ok,ek,rk⟩⟩:=st
    exact⟨kp z (by simp) _ gz,kp p (by simp) _ gp,⟨u,v,kp q (by simp) _ gq⟩,⟨oj,kp j (by simp) _ ej,rj⟩,⟨ok,kp k (by simp) _ ek,rk⟩⟩
  item:=by
    intro X hP hw hK hc i pins s σ H E I hf st hg
    subst hP hw hK
    obtain⟨gz,gp,⟨u,v,gq⟩,gj,gk⟩:=st
    obtain⟨xs,ys,x,y,ha,hb,hx,hy⟩:=hg
    obtain⟨is,ra,pa,_⟩:=I.tuple ha
    obtain⟨js,rb,pb,_⟩:=I.tuple hb
    obtain⟨xv,hxv,rx⟩:=ra.get hx
    obtain⟨yv,hyv,ry⟩:=rb.get hy
    have sz:∀ c ∈ [z,p,q,j,k],c ≠ s.heap.objs.size:=fun c hc e=>by
      subst e
      simp only [List.mem_cons,List.not_mem_nil,or_false] at hc
      rcases hc with e | e | e | e | e
      · exact absurd (Heap.lt_size gz) (by rw [<-e];exact Nat.lt_irrefl _)
      · exact absurd (Heap.lt_size gp) (by rw [<-e];exact Nat.lt_irrefl _)
      · exact absurd (Heap.lt_size gq) (by rw [<-e];exact Nat.lt_irrefl _)
      · obtain⟨oj,ej,_⟩:=gj
        exact absurd (Heap.lt_size ej) (by rw [<-e];exact Nat.lt_irrefl _)
      · obtain⟨ok,ek,_⟩:=gk
        exact absurd (Heap.lt_size ek) (by rw [<-e];exact Nat.lt_irrefl _)
    refine yw D gz gp gq gj gk (show s.heap.IsTuple a is.toArray from pa) (show s.heap.IsTuple b js.toArray from pb) (x:=xv) (y:=yv) (by simpa using hxv) (by simpa using hyv) fun g a1 a2 a3 a4 a5 a6 hk=>?_
    refine⟨.ref s.heap.objs.size,rfl,wpAny_letOwnedTupleGo_zip a1 fun g' gz' sb=>?_⟩
    have fr:=I.aP.fresh (a:=s.heap.objs.size) (Nat.le_refl _)
    have I1:Inv X pins σ (upd H s.heap.objs.size (.tup [x,y])) { s with heap:=s.heap.push { cls:=.type "tuple",data:=.seq #[xv,yv] },toks:=s.toks } :=
      I.laid (fun _ _ e=>Heap.get?_push_of_some _ e) (Nat.le_refl _) ⟨by show 2<=sizeLine;decide,[xv,yv],.cons rx (.cons ry .nil),by first | exact IsTup.new _ _ | exact⟨_,Heap.get?_push_size _ rfl,rfl,_,rfl,rfl⟩⟩
    have f1:∀ c ∈ [z,p,q,j,k],fi X pins (upd H s.heap.objs.size (.tup [x,y])) c:=fun c hc=>by
      obtain⟨f0,fr'⟩:=hf c hc
      exact⟨by rw [af (sz c hc)];exact f0,fr'⟩
    have I2:Inv X pins σ (upd H s.heap.objs.size (.tup [x,y])) { s with heap:=g',toks:=s.toks }:=Inv.jJ (s:={ s with heap:=s.heap.push { cls:=.type "tuple",data:=.seq #[xv,yv] },toks:=s.toks }) (fp:=[z,p,q,j,k]) (h':=g') (t':=s.toks) I1 (fun c o hc e=>by
      simp only [List.mem_cons,List.not_mem_nil,or_false,not_or] at hc
      refine sb.extBut _ _ hc.1 ?_
      rcases Heap.get?_push_cases e with ⟨rfl,rfl⟩ | e
      · exact a5
      · exact hk c o hc.1 hc.2.2.1 hc.2.2.2.1 hc.2.2.2.2 e) f1
    refine⟨.ref s.heap.objs.size,_,I2,rfl,⟨_,x,y,rfl,fr,rfl,fun xs' ys' h1 h2=>?_⟩,⟨gz',sb.extBut _ _ D.pz (hk _ _ D.pz D.pq D.pj D.pk gp),⟨xv,yv,sb.extBut _ _ D.qz a2⟩,a3.extBut sb.extBut D.jz,a4.extBut sb.extBut D.kz⟩,fun c hc=>(f1 c hc).1⟩
    rw [I.ia h1 ha,I.ia h2 hb]
    exact⟨hx,hy⟩
  done:=by
    intro X hP hw hK hc i pins s σ H E I hf st hg
    subst hP hw hK
    obtain⟨gz,gp,⟨u,v,gq⟩,gj,gk⟩:=st
    obtain⟨xs,ys,ha,hb,hl⟩:=hg
    obtain⟨is,ra,pa,_⟩:=I.tuple ha
    obtain⟨js,rb,pb,_⟩:=I.tuple hb
    have la:=ra.length
    have lb:=rb.length
    have he:is.toArray[i]? = none\/js.toArray[i]? = none:=by
      rcases hl with h | h
      · exact .inl (by simp;omega)
      · exact .inr (by simp;omega)
    exact yx (I.ok.hd hc) D gz gp gq gj gk (show s.heap.IsTuple a is.toArray from pa) (show s.heap.IsTuple b js.toArray from pb) he fun g hk=>⟨rfl,I.jJ (fp:=[z,p,q,j,k]) (t':=s.toks) (fun c o hc e=>by
      simp only [List.mem_cons,List.not_mem_nil,or_false,not_or] at hc
      exact hk c o hc.1 hc.2.2.1 hc.2.2.2.1 hc.2.2.2.2 e) hf⟩
  self:=fun _ _ _ _ _ st h=>wpAny_pyIter_zip st.1 h
theorem BN {N a b:Nat} (ha:a < N) (hb:b < N):sm (N+4:Nat) (N+2:Nat) (N+3:Nat) N (N+1:Nat) a b :=
 have ne:∀ {u v:Nat},u < v->¬ (u=v):=fun h e=>by omega
 have ne':∀ {u v:Nat},v < u->¬ (u=v):=fun h e=>by omega
 ⟨ne (by omega),ne (by omega),ne (by omega),ne (by omega),ne (by omega),ne' (by omega),ne' (by omega),ne' (by omega),ne' (by omega),ne (by omega),ne (by omega),ne (by omega),ne (by omega),ne (by omega),ne (by omega),ne (by omega),ne (by omega),ne (by omega)⟩
theorem zO:bootBuiltins "zip" = some (.type "zip"):=by decide +kernel
def Bv (K:PySem.W.Frag) (ta:TA):TI:=fun σ H R=>ta σ H fun vs H1=>∃ a b,vs = [.ref a,.ref b]/\(∃ xs,av K H1 a xs)/\(∃ ys,av K H1 b ys)/\R (xR K a b) H1
theorem zP {a b:Expr} {ta:TA} {p pos tp:Pos} {elts:List Expr} {kk:Nat} (hg:Gl X "zip") (hm:X.mg "zip" = none) (ha:PA X [a,b] ta) (hs:starEach [a,b] X.env = [(false,eval a X.env),(false,eval b X.env)]:=by rfl) (hs2:starEach [b] X.env = [(false,eval b X.env)]:=by rfl) :
  PI X (.Tuple elts kk tp) (.Call (.Name "zip" p) [a,b] [] pos) (Bv X.K ta):=by
 intro pins s σ H R I h
 refine Call_ (jx I hg hm zO (PyProof.Rows.callWith_type1 (aU (ha pos pins s σ H _ I h) fun us s1 ⟨vs,H1,I1,r1,q1⟩=>?_) (by rw [hs,hs2]) (by rw [hs2];rfl)))
 obtain⟨x,y,e,⟨xs,hx⟩,⟨ys,hy⟩,q⟩:=q1
 subst e
 cases r1 with
 | cons r rr =>
  cases rr with
  | cons r' rr =>
   cases rr
   cases r
   cases r'
   obtain⟨is,rx,px,_⟩:=I1.tuple hx
   obtain⟨js,ry,py,_⟩:=I1.tuple hy
   have lx:x < s1.heap.objs.size:=px.lt
   have ly:y < s1.heap.objs.size:=py.lt
   refine yy (show s1.heap.IsTuple x is.toArray from px) (show s1.heap.IsTuple y js.toArray from py) fun g gz gp gq gj gk up=>?_
   refine wpAny_pyIter_zip gz ?_
   have I2:Inv X pins σ H1 { s1 with heap:=g }:=I1.kept (t':=s1.toks) up
   refine⟨_,[s1.heap.objs.size+4,s1.heap.objs.size+2,s1.heap.objs.size+3,s1.heap.objs.size,s1.heap.objs.size+1],_,xR X.K x y,H1,rfl,I2,wN x y _ _ _ _ _ ?_,⟨gz,gp,⟨_,_,gq⟩,gj,gk⟩,fun c hc=>?_,q⟩
   ·exact BN lx ly
   ·have le:s1.heap.objs.size<=c:=by
     simp only [List.mem_cons,List.not_mem_nil,or_false] at hc
     rcases hc with rfl | rfl | rfl | rfl | rfl
     ·exact Nat.le_add_right _ _
     ·exact Nat.le_add_right _ _
     ·exact Nat.le_add_right _ _
     ·exact Nat.le_refl _
     ·exact Nat.le_add_right _ _
    exact I1.iQ le (I1.aP.fresh le)
theorem zQ {K:PySem.W.Frag} {a b acc:Addr} {xs ys:List V} {n:Nat} {js:List Nat} {g:TG} {ct:TT} {te:TE} {σ : St} {H1:Hp} {Q:VK} (Pv:Nat->List V->St->Hp->Prop) (h0:Pv 0 [] (fq n js σ) (upd H1 acc (.lst [])))
  (hl:∀ i zs τ H,i<=min xs.length ys.length->Pv i zs τ H->av K H a xs/\av K H b ys/\H acc=some (.lst zs)/\zs.length < sizeLine)
  (hs:∀ i x y zs τ H t,xs[i]? = some x->ys[i]? = some y->H t=none->Pv i zs τ H->g (.ref t) τ (upd H t (.tup [x,y])) fun τ1 H4=>ct τ1 H4 fun b H5=>if b=true then te τ1 H5 fun v H6=>H6 acc=some (.lst zs)/\Pv (i+1) (zs ++ [v]) τ1 (upd H6 acc (.lst (zs ++ [v]))) else Pv (i+1) zs τ1 H5)
  (hd:∀ zs τ H,Pv (min xs.length ys.length) zs τ H->Q (.ref acc) H) :
  rY (xR K a b) n js g ct te acc σ H1 Q:=by
 refine⟨fun i m zs τ H=>m=min xs.length ys.length - i/\i<=min xs.length ys.length/\Pv i zs τ H,⟨min xs.length ys.length,by simp,Nat.zero_le _,h0⟩,?_⟩
 rintro i m zs τ H ⟨rfl,hi,p⟩
 obtain⟨qa,qb,q2,q3⟩:=hl i zs τ H hi p
 refine⟨q2,q3,?_⟩
 by_cases hlt:i < min xs.length ys.length
 ·have l1:i < xs.length:=by omega
  have l2:i < ys.length:=by omega
  refine .inr ⟨⟨xs,ys,xs[i],ys[i],qa,qb,by simp [l1],by simp [l2]⟩,Pv (i+1),fun zs' τ' H' p'=>⟨min xs.length ys.length - (i+1),by omega,rfl,hlt,p'⟩,fun v H' y=>?_⟩
  obtain⟨t,x,y,rfl,ht,rfl,h⟩:=y
  obtain⟨h1,h2⟩:=h xs ys qa qb
  exact hs i x y zs τ H t h1 h2 ht p
 ·have e:i=min xs.length ys.length:=by omega
  subst e
  refine .inl ⟨⟨xs,ys,qa,qb,?_⟩,hd zs τ H p⟩
  rcases Nat.le_total xs.length ys.length with h | h
  ·exact .inl (by omega)
  ·exact .inr (by omega)
end
structure zR (K:PySem.W.Frag) (mg:Str->Option Value) (nm:Str) (a:Addr) (D:List (Str × Addr)):Prop where
 BO:mg nm=some (.ref a)
 lk:∃ es ep,K.lookup a=some ⟨.type "dict",none,.dict es ep,#[]⟩/\KTD.Rows (fun d v=>v=Value.ref d) es.toList D
section
variable {prog:Program} {w:World} {A:Around} {E:Value->Shared->Prop} {s:Shared}
theorem wO {a d:Addr} {o:Obj} {es:Array DictEntry} {ep:Nat} {k:Str} {t:Tok} {D:List (Str × Addr)} {Q:Option Value->Shared->Prop} (ho:s.heap.get? a=some o) (hd:o.data=.dict es ep)
  (hr:KTD.Rows (fun d v=>v=Value.ref d) es.toList D) (ha:KTD.datumAt k D=some d) (q:Q (some (.ref d)) { s with toks:=s.toks+1 }):wpAny (model prog w) A (dictGet a (.str k t)) Q E s:=by
 unfold dictGet
 try with_reducible refine wpAny_holding ?_
 refine wpAny_bind (wpAny_pyHash_str (wpAny_bind (KTD.kt_dictFind_strs (s:={ s with toks:=s.toks+1 }) ho hd (by have:=hr.exact;obtain⟨l⟩:=es;simpa using this) ?_)))
 have hq:Q (findBy (fun k v=>v.isStr k) es k) { s with toks:=s.toks+1 }:=by
  obtain⟨v,hv,rfl⟩:=hr.find_some ha
  have e:findBy (fun k v=>v.isStr k) es k=some (.ref d):=by
   rw [<-hv]
   obtain⟨l⟩:=es
   simp [findBy]
  rw [e]
  exact q
 rw [findBy_of_findIdx?] at hq
 cases hi:es.findIdx? fun e=>e.key.isStr k with
 | some i=>rw [hi] at hq;exact wpAny_bind (wpAny_dictEntries (s:={ s with toks:=s.toks+1 }) ho hd (wpAny_pure hq))
 | none=>rw [hi] at hq;exact wpAny_pure hq
theorem wQ {a d:Addr} {o:Obj} {es:Array DictEntry} {ep:Nat} {k:Str} {t:Tok} {D:List (Str × Addr)} {Q:Value->Shared->Prop} (ty:s.TypeIs (.ref a) "dict") (ho:s.heap.get? a=some o) (hd:o.data=.dict es ep)
  (hr:KTD.Rows (fun d v=>v=Value.ref d) es.toList D) (ha:KTD.datumAt k D=some d) (q:Q (.ref d) { s with toks:=s.toks+1 }):wpAny (model prog w) A (getItem (.ref a) (.str k t)) Q E s:=by
 unfold getItem
 try with_reducible refine wpAny_holding ?_
 refine wpAny_bind (wpAny_sequenceKey ty (by decide) (wpAny_bind (wpAny_callSpecial?_slot (name:=Str.ofString "__getitem__") ty slot_dict_getitem (wpAny_call_entry slot_dict_getitem ty entry_dict_getitem ?_ (args_dict_getitem _ _)))))
 show wpAny _ _ (dictGet a (.str k t) >>= fun _=>_) _ _ s
 exact wpAny_bind (wO ho hd hr ha (wpAny_pure ⟨_,rfl,wpAny_pure q⟩))
end
section
variable {X:Cx}
theorem yz {nm:Str} {a:Addr} {D:List (Str × Addr)} {i:Expr} {p pos:Pos} {ty:TE} (G:zR X.K X.mg nm a D) (hg:Gl X nm) (hi:PE X i ty) (hs:zB i) (hdb:(nm == ("__debug__" : Str))=false:=by decide) :
  PE X (.Subscript (.Name nm p) i pos) (fun σ H Q=>ty σ H fun y H1=>∃ x d,y=.str x/\KTD.datumAt x D=some d/\Q (.ref d) H1):=by
 intro pins s σ H Q I h
 obtain⟨es,ep,hk,hr⟩:=G.lk
 refine ym PySem.F.slot_dict_getitem.lookup hs (aU (xY (v:=.ref a) hg G.BO rfl hdb pins s σ H (fun x H1=>x=.ref a/\ty σ H1 fun y H1=>∃ x d,y=.str x/\KTD.datumAt x D=some d/\Q (.ref d) H1) I ⟨rfl,h⟩) fun u s1 ⟨x,H1,I1,rx,ex,q1⟩=>?_)
 subst ex
 obtain rfl:u=Value.ref a:=rx
 refine aU (hi pins s1 σ H1 _ I1 q1) fun iv s2 ⟨y,H2,I2,ry,k,d,ey,hd,q2⟩=>?_
 subst ey
 obtain⟨t,rfl⟩:=(show ∃ t,iv=Value.str k t from ry)
 have ho:=I2.iN a _ hk
 exact⟨⟨_,ho,rfl⟩,wQ ⟨_,ho,rfl⟩ ho rfl hr hd ⟨.ref d,H2,I2.tok _,rfl,q2⟩⟩
end
def pick (w:Str) (xs:List V) (ks:List Str):List V:=((xs.zip ks).filter fun p=>decide (p.2=w)).map (·.1)
def jg (w:Str) (xs:List V) (ks:List Str) (i:Nat):List V:=(((xs.zip ks).take i).filter fun p=>decide (p.2=w)).map (·.1)
theorem tS {w:Str} {xs:List V} {ks:List Str} {i:Nat} {x:V} {k:Str} (hx:xs[i]? = some x) (hk:ks[i]? = some k):jg w xs ks (i+1)=jg w xs ks i++(if k=w then [x] else []):=by
 have hz:(xs.zip ks)[i]? = some (x,k):=by rw [List.getElem?_zip_eq_some];exact⟨hx,hk⟩
 unfold jg
 rw [List.take_add_one,hz,List.filter_append,List.map_append]
 congr 1
 by_cases h:k=w
 ·rw [if_pos h];simp [h]
 ·rw [if_neg h];simp [h]
theorem vg {w:Str} {xs:List V} {ks:List Str}:jg w xs ks (min xs.length (ks.map V.str).length)=pick w xs ks:=by
 unfold jg pick
 rw [List.length_map,List.take_of_length_le (by rw [List.length_zip];exact Nat.le_refl _)]
theorem vh {w:Str} {xs:List V} {ks:List Str} {i:Nat}:(jg w xs ks i).length<=i:=by
 unfold jg
 rw [List.length_map]
 exact Nat.le_trans (List.length_filter_le ..) (by rw [List.length_take];exact Nat.min_le_left ..)
theorem av.same {K:PySem.W.Frag} {H H':Hp} {a:Addr} {xs:List V} (h:av K H a xs) (s:ao H H'):av K H' a xs:=by
 rcases h with h | h
 ·rcases h with h | h
  ·exact .inl (.inl (s _ _ h))
  ·obtain⟨b,hb⟩:=h
   exact .inl (.inr ⟨b,s _ _ hb⟩)
 ·exact .inr h
def nW (K:PySem.W.Frag):Sp:=fun vs H Q _=>∃ (t s:Addr) (v0:V) (xs:List V) (ks:List Str) (w:Str),vs = [.ref t,.ref s,.str w]/\H t=some (.tup (v0 :: xs))/\av K H s (ks.map V.str)/\xs.length<=1000 /\
 ∀ l H',H' l=some (.lst (pick w xs ks))->ao H H'->Q (.ref l) H'
def KTup (K:PySem.W.Frag) (a:Addr) (ks:List Str):Prop:=∃ (o:Obj) (its:Array Value) (n:Nat),K.lookup a=some o/\o.cls=.type "tuple" /\ o.data=.seq its n/\its.size<=sizeLine/\Vals (ks.map V.str) its.toList
structure tT (K:PySem.W.Frag) (mg:Str->Option Value) (aE s0 s1 s2 s3:Addr):Prop where
 tab:zR K mg "END_PARTS" aE [("stop",s0),("go",s1),("less",s2),("is",s3)]
 q0:KTup K s0 []
 q1:KTup K s1 ["piece"]
 q2:KTup K s2 ["name", "number", "piece", "piece"]
 q3:KTup K s3 ["name", "number", "piece", "piece"]
def cC:End->List Nat
 | .stop=>[]
 | .go p=>[p]
 | .dD _ _ _ p q=>[p,q]
def kE:End->List Str
 | .stop=>[]
 | .go _=>["piece"]
 | .dD ..=>["name", "number", "piece", "piece"]
def wE:End->Str
 | .stop => "stop"
 | .go _ => "go"
 | .dD b ..=>wT b
theorem vi (e:End):∃ xs,i5 e=.str (wE e) :: xs/\xs.length<=1000/\pick "piece" xs (kE e)=(cC e).map fun k=>V.int (k:Nat):=by
 cases e with
 | stop=>exact⟨[],rfl,by decide,rfl⟩
 | go p=>exact⟨_,rfl,by show 1<=1000;decide,by simp [pick,kE,cC]⟩
 | dD b x n p q =>
  refine⟨_,rfl,by show 4<=1000;decide,?_⟩
  have h1:¬ ("name" : Str) = "piece" := by decide +kernel
  have h2:¬ ("number" : Str) = "piece" := by decide +kernel
  simp [pick,kE,cC,h1,h2]
theorem tT.at_ {K:PySem.W.Frag} {mg:Str->Option Value} {aE s0 s1 s2 s3:Addr} (G:tT K mg aE s0 s1 s2 s3) (e:End):∃ s,KTD.datumAt (wE e) [(("stop" : Str),s0),("go",s1),("less",s2),("is",s3)] = some s/\KTup K s (kE e):=by
 have hit:∀ {k:Str} {d:Addr} {D:List (Str × Addr)},KTD.datumAt k ((k,d) :: D)=some d:=fun {k d D}=>by
  show (if decide (k=k)=true then some d else KTD.datumAt k D)=some d
  rw [if_pos (decide_eq_true rfl)]
 have miss:∀ {k x:Str} {d:Addr} {D:List (Str × Addr)} {o:Option Addr},¬ k=x->KTD.datumAt k D=o->KTD.datumAt k ((x,d) :: D)=o:=fun {k x d D o} h e=>by
  show (if decide (k=x)=true then some d else KTD.datumAt k D)=o
  rw [if_neg (by rw [decide_eq_false h];decide)]
  exact e
 cases e with
 | stop=>exact⟨s0,hit,G.q0⟩
 | go p=>exact⟨s1,miss (show ¬ (("go" : Str) = "stop") by decide +kernel) hit,G.q1⟩
 | dD b x n p q =>
  cases b with
  | true=>exact⟨s2,miss (show ¬ (("less" : Str) = "stop") by decide +kernel) (miss (show ¬ (("less" : Str) = "go") by decide +kernel) hit),G.q2⟩
  | false=>exact⟨s3,miss (show ¬ (("is" : Str) = "stop") by decide +kernel) (miss (show ¬ (("is" : Str) = "go") by decide +kernel) (miss (show ¬ (("is" : Str) = "less") by decide +kernel) hit)),G.q3⟩
def m8:Sp:=fun vs H Q _=>∃ (ea:Addr) (e:End),vs = [.ref ea]/\H ea=some (.tup (i5 e))/\∀ t H',H' t=some (.tup ((cC e).map fun k=>V.int (k:Nat)))->ao H H'->Q (.ref t) H'
end L2
namespace LS
open PySem
def Up (xs:Array Nat):Prop:=∀ (i j:Nat) (a b:Nat),i < j->xs[i]? = some a->xs[j]? = some b->a < b
theorem wR {xs:Array Nat} {j:Nat} (up:Up xs):∀ (fuel lo hi:Nat),hi - lo<=fuel->lo<=hi->hi<=xs.size ->
  (∀ i a,i < lo->xs[i]? = some a->a < j)->(∀ i a,hi<=i->xs[i]? = some a->j<=a) ->
  (∀ i a,i < SetTable.below.go xs j fuel lo hi->xs[i]? = some a->a < j)/\(∀ i a,SetTable.below.go xs j fuel lo hi<=i->xs[i]? = some a->j<=a)/\SetTable.below.go xs j fuel lo hi<=xs.size:=by
 intro fuel
 induction fuel with
 | zero =>
  intro lo hi h1 h2 h3 h4 h5
  have e:lo=hi:=by omega
  subst e
  unfold SetTable.below.go
  exact⟨h4,h5,h3⟩
 | succ f ih =>
  intro lo hi h1 h2 h3 h4 h5
  unfold SetTable.below.go
  by_cases hl:lo < hi
  ·rw [if_pos hl]
   dsimp only
   have hm:(lo+hi) / 2 < hi:=by omega
   have hm2:lo<=(lo+hi) / 2:=by omega
   generalize (lo+hi) / 2=mid at hm hm2
   have hs:mid < xs.size:=by omega
   have hg:xs[mid]? = some xs[mid]:=by simp [hs]
   have hd:xs.getD mid j=xs[mid]:=by simp [Array.getD,hs]
   rw [hd]
   by_cases hc:xs[mid] < j
   ·rw [if_pos hc]
    refine ih (mid+1) hi (by omega) (by omega) h3 (fun i a hi' he=>?_) h5
    by_cases e:i=mid
    ·subst e;rw [hg] at he;cases he;exact hc
    ·have:=up i mid a _ (by omega) he hg;omega
   ·rw [if_neg hc]
    refine ih lo mid (by omega) hm2 (by omega) h4 (fun i a hi' he=>?_)
    by_cases e:i=mid
    ·subst e;rw [hg] at he;cases he;omega
    ·have:=up mid i _ a (by omega) hg he;omega
  ·rw [if_neg hl]
   have e:lo=hi:=by omega
   subst e
   exact⟨h4,h5,h3⟩
theorem wU {xs:Array Nat} {j:Nat} (up:Up xs) :
    (∀ i a,i < SetTable.below xs j->xs[i]? = some a->a < j)/\(∀ i a,SetTable.below xs j<=i->xs[i]? = some a->j<=a)/\SetTable.below xs j<=xs.size :=
  wR up xs.size 0 xs.size (by omega) (Nat.zero_le _) (Nat.le_refl _) (fun _ _ h=>absurd h (Nat.not_lt_zero _)) (fun i a h e=>by
    have:xs[i]? = none:=by simp;omega
    rw [this] at e;cases e)
theorem qq {α : Type} {xs:Array α} {p:Nat} {x:α} (hp:p<=xs.size) (i:Nat) :
  (SetTable.insertAt xs p x)[i]? = if i < p then xs[i]? else if i=p then some x else xs[i - 1]?:=by
 unfold SetTable.insertAt
 have h1:(xs.extract 0 p).size=p:=by simp;omega
 rw [Array.getElem?_append]
 have h2:((xs.extract 0 p).push x).size=p+1:=by simp;omega
 rw [h2]
 by_cases a:i < p
 ·rw [if_pos (by omega),if_pos a,Array.getElem?_push,h1,if_neg (by omega)]
  rw [Array.getElem?_extract]
  simp;omega
 ·rw [if_neg a]
  by_cases b:i=p
  ·subst b
   rw [if_pos (by omega),if_pos rfl,Array.getElem?_push,h1,if_pos rfl]
  ·rw [if_neg (by omega),if_neg b]
   rw [Array.getElem?_extract]
   have:p+(i - (p+1))=i - 1:=by omega
   rw [this]
   by_cases c:i - 1 < xs.size
   ·simp;omega
   ·have:xs[i - 1]? = none:=by simp;omega
    rw [this];simp
theorem Up.insert {xs:Array Nat} {j:Nat} (up:Up xs) (hn:xs[SetTable.below xs j]? ≠ some j):Up (SetTable.insertAt xs (SetTable.below xs j) j):=by
 obtain⟨h1,h2,h3⟩:=wU (j:=j) up
 generalize SetTable.below xs j=p at h1 h2 h3 hn
 have h2':∀ i a,p<=i->xs[i]? = some a->j < a:=fun i a hi e=>by
  have q:=h2 i a hi e
  by_cases z:i=p
  ·subst z
   rcases Nat.lt_or_ge j a with c | c
   ·exact c
   ·have:a=j:=by omega
    subst this;exact absurd e hn
  ·have hps:p < xs.size:=by
    have:i < xs.size:=by
     rcases Nat.lt_or_ge i xs.size with c | c
     ·exact c
     ·have:xs[i]? = none:=by simp;omega
      rw [this] at e;cases e
    omega
   have e1:xs[p]? = some xs[p]:=by simp [hps]
   have q1:=h2 p _ (Nat.le_refl _) e1
   have q2:=up p i _ _ (by omega) e1 e
   omega
 intro a b x y hab ha hb
 rw [qq h3] at ha hb
 by_cases c1:a < p
 ·rw [if_pos c1] at ha
  by_cases d1:b < p
  ·rw [if_pos d1] at hb;exact up a b _ _ hab ha hb
  ·rw [if_neg d1] at hb
   by_cases d2:b=p
   ·rw [if_pos d2] at hb;cases hb;exact h1 a _ c1 ha
   ·rw [if_neg d2] at hb
    exact Nat.lt_trans (h1 a _ c1 ha) (h2' (b - 1) _ (by omega) hb)
 ·rw [if_neg c1] at ha
  by_cases c2:a=p
  ·rw [if_pos c2] at ha;cases ha
   rw [if_neg (by omega),if_neg (by omega)] at hb
   exact h2' (b - 1) _ (by omega) hb
  ·rw [if_neg c2] at ha
   rw [if_neg (by omega),if_neg (by omega)] at hb
   exact up (a - 1) (b - 1) _ _ (by omega) ha hb
def Rp (t:SetTable):Prop:=t.plain=true->Up t.place
theorem wV {t:SetTable} {f:Nat->Int} {h:Int}:∀ (fuel:Nat) (p:SetTable.Probe) (j:Nat) (d:Option Nat),(∀ x,p.dummy=some x->t.place[SetTable.below t.place x]? ≠ some x) ->
  SetTable.probe.go t f h fuel p=some (.empty j d)->t.place[SetTable.below t.place (d.getD j)]? ≠ some (d.getD j):=by
 intro fuel
 induction fuel with
 | zero=>intro p j d _ e;unfold SetTable.probe.go at e;cases e
 | succ n ih =>
  intro p j d hd e
  unfold SetTable.probe.go at e
  have adv:∀ q:SetTable.Probe,(t.advance q).dummy=q.dummy:=fun q=>by unfold SetTable.advance;split <;> rfl
  cases hs:t.slot p.j with
  | empty =>
   rw [hs] at e
   dsimp only at e
   injection e with e
   injection e with e1 e2
   subst e1;subst e2
   unfold SetTable.slot at hs
   dsimp only at hs
   split at hs
   ·cases hs
   ·rename_i hne
    cases hdm:p.dummy with
    | none=>intro z;exact hne (by rw [show (none:Option Nat).getD p.j=p.j from rfl] at z;simpa using z)
    | some x=>exact hd x hdm
  | dummy =>
   rw [hs] at e
   dsimp only at e
   refine ih _ j d (fun x hx=>?_) e
   rw [adv] at hx
   injection hx with hx
   subst hx
   unfold SetTable.slot at hs
   dsimp only at hs
   split at hs
   ·cases hs
   ·rename_i hne
    intro z;exact hne (by simpa using z)
  | live i =>
   rw [hs] at e
   dsimp only at e
   split at e
   ·cases e
   ·exact ih _ j d (fun x hx=>hd x (by rw [adv] at hx;exact hx)) e
theorem qr {t:SetTable} {h:Int} {j:Nat} {b:Bool} (e:t.freeSlot h=some (j,b)):t.place[SetTable.below t.place j]? ≠ some j:=by
 unfold SetTable.freeSlot at e
 split at e
 ·rename_i j' d hp
  injection e with e
  injection e with e1 e2
  subst e1
  unfold SetTable.probe at hp
  exact wV _ _ _ _ (fun x hx=>by cases hx) hp
 ·cases e
theorem Rp.standIn (t:SetTable) (n:Nat):Rp (t.standIn n):=fun h=>by cases h
theorem Rp.layNew {t:SetTable} (r:Rp t) (es:Array (Int × Value)) (h:Int) (x:Value):Rp (layNew t es h x).2.1/\(layNew t es h x).2.1.led=t.led:=by
 unfold PySem.layNew
 split
 ·rename_i j b e
  dsimp only
  unfold SetTable.orStandIn
  split
  ·refine⟨fun hp=>?_,rfl⟩
   exact (r hp).insert (qr e)
  ·exact⟨Rp.standIn _ _,rfl⟩
 ·exact⟨Rp.standIn _ _,rfl⟩
theorem wW (n:Nat) (f:Nat->Option Nat):Up (((List.range n).filterMap fun j=>(f j).map fun k=>(j,k)).map (·.1)).toArray:=by
 have hs:List.Pairwise (· < ·) (((List.range n).filterMap fun j=>(f j).map fun k=>(j,k)).map (·.1)):=by
  have hl:List.Sublist (((List.range n).filterMap fun j=>(f j).map fun k=>(j,k)).map (·.1)) (List.range n):=by
   generalize List.range n=l
   induction l with
   | nil=>exact List.Sublist.refl _
   | cons a l ih =>
    rw [List.filterMap_cons]
    cases e:f a with
    | none=>exact ih.cons a
    | some k=>exact ih.cons₂ a
  exact List.Pairwise.sublist hl List.pairwise_lt_range
 intro i j a b hij ha hb
 rw [List.getElem?_toArray] at ha hb
 have hi:i < _:=(List.getElem?_eq_some_iff.mp ha).1
 have hj:j < _:=(List.getElem?_eq_some_iff.mp hb).1
 have:=List.pairwise_iff_getElem.mp hs i j hi hj hij
 rw [(List.getElem?_eq_some_iff.mp ha).2,(List.getElem?_eq_some_iff.mp hb).2] at this
 exact this
theorem Rp.relayAll (t:SetTable) (es:Array (Int × Value)) (n:Nat):Rp (relayAll t es n).2.1/\(relayAll t es n).2.1.led=t.led:=by
 unfold PySem.relayAll
 split
 ·rename_i t' order e
  dsimp only
  split
  ·unfold SetTable.relaid SetTable.laid at e
   simp only [bind,Option.bind] at e
   split at e
   ·cases e
   ·rename_i owner _
    injection e with e
    injection e with e1 _
    subst e1
    exact⟨fun _=>wW _ _,rfl⟩
  ·exact⟨Rp.standIn _ _,rfl⟩
 ·exact⟨Rp.standIn _ _,rfl⟩
theorem Up.bK {xs:Array Nat} (h:xs.size<=1):Up xs:=fun i j a b hij ha hb=>by
 have:=(Array.getElem?_eq_some_iff.mp hb).1;omega
open PySem.Spec PyProof.Rows
section
variable {prog:Program} {w:World} {K:Type} [DecidableEq K] {knd:KeyKind prog w K}
variable {A:Around} {E:Value->Shared->Prop} {s:Shared}
def Ent (knd:KeyKind prog w K) (e:Int × Value) (k:K):Prop:=knd.is k e.2=true/\e.1=knd.hash k/\e.2.scannable=true
structure bC (knd:KeyKind prog w K) (h:Heap) (a:Addr) (ks:List K) (o:Obj) (es:Array (Int × Value)) (ep:Nat) (t:SetTable):Prop where
 at_:h.get? a=some o
 ex:o.ExactSet
 data:o.data=.set es ep t
 ents:∃ ls:List K,ls.Perm ks/\Paired (Ent knd) es.toList ls
 nd:ks.Nodup
 bK:es.size < scanBound
 fits:t.fits es.size=true
 led:t.led = !(w.params.followText "set-order")
 up:Rp t
def di (knd:KeyKind prog w K) (h:Heap) (a:Addr) (ks:List K):Prop:=∃ o es ep t,bC knd h a ks o es ep t
theorem lN {α β : Type} {F:α->β->Prop}:∀ {l l':List α},l.Perm l'->∀ {m':List β},Paired F l' m'->∃ m,m.Perm m'/\Paired F l m:=by
 intro l l' p
 induction p with
 | nil=>intro m' h;exact⟨m',.refl _,h⟩
 | cons x p ih =>
  intro m' h
  cases h with
  | cons r t=>obtain⟨m,q,e⟩:=ih t;exact⟨_,q.cons _,.cons r e⟩
 | swap x y l =>
  intro m' h
  cases h with
  | cons r t=>cases t with
   | cons r' t'=>exact⟨_,.swap _ _ _,.cons r' (.cons r t')⟩
 | trans p q ih1 ih2 =>
  intro m' h
  obtain⟨m1,a1,b1⟩:=ih2 h
  obtain⟨m2,a2,b2⟩:=ih1 b1
  exact⟨m2,a2.trans a1,b2⟩
theorem iE {α β : Type} {F:α->β->Prop}:∀ {l:List α} {m:List β},Paired F l m->(∀ x ∈ l,∃ y ∈ m,F x y)/\(∀ y ∈ m,∃ x ∈ l,F x y)
 | _,_,.nil=>⟨(fun _ h=>nomatch h),(fun _ h=>nomatch h)⟩
 | _,_,.cons r t=>by
  obtain⟨h1,h2⟩:=iE t
  refine⟨fun x hx=>?_,fun y hy=>?_⟩
  ·rcases List.mem_cons.mp hx with rfl | hx
   ·exact⟨_,List.mem_cons_self ..,r⟩
   ·obtain⟨y,hy,f⟩:=h1 x hx;exact⟨y,List.mem_cons_of_mem _ hy,f⟩
  ·rcases List.mem_cons.mp hy with rfl | hy
   ·exact⟨_,List.mem_cons_self ..,r⟩
   ·obtain⟨x,hx,f⟩:=h2 y hy;exact⟨x,List.mem_cons_of_mem _ hx,f⟩
theorem lO {α β : Type} {F:α->β->Prop} {x:α} {y:β} (f:F x y):∀ {l:List α} {m:List β},Paired F l m->Paired F (l ++ [x]) (m ++ [y])
 | _,_,.nil=>.cons f .nil
 | _,_,.cons r t=>.cons r (lO f t)
variable {a:Addr} {ks:List K} {o:Obj} {es:Array (Int × Value)} {ep:Nat} {t:SetTable} {h h':Heap}
theorem bC.elems (S:bC knd h a ks o es ep t):ElemsOf knd es.toList:=fun e he=>by
 obtain⟨ls,_,p⟩:=S.ents
 obtain⟨k,_,f⟩:=(iE p).1 e he
 exact⟨⟨k,f.1,f.2.1⟩,f.2.2⟩
theorem bC.len (S:bC knd h a ks o es ep t):es.size=ks.length:=by
 obtain⟨ls,q,p⟩:=S.ents
 rw [<-Array.length_toList,p.length,q.length_eq]
theorem bC.mem (S:bC knd h a ks o es ep t) (k:K):k ∈ ks ↔ ∃ e ∈ es.toList,knd.is k e.2=true:=by
 obtain⟨ls,q,p⟩:=S.ents
 rw [<-q.mem_iff]
 constructor
 ·intro hk
  obtain⟨e,he,f⟩:=(iE p).2 k hk
  exact⟨e,he,f.1⟩
 ·rintro⟨e,he,f⟩
  obtain⟨k',hk',f'⟩:=(iE p).1 e he
  rw [knd.inj e.2 k k' f f'.1];exact hk'
theorem bC.setOf (S:bC knd h a ks o es ep t):h.SetOf knd a (fun k=>decide (k ∈ ks)) ks.length :=
 ⟨o,es,ep,t,S.at_,S.ex,S.data,S.elems,fun k=>by rw [decide_eq_true_eq];exact S.mem k,S.bK,S.fits,S.len⟩
theorem bC.keep (S:bC knd h a ks o es ep t) (k:∀ o,h.get? a=some o->h'.get? a=some o):bC knd h' a ks o es ep t:={ S with at_:=k _ S.at_ }
theorem di.keep (S:di knd h a ks) (k:∀ o,h.get? a=some o->h'.get? a=some o):di knd h' a ks:=let ⟨o,es,ep,t,S⟩:=S;⟨o,es,ep,t,S.keep k⟩
theorem di.setOf (S:di knd h a ks):h.SetOf knd a (fun k=>decide (k ∈ ks)) ks.length:=let ⟨_,_,_,_,S⟩:=S;S.setOf
theorem qt {o:Obj} {es es':Array (Int × Value)} {ep:Nat} {t t':SetTable} (hd:o.data=.set es ep t):Obj.putSet es' t' o = { o with data:=.set es' (ep+1) t' }:=putSet_of es' t' hd
theorem bC.store {es':Array (Int × Value)} {t':SetTable} {ks':List K} (S:bC knd h a ks o es ep t) (he:∃ ls:List K,ls.Perm ks'/\Paired (Ent knd) es'.toList ls) (nd:ks'.Nodup) (bK:es'.size < scanBound)
  (fits:t'.fits es'.size=true) (led:t'.led=t.led) (up:Rp t'):bC knd (h.update a (Obj.putSet es' t')) a ks' { o with data:=.set es' (ep+1) t' } es' (ep+1) t' where
 at_:=by
  have q:=Heap.get?_update_self (Obj.putSet es' t') S.at_ (by rw [qt S.data];rfl)
  rw [qt S.data] at q
  exact q
 ex:=S.ex
 data:=rfl
 ents:=he
 nd:=nd
 bK:=bK
 fits:=fits
 led:=led.trans S.led
 up:=up
theorem ml {g:Bool->Sem Unit} (hg:∀ (b:Bool) (s₁ : Shared) (Q':Unit->Shared->Prop),Q' () s₁->wpAny (model prog w) A (g b) Q' E s₁) {es1:Array (Int × Value)} {t2:SetTable} {ks':List K}
  (S:bC knd s.heap a ks o es ep t) (he:∃ ls:List K,ls.Perm ks'/\Paired (Ent knd) es1.toList ls) (nd:ks'.Nodup) (bK:es1.size < scanBound) (fits:t2.fits es1.size=true) (led:t2.led=t.led) (up:Rp t2) {wd:Bool}
  {R:Option Bool->Shared->Prop} (q:∀ h',Heap.SameBut a s.heap h'->di knd h' a ks'->R (some true) { s with heap:=h' }) :
  wpAny (model prog w) A (storeSet a es1 t2 >>= fun _=>if (!wd && t2.tooFull)=true then g (relayAll t2 es1 (SetTable.grown es1.size)).2.2 >>= fun _ =>
   storeSet a (relayAll t2 es1 (SetTable.grown es1.size)).1 (relayAll t2 es1 (SetTable.grown es1.size)).2.1 >>= fun _=>pure (some true) else pure (some true)) R E s:=by
 refine wpAny_bind (wpAny_storeSet_of S.at_ S.data ?_ (fits_of_scanBound bK))
 have S1:=S.store he nd bK fits led up
 have b1:=Heap.SameBut.update s.heap a (Obj.putSet es1 t2)
 by_cases hc:(!wd && t2.tooFull)=true
 ·rw [if_pos hc]
  have p1:=relayAll_perm t2 es1 (SetTable.grown es1.size)
  have p2:=relayAll_fits t2 es1 (SetTable.grown es1.size)
  have p3:=Rp.relayAll t2 es1 (SetTable.grown es1.size)
  generalize relayAll t2 es1 (SetTable.grown es1.size)=R3 at p1 p2 p3
  obtain⟨es3,t3,gv⟩:=R3
  obtain⟨ls,l1,l2⟩:=he
  obtain⟨ls3,l3,l4⟩:=lN p1 l2
  have z:es3.size=es1.size:=by rw [<-Array.length_toList,p1.length_eq,Array.length_toList]
  have few3:es3.size < scanBound:=by rw [z];exact bK
  refine wpAny_bind (hg _ _ _ ?_)
  refine wpAny_bind (wpAny_storeSet_of S1.at_ S1.data ?_ (fits_of_scanBound few3))
  exact wpAny_pure (q _ (b1.trans (Heap.SameBut.update _ a _)) ⟨_,_,_,_,S1.store ⟨ls3,l3.trans l1,l4⟩ nd few3 p2 p3.2 p3.1⟩)
 ·rw [if_neg hc]
  exact wpAny_pure (q _ b1 ⟨_,_,_,_,S1⟩)
theorem tU {k:K} {x:Value} {Q:Bool->Shared->Prop} (hk:knd.is k x=true) (hsc:x.scannable=true) (S:di knd s.heap a ks) (room:ks.length+1 < scanBound)
  (q:∀ h',Heap.SameBut a s.heap h'->di knd h' a (if k ∈ ks then ks else ks ++ [k])->Q (!decide (k ∈ ks)) { s with heap:=h' }) :
  wpAny (model prog w) A (setAddHashed a x (knd.hash k)) Q E s:=by
 obtain⟨o,es,ep,t,S⟩:=S
 have few1:es.size+1 < scanBound:=by rw [S.len];exact room
 unfold setAddHashed setAddHashedIn
 refine wpAny_holding (wpAny_bind (wpAny_setState_of S.at_ S.data S.fits ?_))
 dsimp only
 rw [byScan_of hsc S.bK S.elems]
 simp only [↓reduceIte]
 unfold setAddByScan
 refine wpAny_bind (wpAny_bind (wpAny_rule ?_))
 refine wpAny_bind (wpAny_setScan_of hk S.at_ S.data S.fits S.elems ?_)
 cases hr:List.findIdx? (fun e=>knd.is k e.2) es.toList with
 | some j =>
  obtain⟨hj,hpj,_⟩:=List.findIdx?_eq_some_iff_getElem.mp hr
  have hin:k ∈ ks:=(S.mem k).mpr ⟨es.toList[j],List.getElem_mem hj,hpj⟩
  refine wpAny_pure (wpAny_pure ?_)
  have:=q s.heap (Heap.SameBut.refl a s.heap) (by rw [if_pos hin];exact⟨o,es,ep,t,S⟩)
  rw [decide_eq_true hin] at this
  exact this
 | none =>
  have hin:¬ k ∈ ks:=fun z=>by
   obtain⟨e,he,hp⟩:=(S.mem k).mp z
   have:=List.findIdx?_eq_none_iff.mp hr e he
   rw [hp] at this;exact Bool.noConfusion this
  rw [if_neg hin,decide_eq_false hin] at q
  have p1:=layNew_perm t es (knd.hash k) x
  have p2:=layNew_fits t es (knd.hash k) x
  have p3:=S.up.layNew es (knd.hash k) x
  dsimp only
  generalize layNew t es (knd.hash k) x=L at p1 p2 p3 ⊢
  obtain⟨es1,t1,wd,gv⟩:=L
  dsimp only at p1 p2 p3 ⊢
  rw [Array.toList_push] at p1
  have hE:∃ ls:List K,ls.Perm (ks ++ [k])/\Paired (Ent knd) es1.toList ls:=by
   obtain⟨ls,l1,l2⟩:=S.ents
   obtain⟨m,m1,m2⟩:=lN p1 (lO (F:=Ent knd) (x:=(knd.hash k,x)) (y:=k) ⟨hk,rfl,hsc⟩ l2)
   exact⟨m,m1.trans (l1.append_right _),m2⟩
  have nd1:(ks ++ [k]).Nodup:=by
   rw [List.nodup_append]
   exact⟨S.nd,by simp,fun y hy z hz e=>hin (by rw [List.mem_singleton] at hz;rw [<-hz,<-e];exact hy)⟩
  have few2:es1.size < scanBound:=by rw [<-Array.length_toList,p1.length_eq,List.length_append,Array.length_toList];simpa using few1
  have gw:∀ (b:Bool) (s₁ : Shared) (Q':Unit->Shared->Prop),Q' () s₁->wpAny (model prog w) A (match b with | true=>rule "set.scan.the-table-gave-way" | false=>pure ()) Q' E s₁:=fun b s₁ Q' hq=>by
   cases b
   ·exact wpAny_pure hq
   ·exact wpAny_rule hq
  refine wpAny_bind (gw _ _ _ ?_)
  by_cases hp:t1.plain=true
  ·rw [if_pos hp]
   refine wpAny_bind ?_
   rw [hashByValue_scannable 8 hsc]
   refine wpAny_pure ?_
   by_cases hv:plainKind x=true
   ·rw [if_pos hv]
    exact ml gw S hE nd1 few2 p2 p3.2 p3.1 fun h' b Sk=>wpAny_pure (q h' b Sk)
   ·rw [if_neg hv]
    exact ml gw S hE nd1 few2 (SetTable.fits_plain_off p2) p3.2 (fun z=>by cases z) fun h' b Sk=>wpAny_pure (q h' b Sk)
  ·rw [if_neg hp]
   refine wpAny_bind (wpAny_pure ?_)
   rw [if_pos rfl]
   exact ml gw S hE nd1 few2 p2 p3.2 p3.1 fun h' b Sk=>wpAny_pure (q h' b Sk)
theorem vj {led:Bool} (hl:led = !(w.params.followText "set-order")) (at_:h.get? a=some { cls:=.type "set",dict:=none,data:=.set #[] 0 (.fresh 0 0 led) }):di knd h a [] :=
 ⟨_,#[],0,_,at_,⟨rfl,rfl,rfl⟩,rfl,⟨[],.refl _,.nil⟩,List.nodup_nil,by decide,by rfl,hl,fun _=>Up.bK (Nat.zero_le _)⟩
end
theorem m9 {α : Type}:∀ (l:List α) (i:Nat) (h:i < l.length),(l[i] :: l.eraseIdx i).Perm l
 | x :: l,0,_=>.refl _
 | x :: l,i+1,h=>by
  have hi:i < l.length:=by simpa using h
  have ih:=m9 l i hi
  show (l[i] :: x :: l.eraseIdx i).Perm (x :: l)
  exact (List.Perm.swap x _ _).trans (ih.cons x)
section
variable {prog:Program} {w:World} {A:Around} {E:Value->Shared->Prop} {s:Shared}
end
section
variable {prog:Program} {w:World} {K:Type} [DecidableEq K] {knd:KeyKind prog w K}
variable {A:Around} {E:Value->Shared->Prop} {s:Shared} {a:Addr} {ks:List K} {o:Obj} {es:Array (Int × Value)} {ep:Nat} {t:SetTable}
end
section
variable {prog:Program} {w:World} {K:Type} [DecidableEq K] {knd:KeyKind prog w K}
variable {A:Around} {E:Value->Shared->Prop} {s:Shared} {a I:Addr} {ks:List K} {o:Obj} {es:Array (Int × Value)} {ep:Nat} {t:SetTable}
theorem zS {b x y:Addr} (h:b ∈ [x,y]):b=x\/b=y:=by simpa using h
end
open PySem.Calls PySem.W
section
variable {prog:Program} {w:World} {K:Type} [DecidableEq K] {knd:KeyKind prog w K}
variable {A:Around} {E:Value->Shared->Prop} {s:Shared} {a:Addr} {ks:List K} {o:Obj} {es:Array (Int × Value)} {ep:Nat} {t:SetTable}
end
end LS
namespace L2
open PySem PySem.Spec PyProof.Rows LS
section
variable {prog:Program} {w:World} {A:Around} {E:Value->Shared->Prop} {s:Shared} {a:Addr} {ks:List Key} {o:Obj} {es:Array (Int × Value)} {ep:Nat} {t:SetTable}
end
def bA (P:Program) (w:World) (a:Addr) (ks:List Key):HO:=.ext fun h=>di (aN P w) h a ks
theorem nX {P:Program} {w:World} {H:Hp} {h:Heap} {a:Addr} {ks:List Key} (S:di (aN P w) h a ks):bV P w H h a (bA P w a ks) :=
 ⟨S,let ⟨o,_,_,_,S⟩:=S;⟨o,S.at_⟩,fun h1 h2 S k=>S.keep k⟩
section
variable {X:Cx} {pins:List (Addr × Obj)} {σ : List (Option V)} {H:Hp} {s:Shared}
theorem Inv.tV {a:Addr} {ks:List Key} (I:Inv X pins σ H s) (h:H a=some (bA X.prog X.w a ks)):di (aN X.prog X.w) s.heap a ks:=(I.aP a _ h).1
end
end L2
namespace LS
open PySem PySem.Spec PyProof.Rows L2
section
variable {K:Type} [DecidableEq K]
def putIn (acc:List K) (k:K):List K:=if k ∈ acc then acc else acc ++ [k]
def ei (ms:List K):List K:=ms.foldl putIn []
theorem vk {acc:List K} {k x:K}:x ∈ putIn acc k ↔ x ∈ acc\/x=k:=by
 unfold putIn
 split
 ·rename_i h
  exact⟨.inl,fun z=>z.elim id (fun e=>e ▸ h)⟩
 ·simp
theorem vm (acc:List K) (k:K):(putIn acc k).length<=acc.length+1:=by unfold putIn;split <;> simp
theorem qu:∀ (ms acc:List K) (x:K),x ∈ ms.foldl putIn acc ↔ x ∈ acc\/x ∈ ms
 | [],acc,x=>by simp
 | k :: ms,acc,x=>by
  rw [List.foldl_cons,qu ms,vk]
  simp [or_assoc]
theorem vn {ms:List K} {x:K}:x ∈ ei ms ↔ x ∈ ms:=by unfold ei;rw [qu];simp
theorem qw:∀ (ms acc:List K),(ms.foldl putIn acc).length<=acc.length+ms.length
 | [],acc=>by simp
 | k :: ms,acc=>by
  rw [List.foldl_cons]
  have:=qw ms (putIn acc k)
  have:=vm acc k
  simp only [List.length_cons];omega
theorem sr:∀ (ms acc:List K),acc.Nodup->(ms.foldl putIn acc).Nodup
 | [],acc,h=>h
 | k :: ms,acc,h=>by
  rw [List.foldl_cons]
  refine sr ms _ ?_
  unfold putIn
  split
  ·exact h
  ·rename_i hn
   rw [List.nodup_append]
   exact⟨h,by simp,fun a ha b hb e=>hn (by rw [List.mem_singleton] at hb;rw [<-hb,<-e];exact ha)⟩
theorem wX (ms:List K):(ei ms).Nodup:=sr ms [] List.nodup_nil
end
section
variable {prog:Program} {w:World} {A:Around} {E:Value->Shared->Prop} {s:Shared}
theorem mn {k:Key} {v:Value} (h:(aN prog w).is k v=true):v.scannable=true:=by
 rcases cD (show iz k v=true from h) with ⟨j,t,_,rfl⟩ | ⟨x,t,_,rfl⟩ <;> rfl
theorem sx {a:Addr} {ks:List Key} {k:Key} {v:Value} {Q:Bool->Shared->Prop} (hk:(aN prog w).is k v=true) (S:di (aN prog w) s.heap a ks) (room:ks.length+1 < scanBound)
  (q:∀ h',Heap.SameBut a s.heap h'->di (aN prog w) h' a (putIn ks k)->∀ c:Bool,Q c { s with heap:=h',toks:=s.toks+1 }):wpAny (model prog w) A (setAdd a v) Q E s:=by
 unfold setAdd
 refine wpAny_holding ?_
 refine wpAny_bind ((aN prog w).pyHash hk ?_)
 exact tU (s:={ s with toks:=s.toks+1 }) hk (mn hk) S room fun h' b S'=>q h' b S' _
theorem wY {a:Addr} {ks:List Key} {k:Key} {v:Value} {Q:Value->Shared->Prop} (hk:(aN prog w).is k v=true) (S:di (aN prog w) s.heap a ks) (room:ks.length+1 < scanBound)
  (q:∀ h',Heap.SameBut a s.heap h'->di (aN prog w) h' a (putIn ks k)->Q .none { s with heap:=h',toks:=s.toks+1 }):wpAny (model prog w) A (call (.builtin "set.add") [.ref a,v]) Q E s:=by
 refine wpAny_call_entry PySem.F.slot_set_add S.setOf.typeIs PySem.F.entry_set_add ?_ (PySem.F.args_set_add_2 _ _)
 unfold Builtin.«set.add» Builtin.Frozenset.oneOther
 simp only [List.isEmpty_nil,bind_assoc]
 unfold Builtin.Frozenset.addrOf
 refine wpAny_bind (wpAny_pure ?_)
 refine wpAny_bind (wpAny_pure ?_)
 refine wpAny_bind (sx hk S room fun h' b S' _=>?_)
 exact wpAny_pure ⟨_,rfl,q h' b S'⟩
theorem vo {I L:Addr} {fp wr:List Addr} {G:Array GenState->Array GenState->Prop} {n:Nat} {P:Nat->Value->Prop} {St:Nat->Shared->Prop} {R:Result->Shared->Prop} (W:WalksS prog w A.in1 I fp wr G n P St) (hLf:L ∉ fp)
  (ms:List Key) (hl:ms.length=n) (hm:∀ i v,P i v->∃ k,ms[i]? = some k/\(aN prog w).is k v=true) (hb:n+1 < scanBound) :
  ∀ (k i:Nat) (s:Shared),n - i=k->i<=n->St i s->di (aN prog w) s.heap L (ei (ms.take i)) ->
   (∀ s',Moved (L :: wr) G s s'->di (aN prog w) s'.heap L (ei ms)->R (.ok (.ret .none)) s') ->
   codeAny (model prog w) A (.builtin "set.update.loop" ⟨[.ref L,.ref I],[]⟩) R s:=by
 have hLw:L ∉ wr:=fun h=>hLf (W.sub _ h)
 intro k
 induction k with
 | zero =>
  intro i s hk hi st S q
  have e:i=n:=by omega
  subst e
  refine codeAny_builtin PyProof.Rows.F.entry_set_update_loop ?_
  rw [Around.under_plainId PyProof.Rows.F.plain_set_update_loop _]
  show wpAny _ A.in1 (pyNext (.ref I) >>= _) _ _ s
  refine wpAny_bind (W.done s _ _ st fun s' mv=>?_)
  refine wpAny_pure (q s' (mv.mono fun b hb=>List.mem_cons_of_mem _ hb) ?_)
  rw [List.take_of_length_le (by omega)] at S
  exact S.keep fun o e=>mv.heap L _ hLw e
 | succ k ih =>
  intro i s hk hi st S q
  have hlt:i < n:=by omega
  refine codeAny_builtin PyProof.Rows.F.entry_set_update_loop ?_
  rw [Around.under_plainId PyProof.Rows.F.plain_set_update_loop _]
  show wpAny _ A.in1 (pyNext (.ref I) >>= _) _ _ s
  refine wpAny_bind (W.item i s _ _ hlt st fun v s' hP st' mv=>?_)
  obtain⟨key,hkey,his⟩:=hm i v hP
  have S':di (aN prog w) s'.heap L (ei (ms.take i)):=S.keep fun o e=>mv.heap L _ hLw e
  refine wpAny_bind (wpAny_holding (sx his S' ?_ fun h' sb S2 _=>?_))
  ·have h1:=qw (ms.take i) []
   have h2:(ms.take i).length<=i:=by rw [List.length_take];omega
   have h3:(ei (ms.take i)).length<=0+(ms.take i).length:=h1
   omega
  ·have e1:putIn (ei (ms.take i)) key=ei (ms.take (i+1)):=by
    unfold ei
    rw [List.take_add_one,hkey,List.foldl_append];rfl
   rw [e1] at S2
   refine wpAny_pure ⟨plainId_quiet PyProof.Rows.F.plain_set_update_loop _,ih (i+1) _ (by omega) hlt (W.frame _ s' _ _ st' (Nat.le_succ _) fun b hb o e=>?_) S2 fun s'' mv2 S3=>?_⟩
   ·rw [sb.2 b (fun h:b=L=>hLf (by rw [<-h];exact hb))];exact e
   ·refine q s'' (Moved.trans W.gtrans ((mv.mono fun b hb=>List.mem_cons_of_mem _ hb).then_heap (Nat.le_succ _) fun b o hb e=>?_) mv2) S3
    rw [sb.2 b (fun h:b=L=>hb (by rw [h];exact List.mem_cons_self))];exact e
end
theorem jW {α β : Type} {F:α->β->Prop}:∀ {l:List α} {m:List β},Paired F l m->∀ {i:Nat} {x:α},l[i]? = some x->∃ y,m[i]? = some y/\F x y
 | _,_,.nil,i,x,e=>by simp at e
 | _,_,.cons r _,0,x,e=>by simp at e;subst e;exact⟨_,rfl,r⟩
 | _,_,.cons _ t,i+1,x,e=>by simpa using jW t (i:=i) (x:=x) (by simpa using e)
def eG (w:World):Obj:={ cls:=.type "set",dict:=none,data:=.set #[] 0 (.fresh 0 0 (!(w.params.followText "set-order"))) }
section
variable {prog:Program} {w:World} {A:Around} {E:Value->Shared->Prop} {s:Shared}
theorem vp (rest:List Value) (hc:checkBuiltinCall "set.__new__" ⟨.type "set" :: rest,[]⟩=pure ()) {Q:Value->Shared->Prop} (q:Q (.ref s.heap.objs.size) { s with heap:=s.heap.push (eG w) }) :
  codeAny (model prog w) A (.call (.builtin "set.__new__") ⟨.type "set" :: rest,[]⟩) (wants Q E) s:=by
 refine codeAny_of_tree ?_
 show wpAny _ A.in1 (checkBuiltinCall "set.__new__" ⟨.type "set" :: rest,[]⟩ >>= fun _=>again (.builtin "set.__new__" ⟨.type "set" :: rest,[]⟩)) _ _ s
 refine wpAny_bind (wpAny_of_eq hc (wpAny_pure ⟨plainId_quiet PySem.F.plain_set_new _,codeAny_builtin PySem.F.entry_set_new ?_⟩))
 rw [Around.under_plainId PySem.F.plain_set_new _]
 unfold Builtin.«set.__new__» Builtin.Frozenset.newClass
 have hsub:=sub_set_self
 obtain⟨hp,g,d,tk,os⟩:=s
 dsimp only
 wp_walk
 refine wpAny_askSetting (wpAny_pure ?_)
 dsimp only
 simp only [newObj]
 refine wpAny_bind (wpAny_alloc (wpAny_pure ?_))
 exact wpAny_pure q
theorem wZ {rest:List Value} {Q:Value->Shared->Prop} (hct:checkTypeCall "set" ⟨rest,[]⟩=pure ()) (hcn:checkBuiltinCall "set.__new__" ⟨.type "set" :: rest,[]⟩=pure ())
  (hci:∀ (M:Model) (A:Around) (E:Value->Shared->Prop) (s':Shared) (Q':Unit->Shared->Prop),s'.TypeIs (.ref s.heap.objs.size) "set" -> Q' () s'->wpAny M A (checkBuiltinCall "set.__init__" ⟨.ref s.heap.objs.size :: rest,[]⟩) Q' E s')
  (init:∀ (R:Result->Shared->Prop),(∀ h' tk,(∀ b o,s.heap.get? b=some o->h'.get? b=some o)->Q (.ref s.heap.objs.size) { s with heap:=h',toks:=tk }->R (.ok (.ret .none)) { s with heap:=h',toks:=tk }) ->
   wpAny (model prog w) A.in1.in1 (Builtin.«set.__init__» ⟨.ref s.heap.objs.size :: rest,[]⟩) (fun fin s'=>match fin with | .done f=>R (.ok f) s' | .again c'=>c'.quiet=true/\codeAny (model prog w) A.in1 c' R s') (fun e s'=>R (.error e) s')
    { s with heap:=s.heap.push (eG w) }) :
  wpAny (model prog w) A (call (.type "set") rest) Q E s:=by
 obtain⟨c,tl,hmro⟩:=PySem.F.called_set.mro
 have hmade:=PySem.F.called_set.made
 have hsub:=PySem.F.called_set.sub
 refine wpAny_call (codeAny_of_tree ?_)
 show wpAny _ _ (callAny (.type "set") _) _ _ _
 refine wpAny_pure ⟨Code.quiet_builtin _ (by decide +kernel),codeAny_builtin PySem.F.entry_type_call ?_⟩
 rw [Around.under_plain (weight_type_call_type "set" rest []) rfl]
 have h1:=PySem.F.called_set.notType
 have h2:=PySem.F.called_set.canCreate
 repeat (any_goals (first | assumption | wp_step))
 refine codeAny_mono (vp (w:=w) rest hcn (E:=E) (Q:=fun obj s₁=>obj=.ref s.heap.objs.size/\s₁ = { s with heap:=s.heap.push (eG w) }) ⟨rfl,rfl⟩) fun r s₁ hr=>?_
 cases r with
 | error e=>exact hr
 | ok fl =>
  cases fl with
  | ret obj =>
   obtain⟨rfl,rfl⟩:=hr
   have hS:(s.heap.push (eG w)).get? s.heap.objs.size=some (eG w):=Heap.get?_push_size _ rfl
   have hT:Shared.TypeIs { s with heap:=s.heap.push (eG w) } (.ref s.heap.objs.size) "set" := ⟨_,hS,rfl⟩
   have hli:=PySem.F.called_set.init.lookup
   have hbi:=PySem.F.called_set.init.bind (.ref s.heap.objs.size)
   repeat (any_goals (first | assumption | wp_step))
   refine codeAny_mono (codeAny_call_builtin (R:=wants (fun r s₂=>r=.none/\Q (.ref s.heap.objs.size) s₂) E) PySem.F.called_set.init.plain PySem.F.entry_set_init (hci _ _ _ _ _ hT (init _ fun h' tk _ q=>⟨rfl,q⟩))) fun r₂ s₂ hr₂=>?_
   cases r₂ with
   | error e=>exact hr₂
   | ok fl₂ =>
    cases fl₂ with
    | ret r =>
     obtain⟨rfl,hq⟩:=hr₂
     repeat (any_goals (first | assumption | wp_step))
    | _=>exact hr₂.elim
  | _=>exact hr.elim
theorem set_list {l:Addr} {items:Array Value} {ms:List Key} {Q:Value->Shared->Prop} (hh:A.handled=none) (hl:s.heap.IsList l items) (hm:Paired (fun v k=>(aN prog w).is k v=true) items.toList ms) (hb:items.size+1 < scanBound)
  (q:∀ h' tk,di (aN prog w) h' s.heap.objs.size (ei ms)->(∀ b o,s.heap.get? b=some o->h'.get? b=some o)->Q (.ref s.heap.objs.size) { s with heap:=h',toks:=tk }):wpAny (model prog w) A (call (.type "set") [.ref l]) Q E s:=by
 refine wZ (PySem.F.typeCall_set_1 _) (PySem.F.newCall_set_1 _) (fun M A E s' Q' hT q'=>check_set_init_1 hT q') fun R fin=>?_
 have hS:(s.heap.push (eG w)).get? s.heap.objs.size=some (eG w):=Heap.get?_push_size _ rfl
 have hT:Shared.TypeIs { s with heap:=s.heap.push (eG w) } (.ref s.heap.objs.size) "set" := ⟨_,hS,rfl⟩
 have hz:(s.heap.push (eG w)).objs.size=s.heap.objs.size+1:=Heap.size_push _ _
 obtain⟨ol,hol,hcl,nl,hdl⟩:=id hl
 obtain⟨ocls,odict,odata,oslots⟩:=ol
 simp only at hcl hdl
 subst hcl
 subst hdl
 have hol':(s.heap.push (eG w)).get? l=some { cls:=.type "list",dict:=odict,data:=.seq items nl,slots:=oslots }:=Heap.get?_push_of_some _ hol
 have hsls:=PySem.F.sub_list_set
 have hslf:=PySem.F.sub_list_frozenset
 have hne:(Value.type "list" == Value.type "dict")=false:=by decide
 have hl1:(s.heap.push (eG w)).IsList l items:=⟨_,hol',rfl,nl,rfl⟩
 have hlS:l < s.heap.objs.size:=Heap.lt_size hol
 unfold eG at hS hT hz hol' hl1 ⊢
 unfold Builtin.«set.__init__» noKeywords Builtin.Frozenset.updateFrom
 generalize hPI:pyIter=PI
 wp_walk
 subst hPI
 refine wpAny_pyIter_list hl1 ?_
 refine wpAny_bind (wpAny_runValue ?_)
 have hh3:A.in1.in1.in1.handled=none:=by simp [hh]
 refine vo (L:=s.heap.objs.size) ((Walks.list hh3 _ l ?_ items).toS) ?_ ms ?_ (fun i v hv=>?_) hb (items.size - 0) 0 _ (by omega) (Nat.zero_le _) ⟨⟨_,Heap.get?_push_size _ rfl,rfl,rfl⟩,(hl1.push _)⟩ ?_ fun s' mv S'=>?_
 ·rw [hz];exact Nat.ne_of_lt (Nat.lt_succ_of_lt hlS)
 ·rw [hz]
  intro hmem
  rcases zS hmem with e | e
  ·exact absurd e (Nat.ne_of_lt (Nat.lt_succ_self _))
  ·exact absurd e (Nat.ne_of_gt hlS)
 ·rw [<-hm.length,Array.length_toList]
 ·have hv':items.toList[i]? = some v:=by rw [Array.getElem?_toList];exact hv
  exact jW hm hv'
 ·exact vj rfl (Heap.get?_push_of_some _ hS)
 ·obtain⟨h',g',d',tk',os'⟩:=s'
  have eg:g' = s.gens:=mv.gens
  have ed:d' = s.drawn:=mv.drawn
  have eo:os' = s.os:=mv.os
  subst eg;subst ed;subst eo
  have kp:∀ b o,s.heap.get? b=some o->h'.get? b=some o:=fun b o e=>mv.heap b o (fun hm=>by
   rcases zS hm with e' | e'
   ·exact absurd e' (Nat.ne_of_lt (Heap.lt_size e))
   ·rw [hz] at e';exact absurd e' (Nat.ne_of_lt (Nat.lt_succ_of_lt (Heap.lt_size e)))) (Heap.get?_push_of_some _ (Heap.get?_push_of_some _ e))
  show wpAny _ _ _ _ _ _
  refine wpAny_pure ?_
  exact wpAny_pure (fin h' tk' kp (q h' tk' S' kp))
end
end LS
namespace L2
open PySem PySem.Spec PyProof.Rows LS
theorem zT:bootBuiltins "set" = some (.type "set"):=by decide +kernel
theorem yA {K:Type} [DecidableEq K] {k:K} {ks:List K}:decide (k ∈ ks)=true ↔ k ∈ ks:=decide_eq_true_iff
theorem lq {P:Program} {w:World} {k:Key} {v:Value} (r:RelV (kV k) v):(aN P w).is k v=true:=by
 cases k with
 | inl i=>obtain⟨t,rfl⟩:=r;exact lF P w i t
 | inr x=>obtain⟨t,rfl⟩:=r;exact lG P w x t
theorem lP {P:Program} {w:World}:∀ {ks:List Key} {us:List Value},Vals (ks.map kV) us->Paired (fun v k=>(aN P w).is k v=true) us ks
 | [],_,.nil=>.nil
 | k :: ks,_,.cons r t=>.cons (lq r) (lP t)
section
variable {X:Cx}
theorem Inv.BP {pins:List (Addr × Obj)} {σ : List (Option V)} {H:Hp} {s:Shared} {n:Nat} (I:Inv X pins σ H s):Inv X pins σ H { s with toks:=n }:=⟨I.ok,I.os,I.bare,I.base,I.loc,I.cell,I.free,I.eh,I.pin,I.aP,I.len⟩
theorem vq (hc:X.calm=true):fZ X (.type "set") (fun vs H Q=>∃ (p:Addr) (ks:List Key),vs = [.ref p]/\aM X.K H p (ks.map kV)/\ks.length+1 < scanBound/\∀ l,H l=none->Q (.ref l) (upd H l (bA X.prog X.w l (ei ks)))):=by
 intro pins s σ H xs us Q I r h
 obtain⟨p,ks,rfl,hp,hz,q⟩:=h
 obtain⟨u,rfl,ru⟩:=vals1 r
 cases (show u=Value.ref p from ru)
 obtain⟨its,hv,pl,_⟩:=I.list hp
 have hm:=lP (P:=X.prog) (w:=X.w) hv
 refine LS.set_list (I.ok.hd hc) pl.isList (by simpa using hm) (by have:=hm.length;simp at this ⊢;omega) fun h' tk S kp=>?_
 exact⟨.ref s.heap.objs.size,_,I.laid (t':=tk) kp (Nat.le_refl _) (nX S),rfl,q _ I.fresh⟩
def Bw (P:Program) (w:World) (neg:Bool):R2:=fun x y H Q=>∃ a ks k,y=.ref a/\H a=some (bA P w a ks)/\x=kV k/\∀ b:Bool,(b=true ↔ k ∈ ks)->Q (.bl (if neg then !b else b)) H
theorem vt:fo X (compareOp .NotIn) (Bw X.prog X.w true):=by
 intro pins s σ H x y v u Q I rx ry h
 obtain⟨a,ks,k,rfl,ha,rfl,q⟩:=h
 cases ry
 have hk:(aN X.prog X.w).is k v=true:=lq rx
 have S:=(I.tV ha).setOf
 exact wpAny_notInSet_of hk (mn hk) S ⟨.bl _,H,I.BP,rfl,q _ yA⟩
def Bx (P:Program) (w:World) (r:V->List V->Hp->VK->Prop) (to:TE) (t:TA):TE:=fun σ H Q=>to σ H fun x H1=>(∃ a ks,x=.ref a/\H1 a=some (bA P w a ks))/\t σ H1 fun xs H2=>r x xs H2 Q
variable {o e:Expr} {es:List Expr} {to:TE} {t:TA} {name:Str} {apos cpos:Pos} {id:String} {r:V->List V->Hp->VK->Prop}
theorem qx (slot:Slot "set" name id) (hty:typeOf (.builtin id)=pure (.type "method_descriptor")) (hm:pO X id r) (ho:PE X o to) (ha:PA X (e :: es) t)
  (hbase:attributeBase o name X.env (eval o X.env)=eval o X.env:=by rfl)
  (hfew:((backTo cpos (starEach (e :: es) X.env)).all (fun x=>!x.1) && (backToKw cpos (keywordEach [] X.env)).all (fun x=>x.1.isSome)
   && decide ((e :: es).length+([]:List Keyword).length+(if ([]:List Keyword).isEmpty then 0 else 1) < 30))=true:=by rfl)
  (hline:(apos.endLine == cpos.line)=true:=by rfl) (hs:starEach (e :: es) X.env=(false,eval e X.env) :: starEach es X.env:=by rfl) (hplain:(backTo cpos (starEach es X.env)).any (·.1)=false:=by rfl) :
  PE X (.Call (.Attribute o name apos) (e :: es) [] cpos) (Bx X.prog X.w r to t):=by
 intro pins s σ H Q I h
 refine wpAny_Call_method_late hbase hfew hline rfl (aU (ho pins s σ H _ I h) fun v s1 ⟨x,H1,I1,r1,ty,q1⟩=>?_)
 obtain⟨a,ks,rfl,hset⟩:=ty
 cases (show v=Value.ref a from r1)
 have S:=(I1.tV hset).setOf
 refine⟨"set",id,PySem.F.plainAttrs_set,slot,hty,S.typeIs,S.noDict,?_⟩
 have hA:=ha cpos pins s1 σ H1 _ I1 q1
 rw [hs] at hA ⊢
 refine Calls.callWith_builtin (by show (false || (backTo cpos (starEach es X.env)).any (·.1))=false;rw [hplain] <;> rfl) (Calls.evalArgs_plain ?_)
 exact aU hA fun us s2 ⟨vs,H2,I2,r2,q2⟩=>hm pins s2 σ H2 (.ref a) vs (.ref a) us Q I2 rfl r2 q2
def Az (P:Program) (w:World):V->List V->Hp->VK->Prop:=fun x vs H Q=>∃ a ks k,x=.ref a/\vs = [kV k]/\H a=some (bA P w a ks)/\ks.length+1 < scanBound/\Q .bx (upd H a (bA P w a (putIn ks k)))
theorem sy:pO X "set.add" (Az X.prog X.w):=by
 intro pins s σ H x xs v us Q I rx r h
 obtain⟨a,ks,k,rfl,rfl,ha,hz,q⟩:=h
 cases (show v=Value.ref a from rx)
 obtain⟨u,rfl,ru⟩:=vals1 r
 refine wY (lq ru) (I.tV ha) hz fun h' b S'=>?_
 refine⟨.bx,_,I.write (t':=s.toks+1) (x:=a) (e:=a) (by rw [ha];exact trivial) (.inl rfl) (fun c u' hc hu=>b.extBut c u' hc hu) ?_ (nX S'),rfl,q⟩
 obtain⟨o,_,_,_,So⟩:=S'
 exact⟨o,So.at_⟩
end
def cz:End->List Str
 | .dD _ x _ _ _=>[x]
 | _=>[]
def wD:aW->Str
 | .put .. => "put"
 | .copy .. => "copy"
 | .add .. => "add"
 | .read .. => "read"
 | .tell .. => "tell"
end L2
namespace PySem
section
variable {prog:Program} {w:World} {A:Around} {E:Value->Shared->Prop} {s:Shared}
end
end PySem
namespace PySem
section
variable {prog:Program} {w:World} {K:Type} [DecidableEq K] {knd:KeyKind prog w K} {A:Around} {s:Shared}
end
end PySem
namespace L2
open PySem PySem.Spec PyProof.Rows
section
variable {X:Cx}
end
section
variable {X:Cx}
end
section
variable {C D:Addr} {H0 H H1:Hp} {w0 w1:WA} {plv:V} {x0 x1 x':zL}
end
open LS
section
variable {X:Cx}
end
section
variable {a0 a1 z:V}
end
abbrev vN (ms:List Nat):List V:=ms.map fun k=>V.int (k:Nat)
section
variable {C r m d:Addr} {H H':Hp} {ms:List Nat}
end
section
variable (C:Addr)
end
theorem qy {H:Hp} {t:Addr} {e:End} (h:H t=some (.tup (i5 e))):aY H (.ref t) (gX e):=by
 cases e with
 | stop=>exact .tup h (.cons (.str _) .nil)
 | go p=>exact .tup h (.cons (.str _) (.cons (.int _) .nil))
 | dD b x n p q=>exact .tup h (.cons (.str _) (.cons (.str _) (.cons (.int _) (.cons (.int _) (.cons (.int _) .nil)))))
theorem dP:∀ ds:List PyData,(∀ d ∈ ds,d.canLay0=true)->(PyData.tuple ds).canLay0=true
 | [],_=>rfl
 | d :: ds,h=>by
  have ih:=dP ds fun x hx=>h x (List.mem_cons_of_mem _ hx)
  show (d.canLay0 && (PyData.tuple ds).canLay0)=true
  rw [h d (List.mem_cons_self ..),ih]
  rfl
theorem sA {m:Nat}:∀ ds:List PyData,(∀ d ∈ ds,d.depth<=m)->PyData.depthAll ds<=m
 | [],_=>Nat.zero_le _
 | d :: ds,h=>by
  have ih:=sA ds fun x hx=>h x (List.mem_cons_of_mem _ hx)
  have h1:=h d (List.mem_cons_self ..)
  show max d.depth (PyData.depthAll ds)<=m
  omega
theorem w6 (d:aW):(bH d).depth<=1:=by cases d <;> exact Nat.le_refl 1
theorem yB (e:End):(gX e).depth<=1:=by cases e <;> exact Nat.le_refl 1
theorem fA {x:Str} (h:ik x):PyData.canLay0 (.str x)=true:=by
 show (x.cps.all fun c=>decide (c < 0x110000))=true
 rw [<-Array.all_toList,List.all_eq_true]
 intro c hc
 have:=h.az c hc
 exact decide_eq_true (by omega)
theorem qA {xs:List Str} (hx:∀ x ∈ xs,ik x) {d:aW} (h:iZ xs d):(bH d).canLay0=true:=by
 cases d with
 | put x n =>
  refine dP _ fun y hy=>?_
  rcases List.mem_cons.mp hy with rfl | hy
  ·decide +kernel
  rcases List.mem_cons.mp hy with rfl | hy
  ·exact fA (hx _ h.1)
  rw [List.mem_singleton.mp hy];rfl
 | copy x z =>
  refine dP _ fun y hy=>?_
  rcases List.mem_cons.mp hy with rfl | hy
  ·decide +kernel
  rcases List.mem_cons.mp hy with rfl | hy
  ·exact fA (hx _ h.1)
  rw [List.mem_singleton.mp hy];exact fA (hx _ h.2)
 | add x n =>
  refine dP _ fun y hy=>?_
  rcases List.mem_cons.mp hy with rfl | hy
  ·decide +kernel
  rcases List.mem_cons.mp hy with rfl | hy
  ·exact fA (hx _ h.1)
  rw [List.mem_singleton.mp hy];rfl
 | read x =>
  refine dP _ fun y hy=>?_
  rcases List.mem_cons.mp hy with rfl | hy
  ·decide +kernel
  rw [List.mem_singleton.mp hy];exact fA (hx _ h)
 | tell x =>
  refine dP _ fun y hy=>?_
  rcases List.mem_cons.mp hy with rfl | hy
  ·decide +kernel
  rw [List.mem_singleton.mp hy];exact fA (hx _ h)
theorem yC {xs:List Str} (hx:∀ x ∈ xs,ik x) {c:Nat} {e:End} (h:o4 xs c e):(gX e).canLay0=true:=by
 cases e with
 | stop =>
  refine dP _ fun y hy=>?_
  rw [List.mem_singleton.mp hy];decide +kernel
 | go p =>
  refine dP _ fun y hy=>?_
  rcases List.mem_cons.mp hy with rfl | hy
  ·decide +kernel
  rw [List.mem_singleton.mp hy];rfl
 | dD b x n p q =>
  refine dP _ fun y hy=>?_
  rcases List.mem_cons.mp hy with rfl | hy
  ·cases b <;> decide +kernel
  rcases List.mem_cons.mp hy with rfl | hy
  ·exact fA (hx _ h.1)
  rcases List.mem_cons.mp hy with rfl | hy
  ·rfl
  rcases List.mem_cons.mp hy with rfl | hy
  ·rfl
  rw [List.mem_singleton.mp hy];rfl
def By (ps:List Piece):Prop:=∀ p ∈ ps,(PyData.tuple (p.1.map bH)).canLay0=true/\(gX p.2).canLay0=true
theorem w9 {xs:List Str} (hx:∀ x ∈ xs,ik x) {m:Nat} {ps:List Piece} (ok:i3 xs m ps):By ps:=fun p hp =>
 ⟨dP _ fun d hd=>by obtain⟨x,hx',rfl⟩:=List.mem_map.mp hd;exact qA hx ((ok.hX p hp).2 x hx'),yC hx (ok.ends p hp)⟩
structure NF (X:Cx) (a:Addr):Prop where
 none_:∀ o,X.dg.heap.get? a=some o->X.jP a=none->a ∉ X.ex->False
 tup:∀ xs,X.jP a ≠ some (.tup xs)
 eW:∀ o u,X.jP a ≠ some (.eW o u)
 kd:∀ ps,X.jP a ≠ some (.kd ps)
section
variable {X:Cx} {pins:List (Addr × Obj)} {σ : L2.St} {H:Hp} {s:Shared} {a:Addr}
theorem Inv.nf {kvs:List (Key × V)} (I:Inv X pins σ H s) (e:H a=some (.dK kvs)):NF X a where
 none_:=fun o h1 h2 h3=>by
  have:=I.base.free a o h1 h2 h3
  rw [e] at this
  cases this
 tup:=fun xs h=>by
  have:=I.base.df a xs h
  rw [e] at this
  cases this
 eW:=fun o u h=>by
  have:=I.base.iu a o u h
  rw [e] at this
  cases this
 kd:=fun ps h=>by
  obtain⟨more,this⟩:=I.base.iM a ps h
  rw [e] at this
  cases this
theorem Inv.swap {u u':HO} (I:Inv X pins σ H s) (nf:NF X a) (e:H a=some u) (no:∀ y,u ≠ .own y) (nt:∀ xs,u ≠ .tup xs) (new:bV X.prog X.w (upd H a u') s.heap a u'):Inv X pins σ (upd H a u') s where
 ok:=I.ok
 os:=I.os
 bare:=I.bare
 base:={
  keep:=I.base.keep
  slot:=I.base.slot
  free:=fun b o h1 h2 h3=>by
   by_cases z:b=a
   ·subst z;exact absurd (nf.none_ o h1 h2 h3) id
   ·rw [af z];exact I.base.free b o h1 h2 h3
  there:=I.base.there
  df:=fun b xs h=>by
   have z:b ≠ a:=fun z=>by subst z;exact nf.tup xs h
   rw [af z];exact I.base.df b xs h
  iu:=fun b o v h=>by
   have z:b ≠ a:=fun z=>by subst z;exact nf.eW o v h
   rw [af z];exact I.base.iu b o v h
  iM:=fun b ps h=>by
   have z:b ≠ a:=fun z=>by subst z;exact nf.kd ps h
   rw [af z];exact I.base.iM b ps h }
 loc:=I.loc
 cell:=I.cell
 free:=by rw [af (fun z=>by have:=I.free;rw [z,e] at this;cases this)];exact I.free
 eh:=fun x c h=>by rw [af (fun z=>by have:=I.eh x c h;rw [z,e] at this;cases this)];exact I.eh x c h
 pin:=fun p hp=>by
  obtain⟨h1,h2,h3⟩:=I.pin p hp
  exact⟨h1,by rw [af (fun z=>by rw [z,e] at h2;cases h2)];exact h2,h3⟩
 aP:=fun b o h=>by
  by_cases z:b=a
  ·subst z
   rw [aa] at h
   cases h
   exact new
  ·rw [af z] at h
   refine (I.aP b o h).lV (fun _ _ _ q=>q) (fun c q=>?_) fun c xs q=>?_
   ·rw [af (fun y=>by rw [y,e] at q;exact no _ (Option.some.inj q))];exact q
   ·rw [af (fun y=>by rw [y,e] at q;exact nt _ (Option.some.inj q))];exact q
 len:=I.len
end
theorem yD {P:Program} {w:World} {k:Key} {v:Value} (h:(aN P w).is k v=true):RelV (kV k) v:=by
 cases k with
 | inr x=>exact lM h
 | inl i =>
  obtain⟨t,e⟩:=Value.isInt_shape (show Value.isInt i v=true from h)
  exact⟨t,e⟩
def AQ (a:Addr) (kvs:List (Key × V)) (ob:Obj):It :=
 ⟨fun i H=>H a=some (.eW ob (.dK kvs))/\i < kvs.length,fun i H x H'=>H' = H/\∃ k v,kvs[i]? = some (k,v)/\x=kV k,fun i H=>H a=some (.eW ob (.dK kvs))/\kvs.length<=i⟩
theorem vw {P:Program} {w:World} {K:PySem.W.Frag} {tg:Expr} {kvs:List (Key × V)} {vs:List (Key × Value)} {ob:Obj} {ep:Nat} (a it:Addr) (hat:∀ h:Heap,h.get? a=some ob->h.DictAt (aN P w) a vs ep) (rel:KV kvs vs) :
  Turn P w K tg (AQ a kvs ob) [it] it (fun i h=>h.IsKeyIter it a i vs.length ep) where
 mem:=by simp
 obj:=fun i h st b hb=>by
  have e:b=it:=by simpa using hb
  subst e
  obtain⟨o,e,c,d⟩:=st
  exact⟨o,e,fun v z=>by rw [d] at z;cases z⟩
 keep:=fun i h h' st k=>st.at fun o e=>k it (by simp) o e
 item:=by
  intro X hP hw hK hc i pins s σ H E I hf st hg
  subst hP hw hK
  obtain⟨ha,hi⟩:=hg
  obtain⟨e0,_⟩:=(show bV X.prog X.w H s.heap a (.eW ob (.dK kvs)) from I.aP a _ ha)
  have hvi:i < vs.length:=by rw [<-rel.length];exact hi
  have hx:vs[i]? = some vs[i]:=by simp [hvi]
  generalize vs[i] = p at hx
  obtain⟨k,u⟩:=p
  obtain⟨v,hkv⟩:∃ v,kvs[i]? = some (k,v):=by
   have e1:(vs.map (·.1))[i]? = some k:=by rw [List.getElem?_map,hx];rfl
   rw [<-rel.keys,List.getElem?_map] at e1
   cases e2:kvs[i]? with
   | none=>rw [e2] at e1;cases e1
   | some q =>
    rw [e2] at e1
    obtain⟨k',v⟩:=q
    cases (Option.some.inj e1)
    exact⟨v,rfl⟩
  obtain⟨f0,f1,f2,f3,f4,f5⟩:=hf it (by simp)
  refine wpAny_pyNext_dict_item st (hat _ e0) hx fun key h' hkey st' sb=>?_
  have I1:Inv X pins σ H { s with heap:=h' }:=I.turned (t':=s.toks) (fun b o hb e=>(sb.2 b hb).trans e) f0 f1 f3 f4 f5
  obtain⟨o,e,c,d⟩:=id st'
  exact⟨key,rfl,mL (s:={ s with heap:=h' }) e c d (by decide) ⟨kV k,H,I1,yD hkey,⟨rfl,k,v,hkv,rfl⟩,st',fun b hb=>(hf b hb).1⟩⟩
 done:=by
  intro X hP hw hK hc i pins s σ H E I hf st hg
  subst hP hw hK
  obtain⟨ha,hi⟩:=hg
  obtain⟨e0,_⟩:=(show bV X.prog X.w H s.heap a (.eW ob (.dK kvs)) from I.aP a _ ha)
  obtain⟨f0,f1,f2,f3,f4,f5⟩:=hf it (by simp)
  exact wpAny_pyNext_dict_end (I.ok.hd hc) st (hat _ e0) (List.getElem?_eq_none (by rw [<-rel.length];exact hi)) fun h' eb=>⟨rfl,I.turned (t':=s.toks) (fun b o hb e=>eb b o hb e) f0 f1 f3 f4 f5⟩
 self:=fun _ _ _ _ _ st h=>wpAny_pyIter_keyiter st h
section
variable {X:Cx}
def AA (i:Nat) (X:Cx):TI:=fun σ H R=>∃ v,σ[i]? = some (some v)/\∃ a kvs,v=.ref a/\H a=some (.dK kvs)/\∀ ob,NF X a->R (AQ a kvs ob) (upd H a (.eW ob (.dK kvs)))
theorem yE {tg l:Expr} {i:Nat} (hl:PE X l (sP i)):PI X tg l (AA i X):=by
 intro pins s σ H R I h
 obtain⟨v0,hv0,a,kvs,rfl,ha,q⟩:=h
 refine aU (hl pins s σ H (fun x H1=>x=.ref a/\H1=H) I ⟨_,hv0,rfl,rfl⟩) fun v s1 ⟨x,H1,I1,r1,e1,e2⟩=>?_
 subst e1 e2
 cases r1
 have nf:=I1.nf ha
 obtain⟨z,hd,vs,rel,dd⟩:=o5 I1.aP ha
 obtain⟨ep,ob,es,ho,rest⟩:=dd.dictAt
 have I2:Inv X pins σ (upd H1 a (.eW ob (.dK kvs))) s1:=I1.swap nf ha (fun _ h=>nomatch h) (fun _ h=>nomatch h) ⟨ho,jE z hd rel ⟨ob,es,ep,ho,rest⟩⟩
 refine wpAny_pyIter_dict hd ⟨ob,es,ho,rest⟩ ?_
 refine⟨s1.heap.objs.size,[s1.heap.objs.size],_,_,_,rfl,I2.kept (t':=s1.toks) fun b o e=>Heap.get?_push_of_some _ e,vw a _ (fun h e=>⟨ob,es,e,rest⟩) rel,⟨_,Heap.get?_push_size _ rfl,rfl,rfl⟩,fun b hb=>?_,q ob nf⟩
 have e:b=s1.heap.objs.size:=by simpa using hb
 subst e
 exact I2.iQ (Nat.le_refl _) (I2.aP.fresh (Nat.le_refl _))
theorem Bz {pins:List (Addr × Obj)} {σ : L2.St} {H:Hp} {s:Shared} {a:Addr} {ob:Obj} {kvs:List (Key × V)} (I:Inv X pins σ H s) (nf:NF X a) (e:H a=some (.eW ob (.dK kvs))):Inv X pins σ (upd H a (.dK kvs)) s:=by
 obtain⟨z,hd,vs,rel,dd⟩:=ll I.aP (.inr ⟨ob,e⟩)
 exact I.swap nf e (fun _ h=>nomatch h) (fun _ h=>nomatch h) (jE z hd rel dd)
end
abbrev E2 (elt t1 i1:Expr) (f1:List Expr) (t2 i2:Expr) (f2:List Expr) (scope:Scope) (pos:Pos):Expr:=.ListComp elt [⟨t1,i1,f1,0⟩,⟨t2,i2,f2,0⟩] scope pos
def qB (e i2:Expr) (acc:Value) (env:Env):Sem Unit:=do
 let x <-eval i2 env
 standAt i2.pos
 let x <-foldedSetIterable i2 env x
 let _ <-runOwn (.compStart e 1 (<-holding [x] (pyIter x)) acc env) env
def AR (elt:Expr) (acc:Value) (env:Env):Sem Unit:=do let _ <-call (.builtin "list.append") [acc,<-eval elt env]
def nc (e:Expr) (d:Nat) (ip:Pos) (target:Expr) (ifs:List Expr) (em:Sem Unit) (it acc:Value) (env:Env):Sem Fin:=do
 standAt ip
 match <-pyNext it with
 | none=>pure (.done .next)
 | some v =>
  letOwnedTupleGo target it v
  assign target env v
  let mut ok:=true
  for c in ifs do
   if ok then ok <-isTrue c env (eval c env)
  if ok then
   em
  again (.compLoop e d it acc env)
theorem oR (elt t1 i1:Expr) (f1:List Expr) (t2 i2:Expr) (f2:List Expr) (scope:Scope) (pos:Pos) (it acc:Value) (env:Env) :
  compTurn (E2 elt t1 i1 f1 t2 i2 f2 scope pos) 0 it acc env=nc (E2 elt t1 i1 f1 t2 i2 f2 scope pos) 0 i1.pos t1 f1 (qB (E2 elt t1 i1 f1 t2 i2 f2 scope pos) i2 acc env) it acc env:=by
 unfold nc qB
 simp only [bind_assoc,pure_bind]
 rfl
theorem oT (elt t1 i1:Expr) (f1:List Expr) (t2 i2:Expr) (f2:List Expr) (scope:Scope) (pos:Pos) (it acc:Value) (env:Env) :
  compTurn (E2 elt t1 i1 f1 t2 i2 f2 scope pos) 1 it acc env=nc (E2 elt t1 i1 f1 t2 i2 f2 scope pos) 1 i2.pos t2 f2 (AR elt acc env) it acc env:=by rfl
theorem gS {prog:Program} {w:World} {A:Around} {R:Result->Shared->Prop} {s:Shared} {e:Expr} {d:Nat} {ip:Pos} {target:Expr} {ifs:List Expr} {em:Sem Unit} {it acc:Value} {env:Env} (I:Nat->Shared->Prop)
  (heq:compTurn e d it acc env=nc e d ip target ifs em it acc env) (hq:(Code.compLoop e d it acc env).quiet=true) (hA:A.under (.compLoop e d it acc env)=A)
  (hden:(model prog w).den (.compLoop e d it acc env)=(compTurn e d it acc env).onRaise (fun x=>do noteFrame x env;theTreesLotGoes x))
  (turn:∀ n s,I n s->wpAny (model prog w) A (pyNext it) (fun r s₁=>match r with
   | none=>R (.ok .next) s₁
   | some v=>wpAny (model prog w) A (letOwnedTupleGo target it v) (fun _ s₁'=>wpAny (model prog w) A (assign target env v) (fun _ s₂ =>
     wpAny (model prog w) A (forIn ifs true fun c r=>if r=true then do let ok <-isTrue c env (eval c env);pure (ForInStep.yield ok) else pure (ForInStep.yield r)) (fun ok s₃ =>
      if ok=true then wpAny (model prog w) A em (fun _ s₅=>∃ m,m < n/\I m s₅) (fun _ _=>False) s₃
      else ∃ m,m < n/\I m s₃) (fun _ _=>False) s₂) (fun _ _=>False) s₁') (fun _ _=>False) s₁) (fun _ _=>False) s)
  (n:Nat) (h:I n s) :
  codeAny (model prog w) A (.compLoop e d it acc env) R s:=by
 refine codeAny_loop hq I (fun n s hI=>?_) n h
 rw [hden,hA]
 refine wpAny_noted ?_
 rw [heq]
 unfold nc
 refine wpAny_bind (wpAny_standAt (wpAny_bind (wpAny_mono (turn n s hI) (fun r s₁ h₁=>?_) fun _ _ h'=>h'.elim)))
 cases r with
 | none=>exact wpAny_pure h₁
 | some v =>
  refine wpAny_bind (wpAny_mono h₁ (fun _ s₁' h₁'=>?_) fun _ _ h'=>h'.elim)
  refine wpAny_bind (wpAny_mono h₁' (fun _ s₂ h₂=>wpAny_bind (wpAny_mono h₂ (fun ok s₃ h₃=>?_) fun _ _ h'=>h'.elim)) fun _ _ h'=>h'.elim)
  cases ok with
  | false=>exact wpAny_pure ⟨rfl,h₃⟩
  | true=>exact wpAny_bind (wpAny_mono h₃ (fun _ s₅ h₅=>wpAny_pure ⟨rfl,h₅⟩) fun _ _ h'=>h'.elim)
theorem jo {prog:Program} {w:World} {A:Around} {R:Result->Shared->Prop} {s:Shared} {elt t1 i1:Expr} {f1:List Expr} {t2 i2:Expr} {f2:List Expr} {scope:Scope} {pos:Pos} {it acc:Value} {env:Env}
  (h0:codeAny (model prog w) A (.compLoop (E2 elt t1 i1 f1 t2 i2 f2 scope pos) 1 it acc env) R s)
  (h:wpAny (model prog w) A (pyIter it) (fun it' s'=>codeAny (model prog w) A (.compLoop (E2 elt t1 i1 f1 t2 i2 f2 scope pos) 1 it' acc env) R s')
   (notedBy (model prog w) A env fun x s'=>R (.error x) s') s) :
  codeAny (model prog w) A (.compStart (E2 elt t1 i1 f1 t2 i2 f2 scope pos) 1 it acc env) R s:=by
 refine codeAny_of_tree ?_
 show wpAny _ _ ((compStart (E2 elt t1 i1 f1 t2 i2 f2 scope pos) 1 it acc env).onRaise (fun x=>do noteFrame x env;standAt theWindowsPlace)) _ _ s
 refine wpAny_notedAt ?_
 unfold compStart
 show wpAny _ _ (ask >>= _) _ _ s
 refine wpAny_bind (wpAny_askSetting (wpAny_ite ?_))
 split
 ·first
   | exact wpAny_bind (wpAny_pure (wpAny_pure (And.intro rfl h0)))
   | exact wpAny_pure (And.intro rfl h0)
 ·first
   | exact wpAny_bind (wpAny_rule (wpAny_bind (wpAny_standAt (wpAny_bind (wpAny_mono h (fun it' s' h'=>wpAny_pure (And.intro rfl h')) fun _ _ x=>x)))))
   | (refine wpAny_bind (wpAny_rule ?_);show wpAny _ _ (standAt i2.pos >>= _) _ _ s;exact wpAny_bind (wpAny_standAt (wpAny_bind (wpAny_mono h (fun it' s' h'=>wpAny_pure (And.intro rfl h')) fun _ _ x=>x))))
abbrev TM:=Addr->List V->St->Hp->(List V->St->Hp->Prop)->Prop
def BQ (wi:TI) (g:TG) (ct:TT) (te:TE):TM:=fun acc ys0 τ0 H Q=>wi τ0 H fun J H1=>∃ W:Nat->Nat->List V->St->Hp->Prop,(∃ m,W 0 m ys0 τ0 H1)/\∀ i m ys τ H2,W i m ys τ H2->H2 acc=some (.lst ys)/\ys.length < sizeLine /\
  ((J.stop i H2/\Q ys τ H2)\/(J.go i H2/\∃ N:List V->St->Hp->Prop,(∀ ys' τ' H',N ys' τ' H'->∃ m',m' < m/\W (i+1) m' ys' τ' H')/\∀ x H3,J.ki i H2 x H3->g x τ H3 fun τ1 H4=>ct τ1 H4 fun b H5 =>
   if b=true then te τ1 H5 fun y H6=>H6 acc=some (.lst ys)/\N (ys ++ [y]) τ1 (upd H6 acc (.lst (ys ++ [y]))) else N ys τ1 H5))
def PM (X:Cx) (acc:Addr) (em:Sem Unit) (tm:TM):Prop :=
 ∀ (pins:List (Addr × Obj)) (s:Shared) (τ : St) (H:Hp) (ys:List V) (Q:List V->St->Hp->Prop),Inv X pins τ H s->tm acc ys τ H Q ->
  wpAny (model X.prog X.w) X.A em (fun _ s'=>∃ ys' τ' H',Inv X pins τ' H' s'/\Q ys' τ' H') X.xe s
section
variable {X:Cx} {pos:Pos}
theorem zU {elt t1 i1:Expr} {f1:List Expr} {t2 i2:Expr} {f2:List Expr} {scope:Scope} {acc:Addr} {wi:TI} {g:TG} {ct:TT} {te:TE} (hc:X.calm=true) (hx:X.xe=fun _ _=>False)
  (hi:PI X t2 i2 wi) (hg:PG X t2 g) (hct:ky X f2 ct) (hte:PE X elt te) (hs:∀ x,foldedSetIterable i2 X.env x=pure x:=by intro _;rfl) :
  PM X acc (qB (E2 elt t1 i1 f1 t2 i2 f2 scope pos) i2 (.ref acc) X.env) (BQ wi g ct te):=by
 intro pins s τ H ys Q I h
 unfold qB
 refine wpAny_bind (aU (hi pins s τ H _ I h) fun v s1 h1=>wpAny_bind (wpAny_standAt (wpAny_bind (wpAny_of_eq (hs v) (wpAny_bind (wpAny_holding (aU h1 fun itv s2 h2=>?_)))))))
 obtain⟨it,fp,tn,J,H2,e,I2,T,st2,f2',W,⟨m0,w0⟩,turn⟩:=h2
 subst e
 have stat:∀ {H':Hp},(∀ b ∈ fp,H' b=none)->∀ b ∈ fp,fi X pins H' b:=fun hn b hb=>⟨hn b hb,(f2' b hb).2⟩
 have loop:codeAny (model X.prog X.w) X.A (.compLoop (E2 elt t1 i1 f1 t2 i2 f2 scope pos) 1 (.ref it) (.ref acc) X.env)
   (fun r s'=>match r with | .ok _=>(∃ ys' τ' H',Inv X pins τ' H' s'/\Q ys' τ' H') | .error _=>False) s2:=by
  refine gS (fun n s'=>∃ i ys τ H',Inv X pins τ H' s'/\tn i s'.heap/\(∀ b ∈ fp,H' b=none)/\W i n ys τ H') (oT ..) rfl rfl rfl ?_ m0 ⟨0,ys,τ,H2,I2,st2,fun b hb=>(f2' b hb).1,w0⟩
  rintro n s3 ⟨i,ys,τ,H3,I3,st3,fr3,w3⟩
  obtain⟨ha,hl,turn'⟩:=turn i n ys τ H3 w3
  rcases turn' with ⟨stop,q⟩ | ⟨go,N,hN,step⟩
  ·refine wpAny_mono (T.done X rfl rfl rfl hc i pins s3 τ H3 (fun _ _=>False) I3 (stat fr3) st3 stop) (fun r s4 hr4=>?_) fun _ _ z=>z
   obtain⟨hr,I4⟩:=hr4
   subst hr
   exact⟨ys,τ,H3,I4,q⟩
  ·refine wpAny_mono (T.item X rfl rfl rfl hc i pins s3 τ H3 (fun _ _=>False) I3 (stat fr3) st3 go) (fun r s4 hr4=>?_) fun _ _ z=>z
   obtain⟨u,hr,h4⟩:=hr4
   subst hr
   refine wpAny_mono h4 (fun _ s5 ⟨x,H5,I5,r5,y5,st5,fr5⟩=>?_) fun _ _ z=>z
   have I5':=I5.pinned (stat fr5) (T.obj _ _ st5)
   have keepT:∀ {σ7:St} {H7:Hp} {s7:Shared},Inv X (pins++ic fp s5.heap) σ7 H7 s7->tn (i+1) s7.heap/\∀ b ∈ fp,H7 b=none:=fun {σ7 H7 s7} I7=>by
    refine⟨T.keep _ _ _ st5 fun b hb o e=>(I7.pin (b,o) (List.mem_append_right _ (List.mem_append_right _ (cK hb e)))).1,fun b hb=>?_⟩
    obtain⟨o,e,d⟩:=T.obj _ _ st5 b hb
    exact (I7.pin (b,o) (List.mem_append_right _ (List.mem_append_right _ (cK hb e)))).2.1
   refine wpAny_mono (hg _ s5 τ H5 x u _ I5' r5 (step x H5 y5)) (fun _ s6 ⟨τ6,H6,I6,q6⟩=>?_) (fun _ _ z=>by rw [hx] at z;exact z)
   refine wpAny_mono (hct _ s6 τ6 H6 _ I6 q6) (fun ok s7 ⟨H7,I7,q7⟩=>?_) (fun _ _ z=>by rw [hx] at z;exact z)
   cases ok with
   | false =>
    have q7':N ys τ6 H7:=by rw [if_neg (by simp)] at q7;exact q7
    rw [if_neg (by simp)]
    obtain⟨m',hm,w7⟩:=hN _ _ _ q7'
    exact⟨m',hm,i+1,ys,τ6,H7,I7.dA,(keepT I7).1,(keepT I7).2,w7⟩
   | true =>
    rw [if_pos rfl] at q7 ⊢
    unfold AR
    refine wpAny_bind (wpAny_mono (hte _ s7 τ6 H7 _ I7 q7) (fun v s8 ⟨y,H8,I8,r8,ha8,n8⟩=>?_) (fun _ _ z=>by rw [hx] at z;exact z))
    refine wpAny_bind (wpAny_mono (cA (X:=X) _ s8 τ6 H8 (.ref acc) [y] (.ref acc) [v] (fun _ H9=>H9=upd H8 acc (.lst (ys ++ [y]))) I8 rfl (.cons r8 .nil) ⟨_,ys,y,rfl,rfl,ha8,hl,rfl⟩) (fun _ s9 ⟨_,H9,I9,_,e9⟩=>wpAny_pure ?_) (fun _ _ z=>by rw [hx] at z;exact z))
    subst e9
    obtain⟨m',hm,w8⟩:=hN _ _ _ n8
    exact⟨m',hm,i+1,_,τ6,_,I9.dA,(keepT I9).1,(keepT I9).2,w8⟩
 refine wpAny_bind (wpAny_runOwn (codeAny_mono (jo loop (T.self _ 0 _ _ _ st2 loop)) fun r s' q=>?_))
 cases r with
 | ok f=>exact wpAny_pure q
 | error e=>exact q.elim
end
def BA (i0:Nat) (g:TG) (ct:TT) (te:TE):TM:=fun acc ys0 τ0 H Q=>∃ v,τ0[i0]? = some (some v)/\∃ a kvs,v=.ref a/\H a=some (.dK kvs)/\∀ ob,∃ Pv:Nat->List V->St->Hp->Prop,Pv 0 ys0 τ0 (upd H a (.eW ob (.dK kvs))) /\
 (∀ j ys τ H2,j<=kvs.length->Pv j ys τ H2->H2 a=some (.eW ob (.dK kvs))/\H2 acc=some (.lst ys)/\ys.length < sizeLine) /\
 (∀ j k u ys τ H2,kvs[j]? = some (k,u)->Pv j ys τ H2->g (kV k) τ H2 fun τ1 H4=>ct τ1 H4 fun b H5=>if b=true then te τ1 H5 fun y H6=>H6 acc=some (.lst ys)/\Pv (j+1) (ys ++ [y]) τ1 (upd H6 acc (.lst (ys ++ [y]))) else Pv (j+1) ys τ1 H5) /\
 (∀ ys τ H2,Pv kvs.length ys τ H2->Q ys τ (upd H2 a (.dK kvs)))
section
variable {X:Cx} {pos:Pos}
theorem yF {elt t1 i1:Expr} {f1:List Expr} {t2 i2:Expr} {f2:List Expr} {scope:Scope} {acc:Addr} {i0:Nat} {g:TG} {ct:TT} {te:TE} (hc:X.calm=true) (hx:X.xe=fun _ _=>False)
  (hi:PE X i2 (sP i0)) (hg:PG X t2 g) (hct:ky X f2 ct) (hte:PE X elt te) (hs:∀ x,foldedSetIterable i2 X.env x=pure x:=by intro _;rfl) :
  PM X acc (qB (E2 elt t1 i1 f1 t2 i2 f2 scope pos) i2 (.ref acc) X.env) (BA i0 g ct te):=by
 intro pins s τ0 H ys0 Q I h
 obtain⟨v,hv,a,kvs,rfl,ha,h⟩:=h
 have nf:=I.nf ha
 refine aU (zU hc hx (yE hi) hg hct hte hs pins s τ0 H ys0 (fun ys τ H2=>∃ ob,H2 a=some (.eW ob (.dK kvs))/\Q ys τ (upd H2 a (.dK kvs))) I ?_) fun _ s' ⟨ys,τ,H2,I2,ob,e,q⟩=>⟨ys,τ,_,Bz I2 nf e,q⟩
 refine⟨_,hv,a,kvs,rfl,ha,fun ob _=>?_⟩
 obtain⟨Pv,p0,pf,ps,pe⟩:=h ob
 refine⟨fun j m ys τ H2=>m=kvs.length - j/\j<=kvs.length/\Pv j ys τ H2,⟨kvs.length,by simp,Nat.zero_le _,p0⟩,?_⟩
 rintro j m ys τ H2 ⟨rfl,hj,p⟩
 obtain⟨h1,h2,h3⟩:=pf j ys τ H2 hj p
 refine⟨h2,h3,?_⟩
 by_cases hlt:j < kvs.length
 ·refine .inr ⟨⟨h1,hlt⟩,Pv (j+1),fun ys' τ' H' p'=>⟨kvs.length - (j+1),by omega,rfl,hlt,p'⟩,fun x H' y=>?_⟩
  obtain⟨e1,k,u,e2,e3⟩:=y
  subst e1 e3
  exact ps j k u ys τ _ e2 p
 ·have e:j=kvs.length:=by omega
  subst e
  exact .inl ⟨⟨h1,Nat.le_refl _⟩,ob,h1,pe ys τ H2 p⟩
end
def zV (J:It) (n:Nat) (js:List Nat) (g:TG) (ct:TT) (tm:TM) (acc:Addr) (σ : St) (H1:Hp) (Q:VK):Prop :=
 ∃ W:Nat->Nat->List V->St->Hp->Prop,(∃ m,W 0 m [] (fq n js σ) (upd H1 acc (.lst [])))/\∀ i m ys τ H2,W i m ys τ H2 ->
  ((J.stop i H2/\Q (.ref acc) H2)\/(J.go i H2/\∃ N:List V->St->Hp->Prop,(∀ ys' τ' H',N ys' τ' H'->∃ m',m' < m/\W (i+1) m' ys' τ' H')/\∀ x H3,J.ki i H2 x H3->g x τ H3 fun τ1 H4=>ct τ1 H4 fun b H5 =>
   if b=true then tm acc ys τ1 H5 N else N ys τ1 H5))
def BR (n:Nat) (js:List Nat) (wi:TI) (g:TG) (ct:TT) (tm:TM):TE:=fun σ H Q=>wi σ H fun J H1=>∀ acc,H1 acc=none->zV J n js g ct tm acc σ H1 Q
section
variable {X:Cx} {pos:Pos}
theorem yG {pins:List (Addr × Obj)} {σ : St} {H:Hp} {s:Shared} {E:Value->Shared->Prop} {tg elt iter:Expr} {ifs:List Expr} {t2 i2:Expr} {f2:List Expr} {scope:Scope} {g:TG} {ct:TT} {tm:TM} {ts fr:List Str} {js:List Nat}
    {it:Addr} {fp:List Addr} {tn:Nat->Heap->Prop} {J:It} {Q:VK} {RR:Value->Addr->Result->Shared->Prop}
    (hc:X.calm=true) (hkind:scope.kind=.function) (hcell:∀ y ∈ scope.names,y.2 ≠ .cell) (hfree:∀ y ∈ scope.names,y.2=.free->X.env.kindOf y.1=some .cell\/X.env.kindOf y.1=some .free)
    (hfr:fu X scope fr js) (htg:∀ C fp s₁ H₁,PG (bW X scope C (ts++fr) fp s₁ H₁) tg g) (hct:∀ C fp s₁ H₁,ky (bW X scope C (ts++fr) fp s₁ H₁) ifs ct) (htm:∀ C fp s₁ H₁ acc,PM (bW X scope C (ts++fr) fp s₁ H₁) acc (qB (E2 elt tg iter ifs t2 i2 f2 scope pos) i2 (.ref acc) (bW X scope C (ts++fr) fp s₁ H₁).env) tm)
    (I:Inv X pins σ H s) (T:Turn X.prog X.w X.K tg J fp it tn) (st:tn 0 s.heap) (hfp:∀ b ∈ fp,fi X pins H b)
    (h:∀ acc,H acc=none->zV J ts.length js g ct tm acc σ H Q)
    (hRR:∀ acc C H' s' m,Inv X pins σ H' s'->s'.heap.Ns C m->H' C=none->s.heap.objs.size<=C->Q (.ref acc) H'->RR (.ref acc) C (.ok .next) s') :
    wpAny (model X.prog X.w) X.A (newList []) (fun acc s₃=>wpAny (model X.prog X.w) X.A (newFunctionEnv scope X.env.globals (fX X.env.cells scope.names []) [] X.env.qual none .none (some X.env)) (fun cenv s₄ =>
      codeAny (model X.prog X.w) X.A (.compStart (E2 elt tg iter ifs t2 i2 f2 scope pos) 0 (.ref it) acc { cenv with scope:=relabel scope X.env }) (RR acc cenv.locals) s₄) E s₃) E s:=by
  have hf:∀ y ∈ scope.names,y.2=.free->∃ c,X.env.cells.lookup y.1=some c:=fun y hy e=>I.ok.has y.1 (hfree y hy e)
  have ag:∀ x c,(fX X.env.cells scope.names []).lookup x=some c->X.env.cells.lookup x=some c:=ij scope.names [] hf fun x c e=>by simp at e
  have hlt:∀ b ∈ fp,b < s.heap.objs.size:=fun b hb=>by
    obtain⟨o,e,_⟩:=T.obj _ _ st b hb
    exact Heap.lt_size e
  refine wpAny_newObj_type (wpAny_newFunctionEnv hcell (by intro y hy;simp at hy) (fun h₁ hns₁ hsb₁=>?_) hkind)
  dsimp only at hns₁ hsb₁ ⊢
  generalize hH2:s.heap.push { cls:=.type "list",dict:=none,data:=.seq ([]:List Value).toArray }=G2 at hns₁ hsb₁ ⊢
  have hC:G2.objs.size=s.heap.objs.size+1:=by rw [<-hH2,Heap.size_push]
  have hDC:s.heap.objs.size ≠ G2.objs.size:=by rw [hC];exact Nat.ne_of_lt (Nat.lt_succ_self _)
  have hCle:s.heap.objs.size<=G2.objs.size:=by rw [hC];exact Nat.le_succ _
  have below:∀ b,b < s.heap.objs.size->b ≠ G2.objs.size/\b ≠ s.heap.objs.size:=fun b hb=>⟨by rw [hC];exact Nat.ne_of_lt (Nat.lt_succ_of_lt hb),Nat.ne_of_lt hb⟩
  have old:∀ b o,s.heap.get? b=some o->h₁.get? b=some o:=fun b o e=>hsb₁.extBut b o (below b (Heap.lt_size e)).1 (Heap.get?_push_of_some _ (hH2 ▸ Heap.get?_push_of_some _ e))
  have hacc:h₁.get? s.heap.objs.size=some { cls:=.type "list",data:=.seq ([]:List Value).toArray }:=hsb₁.extBut _ _ hDC (Heap.get?_push_of_some _ (hH2 ▸ Heap.get?_push_size _ rfl))
  have nD:H s.heap.objs.size=none:=I.aP.fresh (Nat.le_refl _)
  have nC:H G2.objs.size=none:=I.aP.fresh hCle
  obtain⟨W,⟨m0,w0⟩,turn⟩:=h s.heap.objs.size nD
  generalize hXb:bW X scope G2.objs.size (ts++fr) fp s H=Xb
  have Ib:∀ tk,Inv Xb [] (fq ts.length js σ) (upd H s.heap.objs.size (.lst [])) { s with heap:=h₁,toks:=tk }:=by
    intro tk
    subst hXb
    refine⟨pU I hkind hcell hf hCle hfp hlt,rfl,I.bare,Un.laid old (Nat.le_refl _) nD,⟨_,hns₁,fun i x v e1 e2 e3=>?_⟩,fun x c e=>?_,?_,fun x c e=>?_,fun p hp=>absurd (show p ∈ ([]:List (Addr × Obj)) from hp) (by simp),I.aP.laid old (Nat.le_refl _) ⟨by show 0<=sizeLine;decide,[],_,.nil,hacc⟩,?_⟩
    · have hi:ts.length<=i:=by
        refine Nat.le_of_not_lt fun hi=>?_
        unfold fq at e2
        rw [List.getElem?_append_left (by simpa using hi),List.getElem?_replicate] at e2
        split at e2 <;> cases e2
      have e1':fr[i - ts.length]? = some x:=by
        have e1'':(ts++fr)[i]? = some x:=e1
        rw [List.getElem?_append_right hi] at e1''
        exact e1''
      unfold fq at e2
      rw [List.getElem?_append_right (by simpa using hi),List.length_replicate,List.getElem?_map] at e2
      cases ej:js[i - ts.length]? with
      | none=>rw [ej] at e2;cases e2
      | some j =>
        rw [ej] at e2
        have e2':σ.getD j none=some v:=by simpa using e2
        obtain⟨q1,q2,q3⟩:=hfr.get e1' ej
        have e2'':σ[j]? = some (some v):=by
          rw [List.getD_eq_getElem?_getD] at e2'
          cases ez:σ[j]? with
          | none=>rw [ez] at e2';cases e2'
          | some z=>rw [ez] at e2';rw [show z=some v from e2']
        obtain⟨m,hn,hl⟩:=I.loc
        obtain⟨u,r,l⟩:=hl j x v q1 e2'' (by
          rcases q2 with q2 | q2
          · exact .inr (.inl q2)
          · exact .inr (.inr q2))
        refine⟨u,r,.inr ⟨gI q3,?_⟩⟩
        rcases l with ⟨l,_⟩ | ⟨_,c,lc,lv⟩
        · rcases q2 with q2 | q2 <;> (rw [l] at q2;cases q2)
        · obtain⟨c',hc'⟩:=jD (cells:=X.env.cells) scope.names [] (.inl (PySem.mem_of_lookup q3))
          have:=ag x c' hc'
          rw [lc] at this
          cases this
          obtain⟨o,ho,hd⟩:=lv
          exact⟨c,hc',o,old _ _ ho,hd⟩
    · obtain⟨v,o,ho,hd⟩:=I.cell x c (ag x c e)
      exact⟨v,o,old _ _ ho,hd⟩
    · show upd H s.heap.objs.size (.lst []) G2.objs.size=none
      rw [af hDC.symm];exact nC
    · obtain⟨v,o,ho,hd⟩:=I.cell x c (ag x c e)
      rw [af (Nat.ne_of_lt (Heap.lt_size ho))]
      exact I.eh x c (ag x c e)
    · show (fq ts.length js σ).length=(ts++fr).length
      unfold fq
      rw [List.length_append,List.length_replicate,List.length_map,List.length_append,hfr.len]
  have fpB:∀ {H':Hp},(∀ b ∈ fp,H' b=none)->∀ b ∈ fp,fi Xb [] H' b:=fun {H'} hn b hb=>by
    subst hXb
    obtain⟨h1,h2,h3,h4,h5,h6⟩:=hfp b hb
    refine⟨hn b hb,(below b (hlt b hb)).1,fun z=>?_,.inl hb,fun x c e=>h5 x c (ag x c e),fun p hp=>absurd (show p ∈ ([]:List (Addr × Obj)) from hp) (by simp)⟩
    rcases List.mem_cons.mp (I.jv b z) with z | z
    · exact h2 z
    · exact h3 z
  have fin:∀ {τ : St} {H':Hp} {s':Shared},Inv Xb [] τ H' s'->Q (.ref s.heap.objs.size) H'->RR (.ref s.heap.objs.size) G2.objs.size (.ok .next) s':=fun {τ H' s'} Jb q=>by
    subst hXb
    obtain⟨m,hn,_⟩:=Jb.loc
    refine hRR _ _ H' s' m (I.sO (ch:=fp) Jb.os Jb.base Jb.aP Jb.bare fun b hb=>?_) hn Jb.free hCle q
    obtain⟨h1,h2,h3,h4,h5,h6⟩:=hfp b hb
    exact⟨h4,h2,h5,h6⟩
  have loop:∀ tk,codeAny (model X.prog X.w) X.A (.compLoop (E2 elt tg iter ifs t2 i2 f2 scope pos) 0 (.ref it) (.ref s.heap.objs.size) (compEnvC scope (fX X.env.cells scope.names []) G2.objs.size X.env))
        (RR (.ref s.heap.objs.size) G2.objs.size) { s with heap:=h₁,toks:=tk }:=by
    intro tk
    refine gS (fun n s'=>∃ i ys τ H',Inv Xb [] τ H' s'/\tn i s'.heap/\(∀ b ∈ fp,H' b=none)/\W i n ys τ H') (oR ..) rfl rfl rfl ?_ m0 ⟨0,[],_,_,Ib tk,T.keep _ _ _ st fun b hb o e=>old b o e,fun b hb=>?_,w0⟩
    · rintro n s3 ⟨i,ys,τ,H3,I3,st3,fr3,w3⟩
      have htg':=htg G2.objs.size fp s H
      have hct':=hct G2.objs.size fp s H
      have htm':=htm G2.objs.size fp s H s.heap.objs.size
      rw [hXb] at htg' hct' htm'
      have eP:Xb.prog=X.prog:=by subst hXb;rfl
      have ew:Xb.w=X.w:=by subst hXb;rfl
      have eK:Xb.K=X.K:=by subst hXb;rfl
      have eA:Xb.A=X.A:=by subst hXb;rfl
      have ec:Xb.calm=true:=by subst hXb;exact hc
      have ee:Xb.env=compEnvC scope (fX X.env.cells scope.names []) G2.objs.size X.env:=by subst hXb;rfl
      have ex:Xb.xe=fun _ _=>False:=by subst hXb;rfl
      rw [<-eP,<-ew,<-eA,<-ee]
      have turn':=turn i n ys τ H3 w3
      rcases turn' with ⟨stop,q⟩ | ⟨go,N,hN,step⟩
      · have hd:=T.done Xb eP ew eK ec i [] s3 τ H3 (fun _ _=>False) I3 (fpB fr3) st3 stop
        rw [<-eP,<-ew] at hd
        refine wpAny_mono hd (fun r s4 hr4=>?_) fun _ _ z=>z
        obtain⟨hr,I4⟩:=hr4
        subst hr
        exact fin I4 q
      · have hd:=T.item Xb eP ew eK ec i [] s3 τ H3 (fun _ _=>False) I3 (fpB fr3) st3 go
        rw [<-eP,<-ew] at hd
        refine wpAny_mono hd (fun r s4 hr4=>?_) fun _ _ z=>z
        obtain⟨u,hr,h4⟩:=hr4
        subst hr
        refine wpAny_mono h4 (fun _ s5 ⟨x,H5,I5,r5,y5,st5,fr5⟩=>?_) fun _ _ z=>z
        have I5':=I5.pinned (fpB fr5) (T.obj _ _ st5)
        have keepT:∀ {σ7:St} {H7:Hp} {s7:Shared},Inv Xb ([] ++ ic fp s5.heap) σ7 H7 s7->tn (i+1) s7.heap/\∀ b ∈ fp,H7 b=none:=fun {σ7 H7 s7} I7=>by
          refine⟨T.keep _ _ _ st5 fun b hb o e=>(I7.pin (b,o) (List.mem_append_right _ (List.mem_append_right _ (cK hb e)))).1,fun b hb=>?_⟩
          obtain⟨o,e,d⟩:=T.obj _ _ st5 b hb
          exact (I7.pin (b,o) (List.mem_append_right _ (List.mem_append_right _ (cK hb e)))).2.1
        refine wpAny_mono (htg' _ s5 τ H5 x u _ I5' r5 (step x H5 y5)) (fun _ s6 ⟨τ6,H6,I6,q6⟩=>?_) (fun _ _ z=>by rw [ex] at z;exact z)
        refine wpAny_mono (hct' _ s6 τ6 H6 _ I6 q6) (fun ok s7 ⟨H7,I7,q7⟩=>?_) (fun _ _ z=>by rw [ex] at z;exact z)
        cases ok with
        | false =>
          have q7':N ys τ6 H7:=by rw [if_neg (by simp)] at q7;exact q7
          rw [if_neg (by simp)]
          obtain⟨m',hm,w7⟩:=hN _ _ _ q7'
          exact⟨m',hm,i+1,ys,τ6,H7,I7.dA,(keepT I7).1,(keepT I7).2,w7⟩
        | true =>
          rw [if_pos rfl] at q7 ⊢
          refine wpAny_mono (htm' _ s7 τ6 H7 ys _ I7 q7) (fun _ s8 ⟨ys8,τ8,H8,I8,n8⟩=>?_) (fun _ _ z=>by rw [ex] at z;exact z)
          obtain⟨m',hm,w8⟩:=hN _ _ _ n8
          exact⟨m',hm,i+1,_,τ8,_,I8.dA,(keepT I8).1,(keepT I8).2,w8⟩
    · rw [af (Nat.ne_of_lt (hlt b hb))]
      exact (hfp b hb).1
  exact codeAny_compStart_list (loop _) (T.self _ 0 _ _ _ (T.keep _ _ _ st fun b hb o e=>old b o e) (loop _))
theorem vy {tg elt iter:Expr} {ifs:List Expr} {t2 i2:Expr} {f2:List Expr} {scope:Scope} {wi:TI} {g:TG} {ct:TT} {tm:TM} {i:Nat} {y:Str} {py spos:Pos} (ts fr:List Str) (js:List Nat)
  (hsw:swapsWith (E2 elt tg iter ifs t2 i2 f2 scope pos) (some (.Name y py)) spos.line X.env=pure true) (hN:X.N.Nodup) (hi0:X.N[i]? = some y) (hx:X.env.scope.names.lookup y=some .local)
  (hc:X.calm=true) (hi:PI X tg iter wi) (hkind:scope.kind=.function) (hcell:∀ y ∈ scope.names,y.2 ≠ .cell) (hnames:∀ y ∈ scope.names,y.2=.local->scope.names.lookup y.1=some .local)
  (hfree0:∀ y ∈ scope.names,y.2=.free->y.1 ∈ fr) (hfr:fu X scope fr js)
  (htg:∀ C fp s₁ H₁,PG (bW X scope C (ts++fr) fp s₁ H₁) tg g) (hct:∀ C fp s₁ H₁,ky (bW X scope C (ts++fr) fp s₁ H₁) ifs ct) (htm:∀ C fp s₁ H₁ acc,PM (bW X scope C (ts++fr) fp s₁ H₁) acc (qB (E2 elt tg iter ifs t2 i2 f2 scope pos) i2 (.ref acc) (bW X scope C (ts++fr) fp s₁ H₁).env) tm)
  (hs:∀ x,foldedSetIterable iter X.env x=pure x:=by intro _;rfl):PS X (.Assign [.Name y py] (E2 elt tg iter ifs t2 i2 f2 scope pos) spos) (sS (BR ts.length js wi g ct tm) (mK i)):=by
 have hfree:∀ y ∈ scope.names,y.2=.free->X.env.kindOf y.1=some .cell\/X.env.kindOf y.1=some .free:=fun y hy e=>hfr.mem (hfree0 y hy e)
 intro pins s σ H D I h
 rw [exec_Assign_Name_used _ _ _ _ hsw]
 refine wpAny_bind (wpAny_standAt (wpAny_bind ?_))
 show wpAny _ X.A (do let _ <-comprehension (E2 elt tg iter ifs t2 i2 f2 scope pos) scope X.env _ (newList []) false (eval iter X.env) (some (assign (.Name y py) X.env))) _ _ s
 refine wpAny_bind (wpAny_mono (wpAny_comprehension_free (use:=some (assign (.Name y py) X.env)) (Q:=fun _ s'=>SP X pins D .next s') rfl hs (iC fun y hy e=>I.ok.has y.1 (hfree y hy e)) hkind hnames
  (aU (hi pins s σ H _ I h) fun xv s1 h1=>aU h1 fun itv s2 h2=>?_)) (fun _ s' hq=>wpAny_pure (wpAny_pure hq)) fun _ _ e=>e)
 obtain⟨it,fp,tn,J,H2,e,I2,T,st2,f2,hW⟩:=h2
 subst e
 refine yG (Q:=fun v H'=>D.nx (σ.set i (some v)) H') (RR:=fun acc C=>compPost (model X.prog X.w) X.A X.xe (some (assign (.Name y py) X.env)) (fun _ s'=>SP X pins D .next s') acc C) hc hkind hcell hfree hfr htg hct htm I2 T st2 f2 hW ?_
 intro acc C H' s' m I' hn hC hle q
 show wpAny _ X.A (assign (.Name y py) X.env (.ref acc)) _ _ _
 refine wpAny_assign_Name (kf I' hN hi0 (.inl hx) (v:=.ref acc) rfl (fun s'' I'' hch=>?_) (.inr hx))
 obtain⟨h1,h2,h3,h4,h5,h6⟩:=I2.iQ (H':=H') hle hC
 obtain⟨a,hsb,ha⟩:=hch
 refine⟨m,hn.sameBut hsb ?_,fun h' hsb'=>⟨_,H',I2.mT I'' hC hle hsb',q⟩⟩
 rcases ha with ha | ha
 ·rw [ha];exact h2
 ·exact fun z=>h5 y a ha z.symm
end
def zW (J:It) (n:Nat) (js:List Nat) (g:TG) (ct:TT) (tk tv:TE) (acc:Addr) (σ : St) (H1:Hp) (Q:VK):Prop :=
 ∃ W:Nat->Nat->List (Key × V)->St->Hp->Prop,(∃ m,W 0 m [] (fq n js σ) (upd H1 acc (.dK [])))/\∀ i m ys τ H2,W i m ys τ H2->H2 acc=some (.dK ys)/\ys.length < sizeLine /\
  ((J.stop i H2/\Q (.ref acc) H2)\/(J.go i H2/\∃ N:List (Key × V)->St->Hp->Prop,(∀ ys' τ' H',N ys' τ' H'->∃ m',m' < m/\W (i+1) m' ys' τ' H')/\∀ x H3,J.ki i H2 x H3->g x τ H3 fun τ1 H4=>ct τ1 H4 fun b H5 =>
   if b=true then tk τ1 H5 fun x1 H6=>tv τ1 H6 fun y H7=>∃ k,x1=kV k/\H7 acc=some (.dK ys)/\N (putK ys k y) τ1 (upd H7 acc (.dK (putK ys k y))) else N ys τ1 H5))
def BS (n:Nat) (js:List Nat) (wi:TI) (g:TG) (ct:TT) (tk tv:TE):TE:=fun σ H Q=>wi σ H fun J H1=>∀ acc,H1 acc=none->zW J n js g ct tk tv acc σ H1 Q
section
variable {X:Cx} {pos:Pos}
theorem kc {prog:Program} {w:World} {A:Around} {R:Result->Shared->Prop} {s:Shared} {kx vx target iter:Expr} {ifs:List Expr} {scope:Scope} {pos:Pos} {it:Value} {D:Addr} {env:Env} (I:Nat->Shared->Prop)
  (turn:∀ n s,I n s->wpAny (model prog w) A (pyNext it) (fun r s₁=>match r with
   | none=>R (.ok .next) s₁
   | some v=>wpAny (model prog w) A (letOwnedTupleGo target it v) (fun _ s₁'=>wpAny (model prog w) A (assign target env v) (fun _ s₂ =>
     wpAny (model prog w) A (forIn ifs true fun c r=>if r=true then do let ok <-isTrue c env (eval c env);pure (ForInStep.yield ok) else pure (ForInStep.yield r)) (fun ok s₃ =>
      if ok=true then wpAny (model prog w) A (eval kx env) (fun kv s₄=>wpAny (model prog w) A (eval vx env) (fun vv s₅ =>
       wpAny (model prog w) A (dictSet D kv vv) (fun _ s₆=>∃ m,m < n/\I m s₆) (fun _ _=>False) s₅) (fun _ _=>False) s₄) (fun _ _=>False) s₃
      else ∃ m,m < n/\I m s₃) (fun _ _=>False) s₂) (fun _ _=>False) s₁') (fun _ _=>False) s₁) (fun _ _=>False) s)
  (n:Nat) (h:I n s) :
  codeAny (model prog w) A (.compLoop (.DictComp kx vx [⟨target,iter,ifs,0⟩] scope pos) 0 it (.ref D) env) R s:=by
 refine codeAny_loop rfl I (fun n s hI=>?_) n h
 show wpAny _ A ((compTurn (.DictComp kx vx [⟨target,iter,ifs,0⟩] scope pos) 0 it (.ref D) env).onRaise (fun x=>do noteFrame x env;theTreesLotGoes x)) _ _ s
 refine wpAny_noted ?_
 rw [compTurn_dict]
 refine wpAny_bind (wpAny_standAt (wpAny_bind (wpAny_mono (turn n s hI) (fun r s₁ h₁=>?_) fun _ _ h'=>h'.elim)))
 cases r with
 | none=>exact wpAny_pure h₁
 | some v =>
  refine wpAny_bind (wpAny_mono h₁ (fun _ s₁' h₁'=>?_) fun _ _ h'=>h'.elim)
  refine wpAny_bind (wpAny_mono h₁' (fun _ s₂ h₂=>wpAny_bind (wpAny_mono h₂ (fun ok s₃ h₃=>?_) fun _ _ h'=>h'.elim)) fun _ _ h'=>h'.elim)
  cases ok with
  | false=>exact wpAny_pure ⟨rfl,h₃⟩
  | true =>
   exact wpAny_bind (wpAny_bind (wpAny_mono h₃ (fun kv s₄ h₄=>wpAny_bind (wpAny_holding (wpAny_mono h₄ (fun vv s₅ h₅=>wpAny_bind (wpAny_standAt (wpAny_holding (wpAny_mono h₅ (fun _ s₆ h₆=>wpAny_pure ⟨rfl,h₆⟩) fun _ _ h'=>h'.elim)))) fun _ _ h'=>h'.elim))) fun _ _ h'=>h'.elim))
theorem yH {pins:List (Addr × Obj)} {σ : St} {H:Hp} {s:Shared} {E:Value->Shared->Prop} {tg kx vx iter:Expr} {ifs:List Expr} {scope:Scope} {g:TG} {ct:TT} {tk tv:TE} {ts fr:List Str} {js:List Nat}
    {it:Addr} {fp:List Addr} {tn:Nat->Heap->Prop} {J:It} {Q:VK} {RR:Value->Addr->Result->Shared->Prop}
    (hc:X.calm=true) (hkind:scope.kind=.function) (hcell:∀ y ∈ scope.names,y.2 ≠ .cell) (hfree:∀ y ∈ scope.names,y.2=.free->X.env.kindOf y.1=some .cell\/X.env.kindOf y.1=some .free)
    (hfr:fu X scope fr js) (htg:∀ C fp s₁ H₁,PG (bW X scope C (ts++fr) fp s₁ H₁) tg g) (hct:∀ C fp s₁ H₁,ky (bW X scope C (ts++fr) fp s₁ H₁) ifs ct) (htk:∀ C fp s₁ H₁,PE (bW X scope C (ts++fr) fp s₁ H₁) kx tk) (htv:∀ C fp s₁ H₁,PE (bW X scope C (ts++fr) fp s₁ H₁) vx tv)
    (I:Inv X pins σ H s) (T:Turn X.prog X.w X.K tg J fp it tn) (st:tn 0 s.heap) (hfp:∀ b ∈ fp,fi X pins H b)
    (h:∀ acc,H acc=none->zW J ts.length js g ct tk tv acc σ H Q)
    (hRR:∀ acc C H' s' m,Inv X pins σ H' s'->s'.heap.Ns C m->H' C=none->s.heap.objs.size<=C->Q (.ref acc) H'->RR (.ref acc) C (.ok .next) s') :
    wpAny (model X.prog X.w) X.A newDict (fun acc s₃=>wpAny (model X.prog X.w) X.A (newFunctionEnv scope X.env.globals (fX X.env.cells scope.names []) [] X.env.qual none .none (some X.env)) (fun cenv s₄ =>
      codeAny (model X.prog X.w) X.A (.compStart (.DictComp kx vx [⟨tg,iter,ifs,0⟩] scope pos) 0 (.ref it) acc { cenv with scope:=relabel scope X.env }) (RR acc cenv.locals) s₄) E s₃) E s:=by
  have hf:∀ y ∈ scope.names,y.2=.free->∃ c,X.env.cells.lookup y.1=some c:=fun y hy e=>I.ok.has y.1 (hfree y hy e)
  have ag:∀ x c,(fX X.env.cells scope.names []).lookup x=some c->X.env.cells.lookup x=some c:=ij scope.names [] hf fun x c e=>by simp at e
  have hlt:∀ b ∈ fp,b < s.heap.objs.size:=fun b hb=>by
    obtain⟨o,e,_⟩:=T.obj _ _ st b hb
    exact Heap.lt_size e
  refine wpAny_newObj_type (wpAny_newFunctionEnv hcell (by intro y hy;simp at hy) (fun h₁ hns₁ hsb₁=>?_) hkind)
  dsimp only at hns₁ hsb₁ ⊢
  have hnew:(s.heap.push { cls:=.type "dict",dict:=none,data:=.dict #[] }).DictOf (aN X.prog X.w) s.heap.objs.size []:=Heap.DictOf.new s.heap
  generalize hH2:s.heap.push { cls:=.type "dict",dict:=none,data:=.dict #[] }=G2 at hns₁ hsb₁ hnew ⊢
  have hC:G2.objs.size=s.heap.objs.size+1:=by rw [<-hH2,Heap.size_push]
  have hDC:s.heap.objs.size ≠ G2.objs.size:=by rw [hC];exact Nat.ne_of_lt (Nat.lt_succ_self _)
  have hCle:s.heap.objs.size<=G2.objs.size:=by rw [hC];exact Nat.le_succ _
  have below:∀ b,b < s.heap.objs.size->b ≠ G2.objs.size/\b ≠ s.heap.objs.size:=fun b hb=>⟨by rw [hC];exact Nat.ne_of_lt (Nat.lt_succ_of_lt hb),Nat.ne_of_lt hb⟩
  have old:∀ b o,s.heap.get? b=some o->h₁.get? b=some o:=fun b o e=>hsb₁.extBut b o (below b (Heap.lt_size e)).1 (Heap.get?_push_of_some _ (hH2 ▸ Heap.get?_push_of_some _ e))
  have hacc:h₁.DictOf (aN X.prog X.w) s.heap.objs.size []:=hnew.at fun o e=>hsb₁.extBut _ _ hDC (Heap.get?_push_of_some _ e)
  have nD:H s.heap.objs.size=none:=I.aP.fresh (Nat.le_refl _)
  have nC:H G2.objs.size=none:=I.aP.fresh hCle
  obtain⟨W,⟨m0,w0⟩,turn⟩:=h s.heap.objs.size nD
  generalize hXb:bW X scope G2.objs.size (ts++fr) fp s H=Xb
  have Ib:∀ tk,Inv Xb [] (fq ts.length js σ) (upd H s.heap.objs.size (.dK [])) { s with heap:=h₁,toks:=tk }:=by
    intro tk
    subst hXb
    refine⟨pU I hkind hcell hf hCle hfp hlt,rfl,I.bare,Un.laid old (Nat.le_refl _) nD,⟨_,hns₁,fun i x v e1 e2 e3=>?_⟩,fun x c e=>?_,?_,fun x c e=>?_,fun p hp=>absurd (show p ∈ ([]:List (Addr × Obj)) from hp) (by simp),I.aP.laid old (Nat.le_refl _) (jE (Nat.zero_le _) (beq_eq_false_iff_ne.mpr (Ne.symm (Nat.ne_of_lt I.big))) .nil hacc),?_⟩
    · have hi:ts.length<=i:=by
        refine Nat.le_of_not_lt fun hi=>?_
        unfold fq at e2
        rw [List.getElem?_append_left (by simpa using hi),List.getElem?_replicate] at e2
        split at e2 <;> cases e2
      have e1':fr[i - ts.length]? = some x:=by
        have e1'':(ts++fr)[i]? = some x:=e1
        rw [List.getElem?_append_right hi] at e1''
        exact e1''
      unfold fq at e2
      rw [List.getElem?_append_right (by simpa using hi),List.length_replicate,List.getElem?_map] at e2
      cases ej:js[i - ts.length]? with
      | none=>rw [ej] at e2;cases e2
      | some j =>
        rw [ej] at e2
        have e2':σ.getD j none=some v:=by simpa using e2
        obtain⟨q1,q2,q3⟩:=hfr.get e1' ej
        have e2'':σ[j]? = some (some v):=by
          rw [List.getD_eq_getElem?_getD] at e2'
          cases ez:σ[j]? with
          | none=>rw [ez] at e2';cases e2'
          | some z=>rw [ez] at e2';rw [show z=some v from e2']
        obtain⟨m,hn,hl⟩:=I.loc
        obtain⟨u,r,l⟩:=hl j x v q1 e2'' (by
          rcases q2 with q2 | q2
          · exact .inr (.inl q2)
          · exact .inr (.inr q2))
        refine⟨u,r,.inr ⟨gI q3,?_⟩⟩
        rcases l with ⟨l,_⟩ | ⟨_,c,lc,lv⟩
        · rcases q2 with q2 | q2 <;> (rw [l] at q2;cases q2)
        · obtain⟨c',hc'⟩:=jD (cells:=X.env.cells) scope.names [] (.inl (PySem.mem_of_lookup q3))
          have:=ag x c' hc'
          rw [lc] at this
          cases this
          obtain⟨o,ho,hd⟩:=lv
          exact⟨c,hc',o,old _ _ ho,hd⟩
    · obtain⟨v,o,ho,hd⟩:=I.cell x c (ag x c e)
      exact⟨v,o,old _ _ ho,hd⟩
    · show upd H s.heap.objs.size (.dK []) G2.objs.size=none
      rw [af hDC.symm];exact nC
    · obtain⟨v,o,ho,hd⟩:=I.cell x c (ag x c e)
      rw [af (Nat.ne_of_lt (Heap.lt_size ho))]
      exact I.eh x c (ag x c e)
    · show (fq ts.length js σ).length=(ts++fr).length
      unfold fq
      rw [List.length_append,List.length_replicate,List.length_map,List.length_append,hfr.len]
  have fpB:∀ {H':Hp},(∀ b ∈ fp,H' b=none)->∀ b ∈ fp,fi Xb [] H' b:=fun {H'} hn b hb=>by
    subst hXb
    obtain⟨h1,h2,h3,h4,h5,h6⟩:=hfp b hb
    refine⟨hn b hb,(below b (hlt b hb)).1,fun z=>?_,.inl hb,fun x c e=>h5 x c (ag x c e),fun p hp=>absurd (show p ∈ ([]:List (Addr × Obj)) from hp) (by simp)⟩
    rcases List.mem_cons.mp (I.jv b z) with z | z
    · exact h2 z
    · exact h3 z
  have fin:∀ {τ : St} {H':Hp} {s':Shared},Inv Xb [] τ H' s'->Q (.ref s.heap.objs.size) H'->RR (.ref s.heap.objs.size) G2.objs.size (.ok .next) s':=fun {τ H' s'} Jb q=>by
    subst hXb
    obtain⟨m,hn,_⟩:=Jb.loc
    refine hRR _ _ H' s' m (I.sO (ch:=fp) Jb.os Jb.base Jb.aP Jb.bare fun b hb=>?_) hn Jb.free hCle q
    obtain⟨h1,h2,h3,h4,h5,h6⟩:=hfp b hb
    exact⟨h4,h2,h5,h6⟩
  have loop:∀ tk,codeAny (model X.prog X.w) X.A (.compLoop (.DictComp kx vx [⟨tg,iter,ifs,0⟩] scope pos) 0 (.ref it) (.ref s.heap.objs.size) (compEnvC scope (fX X.env.cells scope.names []) G2.objs.size X.env))
        (RR (.ref s.heap.objs.size) G2.objs.size) { s with heap:=h₁,toks:=tk }:=by
    intro tk
    refine kc (fun n s'=>∃ i ys τ H',Inv Xb [] τ H' s'/\tn i s'.heap/\(∀ b ∈ fp,H' b=none)/\W i n ys τ H') ?_ m0 ⟨0,[],_,_,Ib tk,T.keep _ _ _ st fun b hb o e=>old b o e,fun b hb=>?_,w0⟩
    · rintro n s3 ⟨i,ys,τ,H3,I3,st3,fr3,w3⟩
      have htg':=htg G2.objs.size fp s H
      have hct':=hct G2.objs.size fp s H
      have htk':=htk G2.objs.size fp s H
      have htv':=htv G2.objs.size fp s H
      rw [hXb] at htg' hct' htk' htv'
      have eP:Xb.prog=X.prog:=by subst hXb;rfl
      have ew:Xb.w=X.w:=by subst hXb;rfl
      have eK:Xb.K=X.K:=by subst hXb;rfl
      have eA:Xb.A=X.A:=by subst hXb;rfl
      have ec:Xb.calm=true:=by subst hXb;exact hc
      have ee:Xb.env=compEnvC scope (fX X.env.cells scope.names []) G2.objs.size X.env:=by subst hXb;rfl
      have ex:Xb.xe=fun _ _=>False:=by subst hXb;rfl
      rw [<-eP,<-ew,<-eA,<-ee]
      obtain⟨ha,hl,turn'⟩:=turn i n ys τ H3 w3
      rcases turn' with ⟨stop,q⟩ | ⟨go,N,hN,step⟩
      · have hd:=T.done Xb eP ew eK ec i [] s3 τ H3 (fun _ _=>False) I3 (fpB fr3) st3 stop
        rw [<-eP,<-ew] at hd
        refine wpAny_mono hd (fun r s4 hr4=>?_) fun _ _ z=>z
        obtain⟨hr,I4⟩:=hr4
        subst hr
        exact fin I4 q
      · have hd:=T.item Xb eP ew eK ec i [] s3 τ H3 (fun _ _=>False) I3 (fpB fr3) st3 go
        rw [<-eP,<-ew] at hd
        refine wpAny_mono hd (fun r s4 hr4=>?_) fun _ _ z=>z
        obtain⟨u,hr,h4⟩:=hr4
        subst hr
        refine wpAny_mono h4 (fun _ s5 ⟨x,H5,I5,r5,y5,st5,fr5⟩=>?_) fun _ _ z=>z
        have I5':=I5.pinned (fpB fr5) (T.obj _ _ st5)
        have keepT:∀ {σ7:St} {H7:Hp} {s7:Shared},Inv Xb ([] ++ ic fp s5.heap) σ7 H7 s7->tn (i+1) s7.heap/\∀ b ∈ fp,H7 b=none:=fun {σ7 H7 s7} I7=>by
          refine⟨T.keep _ _ _ st5 fun b hb o e=>(I7.pin (b,o) (List.mem_append_right _ (List.mem_append_right _ (cK hb e)))).1,fun b hb=>?_⟩
          obtain⟨o,e,d⟩:=T.obj _ _ st5 b hb
          exact (I7.pin (b,o) (List.mem_append_right _ (List.mem_append_right _ (cK hb e)))).2.1
        refine wpAny_mono (htg' _ s5 τ H5 x u _ I5' r5 (step x H5 y5)) (fun _ s6 ⟨τ6,H6,I6,q6⟩=>?_) (fun _ _ z=>by rw [ex] at z;exact z)
        refine wpAny_mono (hct' _ s6 τ6 H6 _ I6 q6) (fun ok s7 ⟨H7,I7,q7⟩=>?_) (fun _ _ z=>by rw [ex] at z;exact z)
        cases ok with
        | false =>
          have q7':N ys τ6 H7:=by rw [if_neg (by simp)] at q7;exact q7
          rw [if_neg (by simp)]
          obtain⟨m',hm,w7⟩:=hN _ _ _ q7'
          exact⟨m',hm,i+1,ys,τ6,H7,I7.dA,(keepT I7).1,(keepT I7).2,w7⟩
        | true =>
          rw [if_pos rfl] at q7 ⊢
          refine wpAny_mono (htk' _ s7 τ6 H7 _ I7 q7) (fun kv s8 ⟨x8,H8,I8,r8,q8⟩=>?_) (fun _ _ z=>by rw [ex] at z;exact z)
          refine wpAny_mono (htv' _ s8 τ6 H8 _ I8 q8) (fun v s9 ⟨y,H9,I9,r9,k,ek,ha9,n9⟩=>?_) (fun _ _ z=>by rw [ex] at z;exact z)
          subst ek
          obtain⟨z,hd,vs,rel,dd⟩:=o5 I9.aP ha9
          have hz:vs.length<=sizeLine:=by rw [<-rel.length];exact z
          have hl9:(putK ys k y).length<=sizeLine:=by have:=cx ys k y;omega
          refine wpAny_dictSet_pairs (hsz:=hz) (mV r8) dd fun h' dd' hs=>?_
          have he:∃ q,h'.get? s.heap.objs.size=some q:=let ⟨q,_,_,hq,_⟩:=dd';⟨q,hq⟩
          have I10:=fun tk=>nJ (t':=tk) I9 (by rw [ha9];exact True.intro) hs he (jE hl9 hd (rel.put k r9) dd')
          obtain⟨m',hm,w8⟩:=hN _ _ _ n9
          exact⟨m',hm,i+1,_,τ6,_,(I10 (s9.toks+1)).dA,(keepT (I10 (s9.toks+1))).1,(keepT (I10 (s9.toks+1))).2,w8⟩
    · rw [af (Nat.ne_of_lt (hlt b hb))]
      exact (hfp b hb).1
  exact codeAny_compStart_dict (loop _) (T.self _ 0 _ _ _ (T.keep _ _ _ st fun b hb o e=>old b o e) (loop _))
theorem xa {tg kx vx iter:Expr} {ifs:List Expr} {scope:Scope} {wi:TI} {g:TG} {ct:TT} {tk tv:TE} (ts fr:List Str) (js:List Nat)
  (hc:X.calm=true) (hi:PI X tg iter wi) (hkind:scope.kind=.function) (hcell:∀ y ∈ scope.names,y.2 ≠ .cell) (hnames:∀ y ∈ scope.names,y.2=.local->scope.names.lookup y.1=some .local)
  (hfree0:∀ y ∈ scope.names,y.2=.free->y.1 ∈ fr) (hfr:fu X scope fr js)
  (htg:∀ C fp s₁ H₁,PG (bW X scope C (ts++fr) fp s₁ H₁) tg g) (hct:∀ C fp s₁ H₁,ky (bW X scope C (ts++fr) fp s₁ H₁) ifs ct) (htk:∀ C fp s₁ H₁,PE (bW X scope C (ts++fr) fp s₁ H₁) kx tk) (htv:∀ C fp s₁ H₁,PE (bW X scope C (ts++fr) fp s₁ H₁) vx tv)
  (hs:∀ x,foldedSetIterable iter X.env x=pure x:=by intro _;rfl):PE X (.DictComp kx vx [⟨tg,iter,ifs,0⟩] scope pos) (BS ts.length js wi g ct tk tv):=by
 have hfree:∀ y ∈ scope.names,y.2=.free->X.env.kindOf y.1=some .cell\/X.env.kindOf y.1=some .free:=fun y hy e=>hfr.mem (hfree0 y hy e)
 intro pins s σ H Q I h
 rw [arm_eval_DictComp]
 refine wpAny_comprehension_free (use:=none) rfl hs (iC fun y hy e=>I.ok.has y.1 (hfree y hy e)) hkind hnames (aU (hi pins s σ H _ I h) fun xv s1 h1=>aU h1 fun itv s2 h2=>?_)
 obtain⟨it,fp,tn,J,H2,e,I2,T,st2,f2,hW⟩:=h2
 subst e
 refine yH (RR:=fun acc C=>compPost (model X.prog X.w) X.A X.xe none (EP X pins σ Q) acc C) hc hkind hcell hfree hfr htg hct htk htv I2 T st2 f2 hW ?_
 intro acc C H' s' m I' hn hC hle q
 exact⟨m,hn,fun h' hsb=>⟨.ref acc,H',I2.mT I' hC hle hsb,rfl,q⟩⟩
end
theorem yI {K:PySem.W.Frag} {a acc:Addr} {xs:List V} {n:Nat} {js:List Nat} {g:TG} {ct:TT} {tk tv:TE} {σ : St} {H1:Hp} {Q:VK} (Pv:Nat->List (Key × V)->St->Hp->Prop) (h0:Pv 0 [] (fq n js σ) (upd H1 acc (.dK [])))
  (hl:∀ i ys τ H,i<=xs.length->Pv i ys τ H->aM K H a xs/\H acc=some (.dK ys)/\ys.length < sizeLine)
  (hs:∀ i x ys τ H,xs[i]? = some x->Pv i ys τ H->g x τ H fun τ1 H4=>ct τ1 H4 fun b H5=>if b=true then tk τ1 H5 fun x1 H6=>tv τ1 H6 fun y H7=>∃ k,x1=kV k/\H7 acc=some (.dK ys)/\Pv (i+1) (putK ys k y) τ1 (upd H7 acc (.dK (putK ys k y))) else Pv (i+1) ys τ1 H5)
  (hd:∀ ys τ H,Pv xs.length ys τ H->Q (.ref acc) H) :
  zW (pH K a) n js g ct tk tv acc σ H1 Q:=by
 refine⟨fun i m ys τ H=>m=xs.length - i/\i<=xs.length/\Pv i ys τ H,⟨xs.length,by simp,Nat.zero_le _,h0⟩,?_⟩
 rintro i m ys τ H ⟨rfl,hi,p⟩
 obtain⟨q,q2,q3⟩:=hl i ys τ H hi p
 refine⟨q2,q3,?_⟩
 by_cases hlt:i < xs.length
 ·refine .inr ⟨⟨xs,xs[i],q,by simp [hlt]⟩,Pv (i+1),fun ys' τ' H' p'=>⟨xs.length - (i+1),by omega,rfl,hlt,p'⟩,fun x H' y=>?_⟩
  obtain⟨e,y⟩:=y
  subst e
  exact hs i x ys τ _ (y xs q) p
 ·have e:i=xs.length:=by omega
  subst e
  exact .inl ⟨⟨xs,q,Nat.le_refl _⟩,hd ys τ H p⟩
section
variable {prog:Program} {w:World} {A:Around} {E:Value->Shared->Prop} {s:Shared}
theorem oM (hh:A.handled=none) (it l:Addr) (hne:l ≠ it) (its:Array Value):Draws prog w A it [it,l] its.size (fun i v=>its[i]? = some v) (fun i h=>h.IsTupleIter it l i/\h.IsTuple l its) where
 live:=fun _ _ st=>let ⟨o,ho,_⟩:=st.1;⟨o,ho⟩
 frame:=fun _ _ _ st hk=>⟨st.1.at fun o e=>hk it (by simp) o e,gx st.2 fun o e=>hk l (by simp) o e⟩
 item:=fun i s Q E hi st hQ=>m7 st.1 st.2 (x:=its[i]) (by simp [hi]) fun g gi sb=>hQ _ g s.toks (by simp [hi]) ⟨gi,gx st.2 fun o e=>sb.extBut _ _ hne e⟩ sb
 done:=fun s Q E st hE=>nV hh st.1 st.2 (by simp) hE
abbrev xS (h:Heap) (l:Addr):Heap:=h.push { cls:=.type "tuple_iterator",data:=.fields #[.ref l,.int 0 0] }
abbrev AS (h:Heap) (l:Addr):Heap:=(xS h l).push { cls:=.type "enumerate",data:=.fields #[.none,.bool false,.ref h.objs.size,rawInt 0,.none,.none] }
theorem zX (l:Addr) (its:Array Value):Meets (Builtin.«enumerate.__new__» ⟨[.type "enumerate",.ref l],[]⟩) (fun _ R s=>s.heap.IsTuple l its/\R (.ok (.ret (.ref (xS s.heap l).objs.size))) { s with heap:=AS s.heap l }) :=
 .of_wp fun P w' A' R' s' hh=>by
  obtain⟨hp,g,d,tk,os⟩:=s'
  obtain⟨gl,hh⟩:=hh
  have hsub:=sub_enumerate
  have la:Heap.IsTuple (Shared.heap ⟨hp,g,d,tk,os⟩) l its:=gl
  obtain⟨ol,el,cl,kl,dl⟩:=id gl
  wp_walk using AutoSeq1.wpAny_loadPart' el
  refine wpAny_stack_any fun st=>wpAny_pure ?_
  split
  ·rename_i c _ _ _ _ _
   cases (c == Value.type "enumerate")
   ·wp_walk using AutoSeq1.wpAny_loadPart' el,wpAny_pyIter_tuple la
    exact⟨_,rfl,hh⟩
   ·wp_walk using AutoSeq1.wpAny_loadPart' el,wpAny_pyIter_tuple la
    exact⟨_,rfl,hh⟩
  ·wp_walk using AutoSeq1.wpAny_loadPart' el,wpAny_pyIter_tuple la
   exact⟨_,rfl,hh⟩
theorem yJ {l:Addr} {its:Array Value} {Q:Value->Shared->Prop} (hL:s.heap.IsTuple l its)
  (h:∀ g,IsEnum g (s.heap.objs.size+1) s.heap.objs.size 0 .none->g.IsTupleIter s.heap.objs.size l 0->(∀ b o,s.heap.get? b=some o->g.get? b=some o)->Q (.ref (s.heap.objs.size+1)) { s with heap:=g }) :
  wpAny (model prog w) A (call (.type "enumerate") [.ref l]) Q E s:=by
 refine callType_new F.called_enumerate (by decide) (F.typeCall_enumerate_1 _) (F.newCall_enumerate_1 _) (fun obj=>F.args_object_init_2 obj _) F.entry_enumerate_new (zX l its) ⟨hL,?_⟩
 have hz:(xS s.heap l).objs.size=s.heap.objs.size+1:=Heap.size_push ..
 have he:IsEnum (AS s.heap l) (xS s.heap l).objs.size s.heap.objs.size 0 .none:=Heap.get?_push_size _ rfl
 show _/\_
 rw [hz] at he ⊢
 exact⟨⟨_,he,rfl⟩,h _ he ⟨_,Heap.get?_push_of_some _ (Heap.get?_push_size _ rfl),rfl,rfl⟩ fun b o x=>Heap.get?_push_of_some _ (Heap.get?_push_of_some _ x)⟩
end
def lQ (Sq:Hp->Addr->List V->Prop) (a:Addr):It :=
 ⟨fun i H=>∃ xs x,Sq H a xs/\xs[i]? = some x,
  fun i H v H'=>∃ t x,v=.ref t/\H t=none/\H' = upd H t (.tup [.int (i:Nat),x])/\∀ xs,Sq H a xs->xs[i]? = some x,
  fun i H=>∃ xs,Sq H a xs/\xs.length=i⟩
section
variable {X:Cx} {pins:List (Addr × Obj)} {σ : List (Option V)} {H:Hp} {s:Shared}
theorem sC {a e it:Addr} {n i:Nat} {x:V} {Pv:Nat->Value->Prop} {St:Nat->Heap->Prop} {E:Value->Shared->Prop} {elts:List Expr} {kk:Nat} {pos:Pos}
  (D:Draws X.prog X.w X.A.in1 it [it,a] n Pv St) (I:Inv X pins σ H s) (hf:∀ b ∈ [e,it],fi X pins H b) (he:∃ old,IsEnum s.heap e it i old) (hst:St i s.heap) (hlt:i < n) (hne:e ≠ it) (hea:e ≠ a) (hx:∀ v,Pv i v->RelV x v) :
  wpAny (model X.prog X.w) X.A (pyNext (.ref e)) (fun r s1=>∃ u,r=some u /\
   wpAny (model X.prog X.w) X.A (letOwnedTupleGo (.Tuple elts kk pos) (.ref e) u) (fun _ s2=>∃ v H',Inv X pins σ H' s2/\RelV v u/\(∃ t,v=.ref t/\H t=none/\H' = upd H t (.tup [.int (i:Nat),x]))/\((∃ old,IsEnum s2.heap e it (i+1:Nat) old)/\St (i+1) s2.heap)/\∀ b ∈ [e,it],H' b=none) E s1) E s:=by
 obtain⟨old,he⟩:=he
 have lite:it < s.heap.objs.size:=by obtain⟨_,y⟩:=D.live _ _ hst;exact Heap.lt_size y
 have lee:e < s.heap.objs.size:=Heap.lt_size he
 have sz:∀ c ∈ [e,it],c ≠ s.heap.objs.size:=fun c hc z=>by
  subst z
  simp only [List.mem_cons,List.not_mem_nil,or_false] at hc
  rcases hc with z | z
  ·rw [<-z] at lee;exact absurd lee (Nat.lt_irrefl _)
  ·rw [<-z] at lite;exact absurd lite (Nat.lt_irrefl _)
 refine wpAny_pyNext_enum_itemD D he hst hlt hne (by simp only [List.mem_cons,List.not_mem_nil,or_false,not_or];exact⟨hne,hea⟩) fun xv h' tk px ho hs' hT hsz hk=>?_
 refine⟨.ref s.heap.objs.size,rfl,wpAny_letOwnedTupleGo_enum ho fun g' ge sb=>?_⟩
 have fr:=I.aP.fresh (a:=s.heap.objs.size) (Nat.le_refl _)
 have I1:Inv X pins σ (upd H s.heap.objs.size (.tup [.int (i:Nat),x])) { s with heap:=s.heap.push { cls:=.type "tuple",data:=.seq #[.int i tk,xv] },toks:=tk+1 } :=
  I.laid (fun _ _ e=>Heap.get?_push_of_some _ e) (Nat.le_refl _) ⟨by show 2<=sizeLine;decide,[.int i tk,xv],.cons ⟨tk,rfl⟩ (.cons (hx xv px) .nil),by first | exact IsTup.new _ _ | exact⟨_,Heap.get?_push_size _ rfl,rfl,_,rfl,rfl⟩⟩
 have f1:∀ c ∈ [e,it],fi X pins (upd H s.heap.objs.size (.tup [.int (i:Nat),x])) c:=fun c hc=>by
  obtain⟨f0,fr'⟩:=hf c hc
  exact⟨by rw [af (sz c hc)];exact f0,fr'⟩
 have I2:Inv X pins σ (upd H s.heap.objs.size (.tup [.int (i:Nat),x])) { s with heap:=g',toks:=tk+1 }:=Inv.jJ (s:={ s with heap:=s.heap.push { cls:=.type "tuple",data:=.seq #[.int i tk,xv] },toks:=tk+1 }) (fp:=[e,it]) (h':=g') (t':=tk+1) I1 (fun c o hc q=>by
  simp only [List.mem_cons,List.not_mem_nil,or_false,not_or] at hc
  refine sb.extBut _ _ hc.1 ?_
  rcases Heap.get?_push_cases q with ⟨rfl,rfl⟩ | q
  ·exact hT
  ·exact hk c o hc.1 hc.2 q) f1
 refine⟨.ref s.heap.objs.size,_,I2,rfl,⟨_,rfl,fr,rfl⟩,⟨⟨xv,by simpa using ge⟩,D.frame _ _ _ hs' fun b hb o q=>(sb.2 b fun z=>?_).trans q⟩,fun c hc=>(f1 c hc).1⟩
 subst z
 simp only [List.mem_cons,List.not_mem_nil,or_false] at hb
 exact hb.elim hne hea
theorem tW {P:Program} {w:World} {K:PySem.W.Frag} {elts:List Expr} {kk:Nat} {pos:Pos} (a e it:Addr) (hne:e ≠ it) (hea:e ≠ a) (hia:a ≠ it) :
  Turn P w K (.Tuple elts kk pos) (lQ (av K) a) [e,it] e (fun i h=>(∃ old,IsEnum h e it (i:Nat) old)/\h.IsTupleIter it a i) where
 mem:=by simp
 obj:=fun i h st c hc=>by
  obtain⟨⟨old,ge⟩,⟨oj,ej,cj,dj⟩⟩:=st
  simp only [List.mem_cons,List.not_mem_nil,or_false] at hc
  rcases hc with rfl | rfl
  ·exact⟨_,ge,fun v e=>by cases e⟩
  ·exact⟨oj,ej,fun v e=>by rw [dj] at e;cases e⟩
 keep:=fun i h g st kp=>by
  obtain⟨⟨old,ge⟩,⟨oj,ej,rj⟩⟩:=st
  exact⟨⟨old,kp e (by simp) _ ge⟩,⟨oj,kp it (by simp) _ ej,rj⟩⟩
 item:=by
  intro X hP hw hK hc i pins s σ H E I hf st hg
  subst hP hw hK
  obtain⟨xs,x,ha,hx⟩:=hg
  obtain⟨is,ra,pa,_⟩:=I.tuple ha
  have la:=ra.length
  have hil:i < is.toArray.size:=by have:=(List.getElem?_eq_some_iff.mp hx).1;simp;omega
  refine wpAny_mono (sC (elts:=elts) (kk:=kk) (pos:=pos) (oM (A:=X.A.in1) (I.ok.hd hc) it a hia is.toArray) I hf st.1 ⟨st.2,show s.heap.IsTuple a is.toArray from pa⟩ hil hne hea (x:=x) (fun v hv=>?_)) (fun r s1 hr=>?_) fun _ _ z=>z
  ·obtain⟨u,hu,ru⟩:=ra.get hx
   have:is[i]? = some v:=by simpa using hv
   rw [hu] at this
   cases this
   exact ru
  ·obtain⟨u,e1,hgo⟩:=hr
   refine⟨u,e1,wpAny_mono hgo (fun _ s2 ⟨v,H',I',rv,⟨t,e2,ht,e3⟩,⟨g1,g2⟩,g3⟩=>⟨v,H',I',rv,⟨t,x,e2,ht,e3,fun xs' h1=>by rw [I.ia h1 ha];exact hx⟩,⟨g1,g2.1⟩,g3⟩) fun _ _ z=>z⟩
 done:=by
  intro X hP hw hK hc i pins s σ H E I hf st hg
  subst hP hw hK
  obtain⟨xs,ha,hl⟩:=hg
  obtain⟨is,ra,pa,_⟩:=I.tuple ha
  obtain⟨⟨old,ge⟩,gi⟩:=st
  have la:=ra.length
  have hsz:is.toArray.size=i:=by simp;omega
  refine wpAny_pyNext_enum_endD (oM (A:=X.A.in1) (I.ok.hd hc) it a hia is.toArray) ge ⟨by rw [hsz];exact gi,show s.heap.IsTuple a is.toArray from pa⟩ fun h' eb=>⟨rfl,I.jJ (fp:=[e,it]) (t':=s.toks) (fun c o hc q=>?_) hf⟩
  simp only [List.mem_cons,List.not_mem_nil,or_false,not_or] at hc
  exact eb c o hc.2 q
 self:=fun _ _ _ _ _ st h=>wpAny_pyIter_enum st.1.choose_spec h
theorem tX {P:Program} {w:World} {K:PySem.W.Frag} {elts:List Expr} {kk:Nat} {pos:Pos} (a e it:Addr) (hne:e ≠ it) (hea:e ≠ a) (hia:a ≠ it) :
  Turn P w K (.Tuple elts kk pos) (lQ (aM K) a) [e,it] e (fun i h=>(∃ old,IsEnum h e it (i:Nat) old)/\h.IsListIter it a i) where
 mem:=by simp
 obj:=fun i h st c hc=>by
  obtain⟨⟨old,ge⟩,⟨oj,ej,cj,dj⟩⟩:=st
  simp only [List.mem_cons,List.not_mem_nil,or_false] at hc
  rcases hc with rfl | rfl
  ·exact⟨_,ge,fun v e=>by cases e⟩
  ·exact⟨oj,ej,fun v e=>by rw [dj] at e;cases e⟩
 keep:=fun i h g st kp=>by
  obtain⟨⟨old,ge⟩,⟨oj,ej,rj⟩⟩:=st
  exact⟨⟨old,kp e (by simp) _ ge⟩,⟨oj,kp it (by simp) _ ej,rj⟩⟩
 item:=by
  intro X hP hw hK hc i pins s σ H E I hf st hg
  subst hP hw hK
  obtain⟨xs,x,ha,hx⟩:=hg
  obtain⟨is,ra,pa,_⟩:=I.list ha
  have la:=ra.length
  have hil:i < is.toArray.size:=by have:=(List.getElem?_eq_some_iff.mp hx).1;simp;omega
  refine wpAny_mono (sC (elts:=elts) (kk:=kk) (pos:=pos) (Draws.list (A:=X.A.in1) (I.ok.hd hc) it a hia is.toArray) I hf st.1 ⟨st.2,pa.isList⟩ hil hne hea (x:=x) (fun v hv=>?_)) (fun r s1 hr=>?_) fun _ _ z=>z
  ·obtain⟨u,hu,ru⟩:=ra.get hx
   have:is[i]? = some v:=by simpa using hv
   rw [hu] at this
   cases this
   exact ru
  ·obtain⟨u,e1,hgo⟩:=hr
   refine⟨u,e1,wpAny_mono hgo (fun _ s2 ⟨v,H',I',rv,⟨t,e2,ht,e3⟩,⟨g1,g2⟩,g3⟩=>⟨v,H',I',rv,⟨t,x,e2,ht,e3,fun xs' h1=>by rw [I.pD h1 ha];exact hx⟩,⟨g1,g2.1⟩,g3⟩) fun _ _ z=>z⟩
 done:=by
  intro X hP hw hK hc i pins s σ H E I hf st hg
  subst hP hw hK
  obtain⟨xs,ha,hl⟩:=hg
  obtain⟨is,ra,pa,_⟩:=I.list ha
  obtain⟨⟨old,ge⟩,gi⟩:=st
  have la:=ra.length
  have hsz:is.toArray.size=i:=by simp;omega
  refine wpAny_pyNext_enum_endD (Draws.list (A:=X.A.in1) (I.ok.hd hc) it a hia is.toArray) ge ⟨by rw [hsz];exact gi,pa.isList⟩ fun h' eb=>⟨rfl,I.jJ (fp:=[e,it]) (t':=s.toks) (fun c o hc q=>?_) hf⟩
  simp only [List.mem_cons,List.not_mem_nil,or_false,not_or] at hc
  exact eb c o hc.2 q
 self:=fun _ _ _ _ _ st h=>wpAny_pyIter_enum st.1.choose_spec h
theorem qC:bootBuiltins "enumerate" = some (.type "enumerate"):=by decide +kernel
def AB (K:PySem.W.Frag) (ta:TA):TI:=fun σ H R=>ta σ H fun vs H1=>∃ a,vs = [.ref a]/\((∃ xs,av K H1 a xs)/\R (lQ (av K) a) H1\/(∃ xs,aM K H1 a xs)/\R (lQ (aM K) a) H1)
theorem sD {a:Expr} {ta:TA} {p pos tp:Pos} {elts:List Expr} {kk:Nat} (hg:Gl X "enumerate") (hm:X.mg "enumerate" = none) (ha:PA X [a] ta) (hs:starEach [a] X.env = [(false,eval a X.env)]:=by rfl) :
  PI X (.Tuple elts kk tp) (.Call (.Name "enumerate" p) [a] [] pos) (AB X.K ta):=by
 intro pins s σ H R I h
 refine Call_ (jx I hg hm qC (PyProof.Rows.callWith_type1 (aU (ha pos pins s σ H _ I h) fun us s1 ⟨vs,H1,I1,r1,q1⟩=>?_) hs rfl))
 obtain⟨x,e,q⟩:=q1
 subst e
 cases r1 with
 | cons r rr =>
  cases rr
  cases r
  have le1:∀ c ∈ [s1.heap.objs.size+1,s1.heap.objs.size],s1.heap.objs.size<=c:=fun c hc=>by
   simp only [List.mem_cons,List.not_mem_nil,or_false] at hc
   rcases hc with rfl | rfl
   ·exact Nat.le_succ _
   ·exact Nat.le_refl _
  rcases q with ⟨⟨xs,hx⟩,q⟩ | ⟨⟨xs,hx⟩,q⟩
  ·obtain⟨is,rx,px,_⟩:=I1.tuple hx
   have lx:x < s1.heap.objs.size:=px.lt
   refine yJ (show s1.heap.IsTuple x is.toArray from px) fun g ge gi up=>?_
   refine wpAny_pyIter_enum ge ?_
   have I2:Inv X pins σ H1 { s1 with heap:=g }:=I1.kept (t':=s1.toks) up
   exact⟨_,[s1.heap.objs.size+1,s1.heap.objs.size],_,lQ (av X.K) x,H1,rfl,I2,tW x _ _ (Nat.ne_of_gt (Nat.lt_succ_self _)) (Nat.ne_of_gt (Nat.lt_succ_of_lt lx)) (Nat.ne_of_lt lx),⟨⟨_,ge⟩,gi⟩,fun c hc=>I1.iQ (le1 c hc) (I1.aP.fresh (le1 c hc)),q⟩
  ·obtain⟨is,rx,px,_⟩:=I1.list hx
   have lx:x < s1.heap.objs.size:=by obtain⟨o,eo,_⟩:=px.isList;exact Heap.lt_size eo
   refine call_enumerate_list px.isList fun g ge gi _ up=>?_
   refine wpAny_pyIter_enum ge ?_
   have I2:Inv X pins σ H1 { s1 with heap:=g }:=I1.kept (t':=s1.toks) up
   exact⟨_,[s1.heap.objs.size+1,s1.heap.objs.size],_,lQ (aM X.K) x,H1,rfl,I2,tX x _ _ (Nat.ne_of_gt (Nat.lt_succ_self _)) (Nat.ne_of_gt (Nat.lt_succ_of_lt lx)) (Nat.ne_of_lt lx),⟨⟨_,ge⟩,gi⟩,fun c hc=>I1.iQ (le1 c hc) (I1.aP.fresh (le1 c hc)),q⟩
end
theorem xb {Sq:Hp->Addr->List V->Prop} {a:Addr} {xs:List V} {g:TG} {tb:TS} {D:Ends} {σ : St} {H:Hp} (Pv:Nat->St->Hp->Prop) (h0:Pv 0 σ H) (hl:∀ i σ H,i<=xs.length->Pv i σ H->Sq H a xs)
  (hs:∀ i x σ H t,xs[i]? = some x->H t=none->Pv i σ H->g (.ref t) σ (upd H t (.tup [.int (i:Nat),x])) fun σ2 H2=>tb { D with nx:=Pv (i+1),ct:=Pv (i+1),bk:=D.nx } σ2 H2) (hd:∀ σ H,Pv xs.length σ H->D.nx σ H) :
  ∃ W:Nat->Nat->St->Hp->Prop,(∃ m,W 0 m σ H)/\∀ i m σ H,W i m σ H ->
   ((lQ Sq a).stop i H/\D.nx σ H)\/((lQ Sq a).go i H/\∃ N:St->Hp->Prop,(∀ σ' H',N σ' H'->∃ m',m' < m/\W (i+1) m' σ' H')/\∀ x H',(lQ Sq a).ki i H x H'->g x σ H' fun σ2 H2=>tb { D with nx:=N,ct:=N,bk:=D.nx } σ2 H2):=by
 refine⟨fun i m σ H=>m=xs.length - i/\i<=xs.length/\Pv i σ H,⟨xs.length,by simp,Nat.zero_le _,h0⟩,?_⟩
 rintro i m σ H ⟨rfl,hi,p⟩
 have q:=hl i σ H hi p
 by_cases hlt:i < xs.length
 ·refine .inr ⟨⟨xs,xs[i],q,by simp [hlt]⟩,Pv (i+1),fun σ' H' p'=>⟨xs.length - (i+1),by omega,rfl,hlt,p'⟩,fun v H' y=>?_⟩
  obtain⟨t,x,rfl,ht,rfl,h⟩:=y
  exact hs i x σ H t (h xs q) ht p
 ·have e:i=xs.length:=by omega
  subst e
  exact .inl ⟨⟨xs,q,rfl⟩,hd σ H p⟩
def oS:Option Str->V
 | none=>.bx
 | some y=>.str y
def gM (f:Str->Option Str) (x:Str) (o:Option Str):Str->Option Str:=fun z=>if z=x then o else f z
def mq (f:Str->Option Str):aW->Str->Option Str
 | .put x _=>gM f x none
 | .copy x y=>gM f x (f y)
 | .add _ _=>f
 | .read x=>gM f x none
 | .tell _=>f
def gN (f:Str->Option Str):aW->List (Option Str)
 | .tell x=>[f x]
 | _=>[]
def lR (S:(Str->Option Str) × List (Option Str)) (d:aW):(Str->Option Str) × List (Option Str):=(mq S.1 d,S.2++gN S.1 d)
def de (ds:List aW):(Str->Option Str) × List (Option Str):=ds.foldl lR (some,[])
def d9 (ds:List aW):Str->Option Str:=(de ds).1
def fj (p:Piece):List Str:=((de p.1).2++(cz p.2).map (d9 p.1)).filterMap id
theorem i8 (ds:List aW) (d:aW):de (ds ++ [d])=lR (de ds) d:=by unfold de;rw [List.foldl_append];rfl
def SrcAt (kvs:List (Key × V)) (f:Str->Option Str):Prop:=∀ x:Str,(dh kvs (Sum.inr x:Key)).getD (.str x)=oS (f x)
theorem SrcAt.nil:SrcAt [] some:=fun x=>rfl
theorem SrcAt.put {kvs:List (Key × V)} {f:Str->Option Str} (h:SrcAt kvs f) (x:Str) (o:Option Str):SrcAt (putK kvs (Sum.inr x) (oS o)) (gM f x o):=fun z=>by
 rw [p6]
 unfold gM
 by_cases e:z=x
 ·rw [if_pos (by rw [e]),if_pos e];rfl
 ·rw [if_neg (fun q=>e (Sum.inr.inj q)),if_neg e];exact h z
def jh:Sp:=fun vs H Q _=>∃ (ea:Addr) (e:End),vs = [.ref ea]/\H ea=some (.tup (i5 e))/\∀ l H',H' l=some (.lst ((cz e).map V.str))->H l=none->ao H H'->Q (.ref l) H'
def mr:Sp:=fun vs H Q _=>∃ (pc da ea:Addr) (ws:List V) (ds:List aW) (e:End),vs = [.ref pc]/\H pc=some (.tup [.ref da,.ref ea])/\H da=some (.tup ws)/\aV H ws (ds.map bH)/\H ea=some (.tup (i5 e))/\ds.length<=500 /\
 ∀ t d l kvs H',H' t=some (.tup [.ref d,.ref l])->H' d=some (.dK kvs)->SrcAt kvs (d9 ds)->H' l=some (.lst ((fj (ds,e)).map V.str))->H t=none->H d=none->H l=none->ao H H'->Q (.ref t) H'
theorem fB {α : Type} {P:List α->Prop} (h0:P []) (h1:∀ l x,P l->P (l ++ [x])) (l:List α):P l:=by
 have:∀ m:List α,P m.reverse:=fun m=>by
  induction m with
  | nil=>exact h0
  | cons x r ih=>rw [List.reverse_cons];exact h1 _ _ ih
 have:=this l.reverse
 rwa [List.reverse_reverse] at this
theorem nY (ds:List aW):(de ds).2.length<=ds.length:=by
 refine fB (P:=fun ds=>(de ds).2.length<=ds.length) (Nat.le_refl _) (fun l d ih=>?_) ds
 show (de (l ++ [d])).2.length<=(l ++ [d]).length
 rw [i8]
 unfold lR
 have:(gN (de l).1 d).length<=1:=by cases d <;> simp [gN]
 simp only [List.length_append,List.length_cons,List.length_nil]
 have ih:(de l).2.length<=l.length:=ih
 omega
theorem xc {ds:List aW} {i:Nat} {d:aW} (h:ds[i]? = some d):de (ds.take (i+1))=lR (de (ds.take i)) d:=by
 rw [List.take_add_one,h]
 exact i8 _ _
theorem qD (ds:List aW) (i:Nat):(de (ds.take i)).2.length<=i:=Nat.le_trans (nY _) (by rw [List.length_take];exact Nat.min_le_left _ _)
structure fm (H:Hp) (l:Addr) (rs:List Addr) (os:List HO):Prop where
 lst:H l=some (.lst (rs.map V.ref))
 at_:∀ (k:Nat) (r:Addr) (o:HO),rs[k]? = some r->os[k]? = some o->H r=some o
 len:rs.length=os.length
 nd:rs.Nodup
 out:l ∉ rs
theorem fm.same {H H':Hp} {l:Addr} {rs:List Addr} {os:List HO} (T:fm H l rs os) (s:ao H H'):fm H' l rs os:=⟨s _ _ T.lst,fun k r o h1 h2=>s _ _ (T.at_ k r o h1 h2),T.len,T.nd,T.out⟩
theorem fm.get {H:Hp} {l:Addr} {rs:List Addr} {os:List HO} (T:fm H l rs os) {k:Nat} {o:HO} (h:os[k]? = some o):∃ r,rs[k]? = some r/\H r=some o/\(rs.map V.ref)[k]? = some (.ref r):=by
 have hk:k < rs.length:=by rw [T.len];exact (List.getElem?_eq_some_iff.mp h).1
 have hr:rs[k]? = some rs[k]:=by simp [hk]
 exact⟨_,hr,T.at_ k _ o hr h,by rw [List.getElem?_map,hr];rfl⟩
theorem fm.put {H:Hp} {l:Addr} {rs:List Addr} {os:List HO} (T:fm H l rs os) {k:Nat} {r:Addr} {o':HO} (hk:rs[k]? = some r):fm (upd H r o') l rs (os.set k o'):=by
  have hr:r ∈ rs:=List.mem_of_getElem? hk
  refine⟨by rw [af (show l ≠ r from fun z=>T.out (by rw [z];exact hr))];exact T.lst,fun j r' o h1 h2=>?_,by rw [List.length_set];exact T.len,T.nd,T.out⟩
  by_cases e:j=k
  · subst e
    rw [hk] at h1
    cases h1
    have hj:j < os.length:=by rw [<-T.len];exact (List.getElem?_eq_some_iff.mp hk).1
    rw [List.getElem?_set_self hj] at h2
    cases h2
    exact aa
  · rw [List.getElem?_set_ne (Ne.symm e)] at h2
    have hne:r' ≠ r:=fun z=>e (by
      subst z
      exact (List.getElem?_inj (List.getElem?_eq_some_iff.mp h1).1 T.nd).mp (h1.trans hk.symm))
    rw [af hne]
    exact T.at_ j r' o h1 h2
def Back (ps:List Piece) (n:Nat) (k:Nat) (b:List Nat):Prop:=b.length<=2 * n/\∀ a,a ∈ b ↔ a < n/\∃ p,ps[a]? = some p/\k ∈ cC p.2
def oN (b:List Nat):HO:=.lst (vN b)
def qE:Sp:=fun vs H Q _=>∃ (plv:V) (ps:List Piece),vs = [plv]/\aY H plv (cG ps)/\cy ps/\ps.length<=1000 /\
 ∀ (l:Addr) (rs:List Addr) (bs:List (List Nat)) H',fm H' l rs (bs.map oN)->bs.length=ps.length->(∀ (k:Nat) (b:List Nat),bs[k]? = some b->Back ps ps.length k b)->H l=none->(∀ r ∈ rs,H r=none)->ao H H'->Q (.ref l) H'
theorem ji (e:End):(cC e).length<=2:=by cases e <;> simp [cC]
theorem qF {ps:List Piece} (hin:cy ps) {i:Nat} {ds:List aW} {e:End} (h:ps[i]? = some (ds,e)):∀ k ∈ cC e,k < ps.length:=fun k hk=>by
 have h1:=hin _ (List.mem_of_getElem? h)
 cases e with
 | stop=>cases hk
 | go p=>rw [List.mem_singleton.mp hk];exact h1
 | dD b x n p q =>
  rcases List.mem_cons.mp hk with z | z
  ·rw [z];exact h1.1
  ·rw [List.mem_singleton.mp z];exact h1.2
inductive fJ (ps:List Piece):Nat->Str->Prop
 | ask {k:Nat} {p:Piece} {x:Str} (h:ps[k]? = some p) (hx:x ∈ fj p):fJ ps k x
 | back {k a:Nat} {p:Piece} {x y:Str} (h:fJ ps k x) (hp:ps[a]? = some p) (hk:k ∈ cC p.2) (hy:d9 p.1 x=some y):fJ ps a y
def iy (F:List (List Str)) (k:Nat) (x:Str):Prop:=∃ xs,F[k]? = some xs/\x ∈ xs
def Cl (ps:List Piece) (F:List (List Str)) (k:Nat) (x:Str):Prop:=∀ (a:Nat) (p:Piece),ps[a]? = some p->k ∈ cC p.2->∀ y,d9 p.1 x=some y->iy F a y
structure i9 (ps:List Piece) (F:List (List Str)) (W:List (Nat × Str)) (ex:Nat->Str->Prop):Prop where
 len:F.length=ps.length
 ng:∀ (k:Nat) (xs:List Str),F[k]? = some xs->xs.Nodup/\∀ x ∈ xs,fJ ps k x
 ask:∀ (k:Nat) (p:Piece),ps[k]? = some p->∀ x ∈ fj p,iy F k x
 wt:∀ q ∈ W,iy F q.1 q.2
 cl:∀ k x,iy F k x->(k,x) ∈ W\/ex k x\/Cl ps F k x
def ja (F:List (List Str)):Nat:=(F.map List.length).sum
theorem jK {F:List (List Str)} {a:Nat} {xs:List Str} {y:Str} (h:F[a]? = some xs) (k:Nat) (x:Str):iy (F.set a (xs ++ [y])) k x ↔ iy F k x\/(k=a/\x=y):=by
 have ha:a < F.length:=(List.getElem?_eq_some_iff.mp h).1
 unfold iy
 by_cases e:k=a
 ·subst e
  rw [List.getElem?_set_self ha,h]
  constructor
  ·rintro⟨z,hz,hx⟩
   cases hz
   rcases List.mem_append.mp hx with q | q
   ·exact .inl ⟨_,rfl,q⟩
   ·exact .inr ⟨rfl,List.mem_singleton.mp q⟩
  ·rintro (⟨z,hz,hx⟩ | ⟨_,rfl⟩)
   ·cases hz;exact⟨_,rfl,List.mem_append_left _ hx⟩
   ·exact⟨_,rfl,by simp⟩
 ·rw [List.getElem?_set_ne (Ne.symm e)]
  constructor
  ·exact .inl
  ·rintro (q | ⟨q,_⟩)
   ·exact q
   ·exact absurd q e
theorem Cl.mono {ps:List Piece} {F F':List (List Str)} {k:Nat} {x:Str} (m:∀ a y,iy F a y->iy F' a y) (h:Cl ps F k x):Cl ps F' k x:=fun a p hp hk y hy=>m _ _ (h a p hp hk y hy)
theorem sum_set {F:List (List Str)} {a:Nat} {xs:List Str} {y:Str} (h:F[a]? = some xs):ja (F.set a (xs ++ [y]))=ja F+1:=by
 induction F generalizing a with
 | nil=>simp at h
 | cons z r ih =>
  cases a with
  | zero =>
   simp at h
   subst h
   simp [ja]
   omega
  | succ a =>
   have:=ih (a:=a) (by simpa using h)
   simp [ja] at this ⊢
   omega
theorem i9.add {ps:List Piece} {F:List (List Str)} {W:List (Nat × Str)} {ex:Nat->Str->Prop} (I:i9 ps F W ex) {a:Nat} {xs:List Str} {y:Str} (h:F[a]? = some xs) (hy:y ∉ xs) (hl:fJ ps a y):i9 ps (F.set a (xs ++ [y])) (W ++ [(a,y)]) ex:=by
 have m:∀ k x,iy F k x->iy (F.set a (xs ++ [y])) k x:=fun k x q=>(jK h k x).mpr (.inl q)
 have ha:a < F.length:=(List.getElem?_eq_some_iff.mp h).1
 refine⟨by rw [List.length_set];exact I.len,fun k zs hz=>?_,fun k p hp x hx=>m _ _ (I.ask k p hp x hx),fun q hq=>?_,fun k x hx=>?_⟩
 ·by_cases e:k=a
  ·subst e
   rw [List.getElem?_set_self ha] at hz
   cases hz
   obtain⟨n1,n2⟩:=I.ng k xs h
   refine⟨?_,fun x hx=>?_⟩
   ·rw [List.nodup_append]
    exact⟨n1,by simp,fun u hu v hv z=>hy (by rw [List.mem_singleton] at hv;rw [<-hv,<-z];exact hu)⟩
   ·rcases List.mem_append.mp hx with q | q
    ·exact n2 x q
    ·rw [List.mem_singleton.mp q];exact hl
  ·rw [List.getElem?_set_ne (Ne.symm e)] at hz
   exact I.ng k zs hz
 ·rcases List.mem_append.mp hq with q | q
  ·exact m _ _ (I.wt _ q)
  ·rw [List.mem_singleton.mp q];exact (jK h a y).mpr (.inr ⟨rfl,rfl⟩)
 ·rcases (jK h k x).mp hx with q | ⟨rfl,rfl⟩
  ·rcases I.cl k x q with c | c | c
   ·exact .inl (List.mem_append_left _ c)
   ·exact .inr (.inl c)
   ·exact .inr (.inr (c.mono m))
  ·exact .inl (by simp)
theorem i9.pop {ps:List Piece} {F:List (List Str)} {W:List (Nat × Str)} {k:Nat} {x:Str} (I:i9 ps F (W ++ [(k,x)]) fun _ _=>False):i9 ps F W fun k' x'=>k' = k/\x' = x :=
 ⟨I.len,I.ng,I.ask,fun q hq=>I.wt q (List.mem_append_left _ hq),fun k' x' h=>by
  rcases I.cl k' x' h with c | c | c
  ·rcases List.mem_append.mp c with c | c
   ·exact .inl c
   ·have:=List.mem_singleton.mp c
    cases this
    exact .inr (.inl ⟨rfl,rfl⟩)
  ·exact c.elim
  ·exact .inr (.inr c)⟩
theorem i9.close {ps:List Piece} {F:List (List Str)} {W:List (Nat × Str)} {k:Nat} {x:Str} (I:i9 ps F W fun k' x'=>k' = k/\x' = x) (h:Cl ps F k x):i9 ps F W fun _ _=>False :=
 ⟨I.len,I.ng,I.ask,I.wt,fun k' x' q=>by
  rcases I.cl k' x' q with c | ⟨rfl,rfl⟩ | c
  ·exact .inl c
  ·exact .inr (.inr h)
  ·exact .inr (.inr c)⟩
theorem i9.is {ps:List Piece} {F:List (List Str)} (I:i9 ps F [] fun _ _=>False) (k:Nat) (x:Str):iy F k x ↔ fJ ps k x:=by
 constructor
 ·rintro⟨xs,h1,h2⟩;exact (I.ng k xs h1).2 x h2
 ·intro h
  induction h with
  | ask hp hx=>exact I.ask _ _ hp _ hx
  | back h hp hk hy ih =>
   rcases I.cl _ _ ih with c | c | c
   ·cases c
   ·exact c.elim
   ·exact c _ _ hp hk _ hy
def jX (H:Hp) (no:Addr) (tt:Addr) (pc:Piece):Prop:=∃ (d al:Addr) (kvs:List (Key × V)),H tt=some (.tup [.ref d,.ref al])/\H d=some (.dK kvs)/\SrcAt kvs (d9 pc.1)/\H al=some (.lst ((fj pc).map V.str))/\al ≠ no
theorem jX.same {H H':Hp} {no tt:Addr} {pc:Piece} (h:jX H no tt pc) (s:ao H H'):jX H' no tt pc:=let ⟨d,al,kvs,a,b,c,e,f⟩:=h;⟨d,al,kvs,s _ _ a,s _ _ b,c,s _ _ e,f⟩
theorem jX.acc {H:Hp} {no tt:Addr} {pc:Piece} {xs:List V} (h:jX H no tt pc) (hn:H no=some (.lst xs)) (ys:List V):jX (upd H no (.lst ys)) no tt pc:=by
 obtain⟨d,al,kvs,a,b,c,e,f⟩:=h
 refine⟨d,al,kvs,?_,?_,c,?_,f⟩
 ·rw [af (bI a hn (by intro z;cases z))];exact a
 ·rw [af (bI b hn (by intro z;cases z))];exact b
 ·rw [af f];exact e
def kS (xs:List Str):List (Key × V):=xs.map fun x=>(Sum.inr x,.bl true)
def oK (xs:List Str):HO:=.dK (kS xs)
def ix (xs:List Str) (x:Str):List Str:=if x ∈ xs then xs else xs ++ [x]
def gO (l:List Str):List Str:=l.foldl ix []
theorem nh (xs:List Str):(kS xs).length=xs.length:=List.length_map ..
theorem vz (xs:List Str) (x:Str):(dh (kS xs) (Sum.inr x:Key)).isSome=decide (x ∈ xs):=by
 induction xs with
 | nil=>rfl
 | cons y r ih =>
  show (dh ((Sum.inr y,V.bl true) :: kS r) (Sum.inr x:Key)).isSome=_
  by_cases e:y=x
  ·subst e
   rw [cX rfl]
   simp
  ·rw [cY (fun z:(Sum.inr y:Key)=Sum.inr x=>e (Sum.inr.inj z)),ih]
   simp [Ne.symm e]
theorem zY (xs:List Str) (x:Str):((kS xs).any fun kv=>decide (kv.1=Sum.inr x))=decide (x ∈ xs):=by
 rw [Bool.eq_iff_iff]
 simp [kS]
theorem vA (xs:List Str) (x:Str):putK (kS xs) (Sum.inr x) (.bl true)=kS (ix xs x):=by
 unfold putK ix
 rw [zY]
 by_cases h:x ∈ xs
 ·rw [if_pos (by simpa using h),if_pos h]
  unfold kS
  rw [List.map_map]
  refine List.map_congr_left fun y _=>?_
  show (if (Sum.inr y:Key)=Sum.inr x then ((Sum.inr y:Key),V.bl true) else (Sum.inr y,V.bl true))=_
  split <;> rfl
 ·rw [if_neg (by simpa using h),if_neg h]
  simp [kS]
theorem xf {xs:List Str} {x z:Str}:z ∈ ix xs x ↔ z ∈ xs\/z=x:=by
 unfold ix
 split
 ·rename_i h
  exact⟨.inl,fun q=>q.elim id fun e=>e ▸ h⟩
 ·simp
theorem yK {xs:List Str} {x:Str} (h:xs.Nodup):(ix xs x).Nodup:=by
 unfold ix
 split
 ·exact h
 ·rename_i hx
  rw [List.nodup_append]
  exact⟨h,by simp,fun u hu v hv z=>hx (by rw [List.mem_singleton] at hv;rw [<-hv,<-z];exact hu)⟩
theorem xg (xs:List Str) (x:Str):(ix xs x).length<=xs.length+1:=by unfold ix;split <;> simp
theorem jY (l:List Str) (x:Str):gO (l ++ [x])=ix (gO l) x:=by unfold gO;rw [List.foldl_append];rfl
theorem sE (l:List Str) (z:Str):z ∈ gO l ↔ z ∈ l:=by
 refine fB (P:=fun l=>z ∈ gO l ↔ z ∈ l) (by simp [gO]) (fun l x ih=>?_) l
 rw [jY,xf,ih]
 simp
theorem zZ (l:List Str):(gO l).Nodup:=fB (P:=fun l=>(gO l).Nodup) (by simp [gO]) (fun l x ih=>by rw [jY];exact yK ih) l
theorem sF (l:List Str):(gO l).length<=l.length:=fB (P:=fun l=>(gO l).length<=l.length) (by simp [gO]) (fun l x ih=>by
  rw [jY,List.length_append]
  exact Nat.le_trans (xg _ _) (Nat.succ_le_succ ih)) l
theorem qG (p:Piece):(fj p).length<=p.1.length+1:=by
 unfold fj
 refine Nat.le_trans (List.length_filterMap_le _ _) ?_
 rw [List.length_append,List.length_map]
 have h1:=nY p.1
 have h2:(cz p.2).length<=1:=by cases p.2 <;> simp [cz]
 omega
theorem qH {pool:List Str} (ds:List aW):(∀ d ∈ ds,iZ pool d)->(∀ x y,x ∈ pool->(de ds).1 x=some y->y ∈ pool)/\∀ y,some y ∈ (de ds).2->y ∈ pool:=by
 refine fB (P:=fun ds=>(∀ d ∈ ds,iZ pool d)->(∀ x y,x ∈ pool->(de ds).1 x=some y->y ∈ pool)/\∀ y,some y ∈ (de ds).2->y ∈ pool) ?_ (fun l d ih h=>?_) ds
 ·intro _
  exact⟨fun x y hx e=>by cases e;exact hx,fun y h=>nomatch h⟩
 ·obtain⟨i1,i2⟩:=ih fun d hd=>h d (List.mem_append_left _ hd)
  have hd:=h d (by simp)
  rw [i8]
  unfold lR
  refine⟨fun x y hx e=>?_,fun y hy=>?_⟩
  ·cases d with
   | put z n =>
    have e:gM (de l).1 z none x=some y:=e
    unfold gM at e
    split at e
    ·cases e
    ·exact i1 x y hx e
   | copy z z2 =>
    have e:gM (de l).1 z ((de l).1 z2) x=some y:=e
    unfold gM at e
    split at e
    ·exact i1 z2 y hd.2 e
    ·exact i1 x y hx e
   | add z n=>exact i1 x y hx e
   | read z =>
    have e:gM (de l).1 z none x=some y:=e
    unfold gM at e
    split at e
    ·cases e
    ·exact i1 x y hx e
   | tell z=>exact i1 x y hx e
  ·rcases List.mem_append.mp hy with q | q
   ·exact i2 y q
   ·cases d with
    | tell z =>
     have:=List.mem_singleton.mp (show some y ∈ [(de l).1 z] from q)
     exact i1 z y hd this.symm
    | put z n=>cases q
    | copy z z2=>cases q
    | add z n=>cases q
    | read z=>cases q
theorem jj {pool:List Str} {m:Nat} {ps:List Piece} (ok:i3 pool m ps) {k:Nat} {x:Str} (h:fJ ps k x):x ∈ pool:=by
 induction h with
 | @ask k p x hp hx =>
  have hm:=List.mem_of_getElem? hp
  have hd:=qH p.1 (ok.hX p hm).2
  obtain⟨o,ho,e⟩:=List.mem_filterMap.mp hx
  cases (show o=some x from e)
  rcases List.mem_append.mp ho with q | q
  ·exact hd.2 x q
  ·obtain⟨z,hz,ez⟩:=List.mem_map.mp q
   have he:=ok.ends p hm
   refine hd.1 z x ?_ ez
   cases hpe:p.2 with
   | stop=>rw [hpe] at hz;cases hz
   | go _=>rw [hpe] at hz;cases hz
   | dD b y n p1 p2 =>
    rw [hpe] at hz he
    rw [List.mem_singleton.mp hz]
    exact he.1
 | @back k a p x y h hp hk hy ih=>exact (qH p.1 (ok.hX p (List.mem_of_getElem? hp)).2).1 x y ih hy
theorem o7 {l:List Str}:∀ {m:List Str},l.Nodup->(∀ x ∈ l,x ∈ m)->l.length<=m.length:=by
 induction l with
 | nil=>intro m _ _;exact Nat.zero_le _
 | cons x r ih =>
  intro m nd h
  rw [List.nodup_cons] at nd
  have hx:=h x List.mem_cons_self
  have:=ih (m:=m.erase x) nd.2 fun y hy=>(List.mem_erase_of_ne (show y ≠ x from fun z=>nd.1 (by rw [<-z];exact hy))).mpr (h y (List.mem_cons_of_mem _ hy))
  rw [List.length_erase_of_mem hx] at this
  have h0:0 < m.length:=List.length_pos_of_mem hx
  simp only [List.length_cons]
  omega
theorem z5 {F:List (List Str)} {n:Nat} (h:∀ xs ∈ F,xs.length<=n):ja F<=F.length * n:=by
 induction F with
 | nil=>simp [ja]
 | cons x r ih =>
  have h1:=h x List.mem_cons_self
  have h2:=ih fun xs hx=>h xs (List.mem_cons_of_mem _ hx)
  simp [ja] at h2 ⊢
  rw [Nat.succ_mul]
  omega
def AD (L:List (List Str)):PyData:=.tuple (L.map fun xs=>.tuple (xs.map PyData.str))
def qI:Sp:=fun vs H Q _=>∃ (plv:V) (ps:List Piece) (pool:List Str) (m:Nat),vs = [plv]/\aY H plv (cG ps)/\i3 pool m ps/\m<=500/\pool.length < 64/\ps.length<=400 /\
 ∀ v (L:List (List Str)) H',aY H' v (AD L)->L.length=ps.length->(∀ (k:Nat) (xs:List Str),L[k]? = some xs->sortedS xs=true/\xs.Nodup/\∀ x,x ∈ xs ↔ fJ ps k x)->ao H H'->Q v H'
theorem yL {Sq:Hp->Addr->List V->Prop} {a acc:Addr} {xs:List V} {n:Nat} {js:List Nat} {g:TG} {ct:TT} {tm:TM} {σ : St} {H1:Hp} {Q:VK} (Pv:Nat->List V->St->Hp->Prop) (h0:Pv 0 [] (fq n js σ) (upd H1 acc (.lst [])))
  (hl:∀ i zs τ H,i<=xs.length->Pv i zs τ H->Sq H a xs)
  (hs:∀ i x zs τ H t,xs[i]? = some x->H t=none->Pv i zs τ H->g (.ref t) τ (upd H t (.tup [.int (i:Nat),x])) fun τ1 H4=>ct τ1 H4 fun b H5=>if b=true then tm acc zs τ1 H5 (Pv (i+1)) else Pv (i+1) zs τ1 H5)
  (hd:∀ zs τ H,Pv xs.length zs τ H->Q (.ref acc) H) :
  zV (lQ Sq a) n js g ct tm acc σ H1 Q:=by
 refine⟨fun i m zs τ H=>m=xs.length - i/\i<=xs.length/\Pv i zs τ H,⟨xs.length,by simp,Nat.zero_le _,h0⟩,?_⟩
 rintro i m ys τ H ⟨rfl,hi,p⟩
 have q:=hl i ys τ H hi p
 by_cases hlt:i < xs.length
 ·refine .inr ⟨⟨xs,xs[i],q,by simp [hlt]⟩,Pv (i+1),fun ys' τ' H' p'=>⟨xs.length - (i+1),by omega,rfl,hlt,p'⟩,fun v H' y=>?_⟩
  obtain⟨t,x,rfl,ht,rfl,h⟩:=y
  exact hs i x ys τ H t (h xs q) ht p
 ·have e:i=xs.length:=by omega
  subst e
  exact .inl ⟨⟨xs,q,rfl⟩,hd ys τ H p⟩
section
variable {X:Cx} {K:PySem.W.Frag}
theorem xh {tg l:Expr} {tl:TE} (hK:X.K=K) (hl:PE X l tl):PI X tg l (xD K tl):=by
 subst hK
 exact iH hl
def z6 (K:PySem.W.Frag):List V->Hp->VK->Prop:=fun xs H Q=>∃ p ys,xs = [.ref p]/\((aM K H p ys/\∀ l,H l=none->Q (.ref l) (upd H l (.tup ys)))\/(av K H p ys/\Q (.ref p) H))
theorem nZ (hK:X.K=K):fZ X (.type "tuple") (z6 K):=by
 subst hK
 exact cc
end
def eZ (H:Hp) (wts:List Addr) (W:List (Nat × Str)):Prop:=Paired (fun a q=>H a=some (.tup [.int (q.1:Nat),.str q.2])) wts W
theorem eZ.keep {H H':Hp} (s:∀ c ys,H c=some (.tup ys)->H' c=some (.tup ys)):∀ {wts:List Addr} {W:List (Nat × Str)},eZ H wts W->eZ H' wts W
 | _,_,.nil=>.nil
 | _,_,.cons h t=>.cons (s _ _ h) (eZ.keep s t)
theorem eZ.len {H:Hp}:∀ {wts:List Addr} {W:List (Nat × Str)},eZ H wts W->wts.length=W.length
 | _,_,.nil=>rfl
 | _,_,.cons _ t=>by simp [eZ.len t]
theorem eZ.snoc_inv {H:Hp}:∀ {W:List (Nat × Str)} {wts:List Addr} {q:Nat × Str},eZ H wts (W ++ [q])->∃ ws w,wts=ws ++ [w]/\eZ H ws W/\H w=some (.tup [.int (q.1:Nat),.str q.2])
 | [],_,_,.cons h .nil=>⟨[],_,rfl,.nil,h⟩
 | _ :: W,_,_,.cons h t=>by
  obtain⟨ws,w,rfl,a,b⟩:=eZ.snoc_inv (W:=W) t
  exact⟨_ :: ws,w,rfl,.cons h a,b⟩
def F0 (ps:List Piece):List (List Str):=ps.map fun pc=>gO (fj pc)
theorem tY {ps:List Piece} {k:Nat} {p:Piece} (h:ps[k]? = some p):(F0 ps)[k]? = some (gO (fj p)):=by unfold F0;rw [List.getElem?_map,h];rfl
theorem z7 {ps:List Piece} {W:List (Nat × Str)} (hW:∀ q:Nat × Str,q ∈ W ↔ iy (F0 ps) q.1 q.2):i9 ps (F0 ps) W fun _ _=>False:=by
 refine⟨by simp [F0],fun k xs h=>?_,fun k p hp x hx=>⟨_,tY hp,(sE _ _).mpr hx⟩,fun q hq=>(hW q).mp hq,fun k x h=>.inl ((hW (k,x)).mpr h)⟩
 unfold F0 at h
 rw [List.getElem?_map] at h
 cases hk:ps[k]? with
 | none=>rw [hk] at h;cases h
 | some p =>
  rw [hk] at h
  cases h
  exact⟨zZ _,fun x hx=>.ask hk ((sE _ _).mp hx)⟩
theorem eZ.snoc {H:Hp} {w:Addr} {q:Nat × Str} (e:H w=some (.tup [.int (q.1:Nat),.str q.2])):∀ {wts:List Addr} {W:List (Nat × Str)},eZ H wts W->eZ H (wts ++ [w]) (W ++ [q])
 | _,_,.nil=>.cons e .nil
 | _,_,.cons h t=>.cons h (eZ.snoc e t)
theorem qJ (H:Hp):∀ xs:List Str,aV H (xs.map V.str) (xs.map PyData.str)
 | []=>.nil
 | x :: r=>.cons (.str x) (qJ H r)
theorem lS:∀ xs:List Str,cf (xs.map PyData.str)=true
 | []=>rfl
 | x :: r=>lS r
theorem jq (L:List (List Str)):cf (L.map fun xs=>PyData.tuple (xs.map PyData.str))=true:=by
 induction L with
 | nil=>rfl
 | cons x r ih =>
  show (cf (x.map PyData.str) && cf (r.map fun xs=>PyData.tuple (xs.map PyData.str)))=true
  rw [lS,ih];rfl
theorem yM (xs:List Str):(kS xs).map (·.1)=xs.map Sum.inr:=by unfold kS;rw [List.map_map];rfl
theorem mw {α β : Type} {f g:α->Option β}:∀ {l:List α},(∀ x ∈ l,f x=g x)->l.filterMap f=l.filterMap g
 | [],_=>rfl
 | x :: r,h=>by
  rw [List.filterMap_cons,List.filterMap_cons,h x List.mem_cons_self,mw fun y hy=>h y (List.mem_cons_of_mem _ hy)]
theorem xi {α : Type} (xs:List α):(List.range xs.length).filterMap (fun k=>xs[xs.length - 1 - k]?)=xs.reverse:=by
 refine fB (P:=fun xs=>(List.range xs.length).filterMap (fun k=>xs[xs.length - 1 - k]?)=xs.reverse) rfl (fun l x ih=>?_) xs
 show (List.range (l ++ [x]).length).filterMap (fun k=>(l ++ [x])[(l ++ [x]).length - 1 - k]?)=(l ++ [x]).reverse
 rw [List.length_append,List.length_singleton,List.range_succ_eq_map,List.filterMap_cons,List.filterMap_map,List.reverse_append]
 have e0:(l ++ [x])[l.length+1 - 1 - 0]? = some x:=by simp
 rw [e0]
 show x :: _=x :: l.reverse
 rw [<-ih]
 congr 1
 refine mw fun k hk=>?_
 have hk:k < l.length:=List.mem_range.mp hk
 show (l ++ [x])[l.length+1 - 1 - (k+1)]? = _
 rw [List.getElem?_append_left (by omega)]
 congr 1
 omega
theorem vB (n:Nat):sliceRange ((n:Int) - 1) (-1) (-1)=(List.range n).map fun k=>n - 1 - k:=by
 unfold sliceRange
 have h:¬ ((-1:Int) > 0):=by decide
 simp only [if_neg h]
 by_cases hn:n=0
 ·subst hn;rfl
 ·rw [if_pos (by omega)]
  have e:(((n:Int) - 1 - -1 - -1 - 1) / (- -1)).toNat=n:=by
   have:((n:Int) - 1 - -1 - -1 - 1)=n:=by omega
   rw [this]
   simp
  rw [e]
  refine List.map_congr_left fun k hk=>?_
  have hk:=List.mem_range.mp hk
  omega
theorem xj (items:Array Value):slicePick items none none (some (-1))=items.toList.reverse.toArray:=by
 unfold slicePick
 show ((sliceRange ((items.size:Int) - 1) (-1) (-1)).filterMap (items[·]?)).toArray=_
 rw [vB,List.filterMap_map,<-xi items.toList,Array.length_toList]
 congr 1
 refine mw fun k _=>?_
 show items[items.size - 1 - k]? = items.toList[items.size - 1 - k]?
 rw [Array.getElem?_toList]
theorem Vals.rev:∀ {xs:List V} {us:List Value},Vals xs us->Vals xs.reverse us.reverse
 | _,_,.nil=>.nil
 | _,_,.cons h t=>by
  rw [List.reverse_cons,List.reverse_cons]
  exact (Vals.rev t).append (.cons h .nil)
section
variable {X:Cx}
def AE (K:PySem.W.Frag) (te:TE) (ts:TO):TE:=fun σ H Q=>te σ H fun x H1=>ts σ H1 fun c H2=>c=some (-1)/\∃ l xs,x=.ref l/\aM K H2 l xs/\∀ p,H2 p=none->Q (.ref p) (upd H2 p (.lst xs.reverse))
theorem yN {e st:Expr} {te:TE} {ts:TO} {p2 pos:Pos} (he:PE X e te) (hs:PO X (some st) ts):PE X (.Subscript e (.Slice none none (some st) p2) pos) (AE X.K te ts):=by
 intro pins s σ H Q I h
 refine Subscript_ (aU (he pins s σ H _ I h) fun v s1 ⟨x,H1,I1,r1,q1⟩=>?_)
 refine wpAny_Slice ?_
 rw [evalPart_none]
 refine wpAny_pure (wpAny_pure (aU (hs pins s1 σ H1 _ I1 q1) fun vs s3 ⟨c,H3,I3,pc,q3⟩=>?_))
 obtain⟨rfl,l,xs,rfl,hS,q⟩:=q3
 cases r1
 have I4:Inv X pins σ H3 { s3 with heap:=s3.heap.push { cls:=.type "slice",data:=.fields #[.none,.none,vs] } }:=I3.kept (t':=s3.toks) fun b ob q=>Heap.get?_push_of_some _ q
 obtain⟨its,rv,pl,hz⟩:=I4.list hS
 have hl:=pl.isList
 have hzz:its.length<=sizeLine:=by rw [<-rv.length];exact hz
 show wpAny (model X.prog X.w) X.A (subscriptTail e (.Slice none none (some st) p2) (.ref l) (.ref s3.heap.objs.size)) (EP X pins σ Q) X.xe { s3 with heap:=s3.heap.push { cls:=.type "slice",data:=.fields #[.none,.none,vs] } }
 refine tail_any (ops:=[.ref l,.ref s3.heap.objs.size]) hl.typeIs list_getitem_lookup ?_ (by with_unfolding_all rfl)
 refine wpAny_getItem_list_slice hl (Heap.IsSliceOf.new ..) .none .none pc (by simp) ?_ (by simpa using hzz)
 rw [xj]
 refine⟨.ref _,_,I4.laid (t':=s3.toks) (o:=.lst xs.reverse) (fun b ob q=>Heap.get?_push_of_some _ q) (Nat.le_refl _) ?_,rfl,q _ (I4.aP.fresh (Nat.le_refl _))⟩
 exact⟨by rw [List.length_reverse];exact hz,its.reverse,_,rv.rev,Heap.get?_push_size _ rfl⟩
end
end L2
namespace LS
open PySem PySem.Spec PyProof.Rows L2
theorem fC:Slot "reversed" "__next__" "reversed.__next__" :=
  Slot.of (owner := "reversed") (n := "__next__")
    (by rw [typeLookup_type,builtinLookup_eq_fast]
        kernel_rfl)
    (by decide +kernel)
    (by decide +kernel)
    (by decide +kernel)
    (by first
      | exact .inl (by decide +kernel)
      | exact .inr (by decide +kernel))
    (by rw [isSubtype_type]
        kernel_rfl)
theorem j9:entryFor table "reversed.__next__" = some Builtin.«reversed.__next__» :=
 entryFor_of_tree (by kernel_rfl)
theorem qK:Manifest.owners.lookup (String.ofList ['d','e','s','r','e','v','e','r'].reverse)=some Manifest.sig_reversed:=by
 kernel_rfl
theorem kN (v:Value):argsOk "reversed.__next__" ⟨[v],[]⟩:=by
 unfold argsOk
 rw [signature?_of (id := "reversed.__next__") (n:=['_','_','t','x','e','n','_','_']) (o:=['d','e','s','r','e','v','e','r'])
  (by kernel_rfl) qK]
 kernel_rfl
theorem kO:Slot "reversed" "__iter__" "reversed.__iter__" :=
  Slot.of (owner := "reversed") (n := "__iter__")
    (by rw [typeLookup_type,builtinLookup_eq_fast]
        kernel_rfl)
    (by decide +kernel)
    (by decide +kernel)
    (by decide +kernel)
    (by first
      | exact .inl (by decide +kernel)
      | exact .inr (by decide +kernel))
    (by rw [isSubtype_type]
        kernel_rfl)
theorem qL (v:Value):argsOk "reversed.__iter__" ⟨[v],[]⟩:=by
 unfold argsOk
 rw [signature?_of (id := "reversed.__iter__") (n:=['_','_','r','e','t','i','_','_']) (o:=['d','e','s','r','e','v','e','r'])
  (by kernel_rfl) qK]
 kernel_rfl
theorem qM:entryFor table "reversed.__new__" = some Builtin.«reversed.__new__» :=
 entryFor_of_tree (by kernel_rfl)
theorem vC:mroOf (.type "reversed")=pure [.type "reversed",.type "object"]:=by
 rw [mroOf_type]
 kernel_rfl
theorem vD:typeLookup (.type "reversed") "__new__" = pure (some (.builtin "reversed.__new__")):=by
 rw [typeLookup_type,builtinLookup_eq_fast]
 kernel_rfl
theorem qN:Slot "reversed" "__init__" "object.__init__" :=
  Slot.of (owner := "object") (n := "__init__")
    (by rw [typeLookup_type,builtinLookup_eq_fast]
        kernel_rfl)
    (by decide +kernel)
    (by decide +kernel)
    (by decide +kernel)
    (by first
      | exact .inl (by decide +kernel)
      | exact .inr (by decide +kernel))
    (by rw [isSubtype_type]
        kernel_rfl)
theorem vE:isSubtype (.type "reversed") (.type "reversed")=pure true:=by
 rw [isSubtype_type]
 kernel_rfl
theorem vF:TypeCalled "reversed" "reversed.__new__" "object.__init__" :=
 ⟨by decide +kernel,by decide +kernel,⟨_,_,vC⟩,madeBy_type vC vD (by decide +kernel),by decide +kernel,vE,qN⟩
theorem rm (a:Value):checkTypeCall "reversed" ⟨[a],[]⟩=pure ():=by
 kernel_rfl
theorem tZ (a:Value):checkBuiltinCall "reversed.__new__" ⟨[.type "reversed",a],[]⟩=pure ():=by
 kernel_rfl
theorem yO:typeLookup (.type "tuple") "__reversed__" = pure none:=by
 rw [typeLookup_type,builtinLookup_eq_fast]
 kernel_rfl
theorem yP:isSubtype (.type "tuple") (.type "dict")=pure false:=by
 rw [isSubtype_type]
 kernel_rfl
theorem z8 (l:Addr) (its:Array Value):Meets (Builtin.«reversed.__new__» ⟨[.type "reversed",.ref l],[]⟩) (fun _ R s=>s.heap.IsTuple l its/\(its.size:Int) < 2 ^ 63/\R (.ok (.ret (.ref s.heap.objs.size))) { s with heap:=s.heap.push { cls:=.type "reversed",data:=.fields #[.ref l,rawInt (its.size - 1)] },toks:=s.toks+1+1 }) :=
 .of_wp fun P w' A' R' s' hh=>by
  obtain⟨hp,g,d,tk,os⟩:=s'
  obtain⟨gl,hfit,hh⟩:=hh
  have hsub:=vE
  have hno:=yO
  have la:Heap.IsTuple (Shared.heap ⟨hp,g,d,tk,os⟩) l its:=gl
  obtain⟨ol,el,cl,kl,dl⟩:=id gl
  have hT:Shared.TypeIs ⟨hp,g,d,tk,os⟩ (.ref l) "tuple" := ⟨ol,el,cl⟩
  have hdict:=yP
  have hgi:typeLookup (.type "tuple") (Str.ofString "__getitem__")=pure (some (.builtin "tuple.__getitem__")):=PyProof.Rows.slot_tuple_getitem.lookup
  have lb:IsTup (Shared.heap ⟨hp,g,d,tk,os⟩) l its:=⟨ol,el,cl,kl,dl⟩
  wp_walk using AutoSeq1.wpAny_loadPart' el,len_tuple lb hfit
  exact⟨_,rfl,hh⟩
theorem oU:entryFor table "reversed.__iter__" = some Builtin.«dict_keyiterator.__iter__» :=
 entryFor_alias (id' := "dict_keyiterator.__iter__")
  (by kernel_rfl) rfl
  (by decide +kernel)
  (by kernel_rfl)
def gc (h:Heap) (I l:Addr) (i:Int):Prop:=∃ o,h.get? I=some o/\o.cls=.type "reversed" /\ o.data=.fields #[.ref l,rawInt i]
theorem gc.type {s:Shared} {I l:Addr} {i:Int} (h:gc s.heap I l i):s.TypeIs (.ref I) "reversed" := let ⟨o,e,c,_⟩:=h;⟨o,e,c⟩
theorem gc.keep {h h':Heap} {I l:Addr} {i:Int} (x:gc h I l i) (k:∀ o,h.get? I=some o->h'.get? I=some o):gc h' I l i:=let ⟨o,e,c⟩:=x;⟨o,k _ e,c⟩
section
variable {prog:Program} {w:World} {A:Around} {E:Value->Shared->Prop} {s:Shared} {I l:Addr} {its:Array Value}
theorem yQ {Q:Value->Shared->Prop} (hL:s.heap.IsTuple l its) (hfit:(its.size:Int) < 2 ^ 63)
  (h:∀ g tk,gc g s.heap.objs.size l ((its.size:Int) - 1)->(∀ b o,s.heap.get? b=some o->g.get? b=some o)->Q (.ref s.heap.objs.size) { s with heap:=g,toks:=tk }) :
  wpAny (model prog w) A (call (.type "reversed") [.ref l]) Q E s:=by
 refine callType_new vF (by decide) (rm _) (tZ _) (fun obj=>F.args_object_init_2 obj _) qM (z8 l its) ⟨hL,hfit,?_⟩
 show _/\_
 exact⟨⟨_,Heap.get?_push_size _ rfl,rfl⟩,h _ _ ⟨_,Heap.get?_push_size _ rfl,rfl,rfl⟩ fun b o e=>Heap.get?_push_of_some _ e⟩
theorem sG {i:Int} {Q:Value->Shared->Prop} (hit:gc s.heap I l i) (q:Q (.ref I) s):wpAny (model prog w) A (pyIter (.ref I)) Q E s:=by
 refine wpAny_pyIter_slot hit.type kO (wpAny_call_entry kO hit.type oU ?_ (qL _))
 show wpAny _ _ (ret (.ref I)) _ _ s
 exact wpAny_pure ⟨_,rfl, "reversed",_,hit.type,fC.lookup,q⟩
end
section
variable {prog:Program} {w:World} {A:Around} {E:Value->Shared->Prop} {s:Shared} {I l:Addr} {its:Array Value}
theorem yR {i:Nat} {x:Value} {Q:Option Value->Shared->Prop} (hit:gc s.heap I l (i:Int)) (ht:IsTup s.heap l its) (hx:its[i]? = some x) (hfit:(its.size:Int) < 2 ^ 63)
  (q:∀ h' tk,gc h' I l ((i:Int) - 1)->Heap.SameBut I s.heap h'->Q (some x) { s with heap:=h',toks:=tk }):wpAny (model prog w) A (pyNext (.ref I)) Q E s:=by
 obtain⟨oI,ho,hc,hd⟩:=id hit
 have hlt:i < its.size:=(Array.getElem?_eq_some_iff.mp hx).1
 unfold pyNext
 refine wpAny_bind (wpAny_attempt (wpAny_callSpecial?_slot (name:=Str.ofString "__next__") hit.type fC (wpAny_call_entry fC hit.type j9 ?_ (kN _))))
 unfold Builtin.«reversed.__next__»
 refine wpAny_bind (wpAny_pure ?_)
 refine wpAny_bind (wpAny_field ho hd (x:=.ref l) rfl ?_)
 refine wpAny_bind (wpAny_field ho hd (x:=rawInt i) rfl ?_)
 dsimp only [rawInt]
 rw [if_neg (by omega)]
 refine wpAny_bind (wpAny_specialOf ht.typeIs PyProof.Rows.slot_tuple_getitem.lookup ?_)
 dsimp only [Option.isNone]
 rw [if_neg (by simp)]
 refine wpAny_bind (wpAny_mkInt ?_)
 have hj:seqIndex? (i:Int) its.size=some i:=by
  have h0:¬ ((i:Int) < 0):=by omega
  simp only [seqIndex?,if_neg h0]
  simp [hlt]
 refine wpAny_bind (wpAny_attempt (getItem_tuple (s:={ s with toks:=s.toks+1 }) ht (by omega) (by omega) hj hx ?_))
 dsimp only
 refine wpAny_bind (wpAny_field (s:={ s with toks:=s.toks+1 }) ho hd (x:=rawInt i) rfl ?_)
 dsimp only [rawInt]
 refine wpAny_bind (wpAny_setField (s:={ s with toks:=s.toks+1 }) ho hd (by simp) ?_)
 refine wpAny_pure ⟨_,rfl,wpAny_pure (q _ _ ⟨_,Heap.get?_update_self _ ho (Obj.isFreed_of_fields (Obj.data_mapFields hd _)),(Obj.cls_mapFields ..).trans hc,?_⟩ (Heap.SameBut.update ..))⟩
 rw [Obj.data_mapFields hd];simp [rawInt]
theorem yS {Q:Option Value->Shared->Prop} {s0:Shared} (hh:A.handled=none) (hk:∀ b o,b ≠ I->s0.heap.get? b=some o->s.heap.get? b=some o)
  (q:∀ h',(∀ b o,b ≠ I->s0.heap.get? b=some o->h'.get? b=some o)->Q none { s with heap:=h' }) :
  wpAny (model prog w) A.in1 (Builtin.SmallTypes.stopIteration:Sem Unit) (fun _ _=>False)
   (fun e s'=>wpAny (model prog w) A (isInstance e (.type "StopIteration") >>= fun b=>if b=true then pure none else throw e) Q E s') s:=by
 unfold Builtin.SmallTypes.stopIteration
 refine wpAny_bind ?_
 simp only [newExc,newTuple]
 refine wpAny_bind (wpAny_newObj_type ?_ (by size_fits))
 refine wpAny_bind (m:=firstArgMember _ _) (wpAny_of_eq (a:=Value.none) (by first | rfl | (simp only [firstArgMember];rfl)) ?_)
 refine wpAny_newObj_type ?_ (by size_fits)
 simp only [raiseNew]
 refine wpAny_bind (wpAny_handled ?_)
 rw [show A.in1.handled=none from hh]
 refine wpAny_bind (wpAny_pure (wpAny_throw ?_))
 refine wpAny_bind (wpAny_isInstance (T := "StopIteration") (b:=true) ⟨_,Heap.get?_push_size _ rfl,rfl⟩ isSubtype_stop ?_)
 exact wpAny_pure (q _ fun b o hb e=>Heap.get?_push_of_some _ (Heap.get?_push_of_some _ (hk b o hb e)))
theorem z9 {Q:Option Value->Shared->Prop} (hh:A.handled=none) (hit:gc s.heap I l (-1))
  (q:∀ h',(∀ b o,b ≠ I->s.heap.get? b=some o->h'.get? b=some o)->Q none { s with heap:=h' }):wpAny (model prog w) A (pyNext (.ref I)) Q E s:=by
 obtain⟨oI,ho,hc,hd⟩:=id hit
 unfold pyNext
 refine wpAny_bind (wpAny_attempt (wpAny_callSpecial?_slot (name:=Str.ofString "__next__") hit.type fC (wpAny_call_entry fC hit.type j9 ?_ (kN _))))
 unfold Builtin.«reversed.__next__»
 refine wpAny_bind (wpAny_pure ?_)
 refine wpAny_bind (wpAny_field ho hd (x:=.ref l) rfl ?_)
 refine wpAny_bind (wpAny_field ho hd (x:=rawInt (-1)) rfl ?_)
 dsimp only [rawInt]
 rw [if_pos (by decide)]
 refine wpAny_bind (wpAny_rule ?_)
 refine wpAny_bind ?_
 refine wpAny_bind (wpAny_setField ho hd (by simp) ?_)
 have d1:(Obj.mapFields (·.setIfInBounds 1 (rawInt (-1))) oI).data=.fields #[.ref l,rawInt (-1)]:=by rw [Obj.data_mapFields hd];simp [rawInt]
 have g1:=Heap.get?_update_self (Obj.mapFields (·.setIfInBounds 1 (rawInt (-1)))) ho (Obj.isFreed_of_fields (Obj.data_mapFields hd _))
 refine wpAny_setField g1 d1 (by simp) ?_
 refine wpAny_bind (wpAny_mono (yS (I:=I) (s0:=s) (E:=E) (Q:=Q) hh (fun b o hb e=>(Heap.get?_update_other _ _ (Ne.symm hb)).trans ((Heap.get?_update_other _ _ (Ne.symm hb)).trans e)) fun h' k=>q h' k) (fun _ _ z=>z.elim) fun e s' z=>z)
end
end LS
namespace L2
open PySem PySem.Spec PyProof.Rows
def sH (K:PySem.W.Frag) (a:Addr) (n:Nat):It :=
 ⟨fun i H=>∃ xs x,av K H a xs/\xs.length=n/\xs.reverse[i]? = some x,fun i H x H'=>H' = H/\∀ xs,av K H a xs->xs.reverse[i]? = some x,fun i _=>n=i⟩
theorem xk {P:Program} {w:World} {K:PySem.W.Frag} {tg:Expr} {n:Nat} (hn:(n:Int) < 2 ^ 63) (a it:Addr):Turn P w K tg (sH K a n) [it] it (fun i h=>LS.gc h it a ((n:Int) - 1 - i)) where
 mem:=by simp
 obj:=fun i h st b hb=>by
  have e:b=it:=by simpa using hb
  subst e
  obtain⟨o,e,c,d⟩:=st
  exact⟨o,e,fun v z=>by rw [d] at z;cases z⟩
 keep:=fun i h h' st k=>st.keep fun o e=>k it (by simp) o e
 item:=by
  intro X hP hw hK hc i pins s σ H E I hf st hg
  subst hP hw hK
  obtain⟨xs,x,hq,hl,hx⟩:=hg
  obtain⟨its,rv,p,hz⟩:=I.tuple hq
  have hi:i < n:=by
   have:=(List.getElem?_eq_some_iff.mp hx).1
   rw [List.length_reverse,hl] at this
   exact this
  have hx':xs[n - 1 - i]? = some x:=by
   rw [List.getElem?_reverse (by omega),hl] at hx
   exact hx
  obtain⟨u,hu,ru⟩:=rv.get hx'
  obtain⟨f0,f1,f2,f3,f4,f5⟩:=hf it (by simp)
  have hlen:its.length=n:=by rw [<-rv.length];exact hl
  have e1:((n:Int) - 1 - i)=((n - 1 - i:Nat):Int):=by omega
  rw [e1] at st
  obtain⟨ot,et,ct,kt,dt⟩:=id p
  refine LS.yR (its:=its.toArray) st ⟨ot,et,ct,kt,dt⟩ (x:=u) (by simpa using hu) (by simpa [hlen] using hn) fun h' tk st' sb=>?_
  have I1:Inv X pins σ H { s with heap:=h',toks:=tk }:=I.turned (t':=tk) (fun b o hb e=>(sb.2 b hb).trans e) f0 f1 f3 f4 f5
  have st2:LS.gc h' it a ((n:Int) - 1 - (i+1:Nat)):=by
   have e2:((n:Int) - 1 - (i+1:Nat))=((n - 1 - i:Nat):Int) - 1:=by omega
   rw [e2];exact st'
  obtain⟨o,e,c,d⟩:=id st'
  exact⟨u,rfl,mL (s:={ s with heap:=h',toks:=tk }) e c d (by decide) ⟨x,H,I1,ru,⟨rfl,fun ys hy=>by rw [I.ia hy hq];exact hx⟩,st2,fun b hb=>(hf b hb).1⟩⟩
 done:=by
  intro X hP hw hK hc i pins s σ H E I hf st hg
  subst hP hw hK
  have hg:n=i:=hg
  subst hg
  obtain⟨f0,f1,f2,f3,f4,f5⟩:=hf it (by simp)
  have e1:((n:Int) - 1 - n) = -1:=by omega
  rw [e1] at st
  exact LS.z9 (I.ok.hd hc) st fun h' eb=>⟨rfl,I.turned (t':=s.toks) (fun b o hb e=>eb b o hb e) f0 f1 f3 f4 f5⟩
 self:=fun _ _ _ _ _ st h=>LS.sG st h
theorem rn:bootBuiltins "reversed" = some (.type "reversed"):=by decide +kernel
def BB (K:PySem.W.Frag) (ta:TA):TI:=fun σ H R=>ta σ H fun vs H1=>∃ a xs,vs = [.ref a]/\av K H1 a xs/\R (sH K a xs.length) H1
section
variable {X:Cx}
theorem Aa {a tg:Expr} {ta:TA} {p pos:Pos} (hg:Gl X "reversed") (hm:X.mg "reversed" = none) (ha:PA X [a] ta) (hs:starEach [a] X.env = [(false,eval a X.env)]:=by rfl) :
  PI X tg (.Call (.Name "reversed" p) [a] [] pos) (BB X.K ta):=by
 intro pins s σ H R I h
 refine Call_ (jx I hg hm rn (PyProof.Rows.callWith_type1 (aU (ha pos pins s σ H _ I h) fun us s1 ⟨vs,H1,I1,r1,q1⟩=>?_) hs rfl))
 obtain⟨x,xs,e,hx,q⟩:=q1
 subst e
 cases r1 with
 | cons r rr =>
  cases rr
  cases r
  obtain⟨is,rx,px,hz⟩:=I1.tuple hx
  have hl:is.length=xs.length:=rx.length.symm
  have hb:(xs.length:Int) < 2 ^ 63:=by
   have:sizeLine < 2 ^ 62:=by decide
   omega
  refine LS.yQ (its:=is.toArray) px (by simpa [hl] using hb) fun g tk st up=>?_
  refine LS.sG (s:={ s1 with heap:=g,toks:=tk }) st ?_
  have I2:Inv X pins σ H1 { s1 with heap:=g,toks:=tk }:=I1.kept (t':=tk) up
  refine⟨_,[s1.heap.objs.size],_,sH X.K x xs.length,H1,rfl,I2,xk hb x _,?_,fun c hc=>?_,q⟩
  ·have e:((is.toArray.size:Int) - 1)=((xs.length:Int) - 1 - (0:Nat)):=by simp [hl]
   rw [<-e];exact st
  ·have e:c=s1.heap.objs.size:=by simpa using hc
   subst e
   exact I1.iQ (Nat.le_refl _) (I1.aP.fresh (Nat.le_refl _))
end
theorem yT {K:PySem.W.Frag} {a:Addr} {xs:List V} {g:TG} {tb:TS} {D:Ends} {σ : St} {H:Hp} (Pv:Nat->St->Hp->Prop) (h0:Pv 0 σ H) (hl:∀ i σ H,i<=xs.length->Pv i σ H->av K H a xs)
  (hs:∀ i x σ H,xs.reverse[i]? = some x->Pv i σ H->g x σ H fun σ2 H2=>tb { D with nx:=Pv (i+1),ct:=Pv (i+1),bk:=D.nx } σ2 H2) (hd:∀ σ H,Pv xs.length σ H->D.nx σ H) :
  ∃ W:Nat->Nat->St->Hp->Prop,(∃ m,W 0 m σ H)/\∀ i m σ H,W i m σ H ->
   ((sH K a xs.length).stop i H/\D.nx σ H)\/((sH K a xs.length).go i H/\∃ N:St->Hp->Prop,(∀ σ' H',N σ' H'->∃ m',m' < m/\W (i+1) m' σ' H')/\∀ x H',(sH K a xs.length).ki i H x H'->g x σ H' fun σ2 H2=>tb { D with nx:=N,ct:=N,bk:=D.nx } σ2 H2):=by
 refine⟨fun i m σ H=>m=xs.length - i/\i<=xs.length/\Pv i σ H,⟨xs.length,by simp,Nat.zero_le _,h0⟩,?_⟩
 rintro i m σ H ⟨rfl,hi,p⟩
 have q:=hl i σ H hi p
 by_cases hlt:i < xs.length
 ·have hr:i < xs.reverse.length:=by rw [List.length_reverse];exact hlt
  refine .inr ⟨⟨xs,xs.reverse[i],q,rfl,List.getElem?_eq_getElem hr⟩,Pv (i+1),fun σ' H' p'=>⟨xs.length - (i+1),by omega,rfl,hlt,p'⟩,fun x H' y=>?_⟩
  obtain⟨e,y⟩:=y
  subst e
  exact hs i x σ _ (y xs q) p
 ·have e:i=xs.length:=by omega
  subst e
  exact .inl ⟨rfl,hd σ H p⟩
end L2
namespace LS
open PySem PySem.Spec PyProof.Rows L2
theorem jZ {α : Type} (xs:Array α) (i:Nat):(SetTable.eraseAt xs i).toList=xs.toList.eraseIdx i:=by
 unfold SetTable.eraseAt
 rw [Array.toList_append,Array.toList_extract,Array.toList_extract,List.eraseIdx_eq_take_drop_succ]
 simp [List.extract_eq_take_drop,List.take_of_length_le]
theorem vG {α : Type} (xs:Array α) (i k:Nat):(SetTable.eraseAt xs i)[k]? = if k < i then xs[k]? else xs[k+1]?:=by
 rw [<-Array.getElem?_toList,jZ,List.getElem?_eraseIdx]
 simp
theorem Up.erase {xs:Array Nat} {i:Nat} (up:Up xs):Up (SetTable.eraseAt xs i):=by
 intro p q a b hpq ha hb
 rw [vG] at ha hb
 split at ha <;> split at hb
 ·exact up _ _ _ _ hpq ha hb
 ·exact up _ _ _ _ (by omega) ha hb
 ·omega
 ·exact up _ _ _ _ (by omega) ha hb
theorem rA {α : Type} (xs:Array α) (p:Nat) (x:α):(SetTable.insertAt xs p x).size=xs.size+1:=by
 unfold SetTable.insertAt
 simp
 omega
theorem kP {α β : Type} {F:α->β->Prop}:∀ {l:List α} {m:List β} (i:Nat),Paired F l m->Paired F (l.eraseIdx i) (m.eraseIdx i)
 | _,_,_,.nil=>.nil
 | _,_,0,.cons _ t=>t
 | _,_,i+1,.cons h t=>.cons h (kP i t)
theorem kQ {α β : Type} {F:α->β->Prop}:∀ {l:List α} {m:List β} {i:Nat} {x:α},Paired F l m->l[i]? = some x->∃ y,m[i]? = some y/\F x y
 | _,_,i,_,.nil,h=>by simp at h
 | _,_,0,_,.cons h _,e=>by simp at e;subst e;exact⟨_,rfl,h⟩
 | _,_,i+1,_,.cons _ t,e=>by simpa using kQ t (by simpa using e)
def bY {K:Type} [DecidableEq K] (ks:List K) (k:K):List K:=ks.erase k
theorem xl {K:Type} [DecidableEq K] {ks:List K} (nd:ks.Nodup) (k x:K):x ∈ bY ks k ↔ x ≠ k/\x ∈ ks:=nd.mem_erase_iff
theorem yU {K:Type} [DecidableEq K] {ks:List K} (nd:ks.Nodup) (k:K):(bY ks k).Nodup:=nd.erase k
theorem j0 {K:Type} [DecidableEq K] (ks:List K) (k:K):(bY ks k).length<=ks.length:=List.length_erase_le
theorem ni {α : Type} (xs:Array α) (i:Nat) (hi:i < xs.size):(SetTable.eraseAt xs i).size=xs.size - 1:=by
 rw [<-Array.length_toList,jZ,List.length_eraseIdx,Array.length_toList,if_pos hi]
theorem yV {t:SetTable} {n i:Nat} (f:t.fits n=true) (hi:i < n) (up:Rp t):(t.drop i).fits (n - 1)=true/\(t.drop i).led=t.led/\Rp (t.drop i):=by
 unfold SetTable.fits at f
 rw [Bool.and_eq_true] at f
 obtain⟨f1,f2⟩:=f
 have f1:t.place.size=n:=by simpa using f1
 have f2:t.fill<=t.mask:=by simpa using f2
 have hj:t.place[i]? = some t.place[i]:=by simp [show i < t.place.size by omega]
 generalize t.place[i] = j at hj
 unfold SetTable.drop
 rw [hj]
 dsimp only
 refine⟨?_,rfl,fun hp=>(up hp).erase⟩
 unfold SetTable.fits SetTable.fill
 dsimp only
 unfold SetTable.fill at f2
 rw [ni _ _ (by omega),rA,f1]
 simp
 omega
section
variable {prog:Program} {w:World} {K:Type} [DecidableEq K] {knd:KeyKind prog w K}
variable {A:Around} {E:Value->Shared->Prop} {s:Shared} {a:Addr} {ks:List K}
theorem rB {k:K} {x:Value} {Q:Bool->Shared->Prop} (hk:knd.is k x=true) (hsc:x.scannable=true) (S:di knd s.heap a ks)
  (q:∀ h',Heap.SameBut a s.heap h'->di knd h' a (bY ks k)->Q (decide (k ∈ ks)) { s with heap:=h' }) :
  wpAny (model prog w) A (setDiscardHashed a x (knd.hash k)) Q E s:=by
 obtain⟨o,es,ep,t,S⟩:=S
 unfold setDiscardHashed setFind setFindIn
 refine wpAny_bind (wpAny_bind (wpAny_setState_of S.at_ S.data S.fits ?_))
 dsimp only
 rw [byScan_of hsc S.bK S.elems]
 simp only [↓reduceIte]
 refine wpAny_bind (wpAny_rule ?_)
 refine wpAny_bind (wpAny_setScan_of hk S.at_ S.data S.fits S.elems ?_)
 cases hr:List.findIdx? (fun e=>knd.is k e.2) es.toList with
 | none =>
  have hin:¬ k ∈ ks:=fun z=>by
   obtain⟨e,he,hp⟩:=(S.mem k).mp z
   have:=List.findIdx?_eq_none_iff.mp hr e he
   rw [hp] at this;exact Bool.noConfusion this
  refine wpAny_pure (wpAny_pure ?_)
  have:=q s.heap (Heap.SameBut.refl a s.heap) (by unfold bY;rw [List.erase_of_not_mem hin];exact⟨o,es,ep,t,S⟩)
  rw [decide_eq_false hin] at this
  exact this
 | some j =>
  obtain⟨hj,hpj,_⟩:=List.findIdx?_eq_some_iff_getElem.mp hr
  have hjs:j < es.size:=by rw [<-Array.length_toList];exact hj
  have hin:k ∈ ks:=(S.mem k).mpr ⟨es.toList[j],List.getElem_mem hj,hpj⟩
  refine wpAny_pure ?_
  dsimp only
  rw [Nat.zero_add]
  refine wpAny_bind (wpAny_setState_of S.at_ S.data S.fits ?_)
  obtain⟨d1,d2,d3⟩:=yV S.fits hjs S.up
  have hsz:=ni es j hjs
  have bK:(SetTable.eraseAt es j).size < scanBound:=by rw [hsz];exact Nat.lt_of_le_of_lt (Nat.sub_le _ _) S.bK
  refine wpAny_bind (wpAny_storeSet_of S.at_ S.data ?_ (fits_of_scanBound bK))
  refine wpAny_bind (wpAny_point (wpAny_pure ?_))
  have he:∃ ls:List K,ls.Perm (ks.erase k)/\Paired (Ent knd) (SetTable.eraseAt es j).toList ls:=by
   obtain⟨ls,l1,l2⟩:=S.ents
   obtain⟨y,hy,fy⟩:=kQ l2 (show es.toList[j]? = some es.toList[j] by simp [hj])
   have ey:y=k:=knd.inj _ _ _ fy.1 hpj
   subst ey
   refine⟨ls.eraseIdx j,?_,by rw [jZ];exact kP j l2⟩
   have hjl:j < ls.length:=(List.getElem?_eq_some_iff.mp hy).1
   have p1:=m9 ls j hjl
   have e1:ls[j] = y:=by
    have:=List.getElem?_eq_getElem hjl
    rw [hy] at this
    exact (Option.some.inj this).symm
   rw [e1] at p1
   exact List.Perm.cons_inv ((p1.trans l1).trans (List.perm_cons_erase hin))
  have:=q _ (Heap.SameBut.update s.heap a (Obj.putSet (SetTable.eraseAt es j) (t.drop j))) ⟨_,_,_,_,S.store he (S.nd.erase k) bK (by rw [hsz];exact d1) d2 d3⟩
  rw [decide_eq_true hin] at this
  exact this
end
section
variable {prog:Program} {w:World} {A:Around} {E:Value->Shared->Prop} {s:Shared}
theorem vH {a:Addr} {ks:List Key} {k:Key} {v:Value} {Q:Value->Shared->Prop} (hk:(aN prog w).is k v=true) (S:di (aN prog w) s.heap a ks)
  (q:∀ h',Heap.SameBut a s.heap h'->di (aN prog w) h' a (bY ks k)->Q .none { s with heap:=h',toks:=s.toks+1 }):wpAny (model prog w) A (call (.builtin "set.discard") [.ref a,v]) Q E s:=by
 refine wpAny_call_entry PySem.F.slot_set_discard S.setOf.typeIs PySem.F.entry_set_discard ?_ (PySem.F.args_set_discard_2 _ _)
 unfold Builtin.«set.discard» Builtin.Frozenset.oneOther
 simp only [List.isEmpty_nil,bind_assoc]
 unfold Builtin.Frozenset.addrOf
 refine wpAny_bind (wpAny_pure ?_)
 refine wpAny_bind (wpAny_pure ?_)
 unfold Builtin.Frozenset.withSetAsKey setDiscard
 refine wpAny_bind (wpAny_tryCatch (wpAny_holding (wpAny_bind ((aN prog w).pyHash hk ?_))))
 refine rB (s:={ s with toks:=s.toks+1 }) hk (mn hk) S fun h' b S'=>?_
 exact wpAny_pure ⟨_,rfl,q h' b S'⟩
end
end LS
namespace L2
open PySem PySem.Spec PyProof.Rows LS
section
variable {X:Cx}
def Ab (P:Program) (w:World):V->List V->Hp->VK->Prop:=fun x vs H Q=>∃ a ks k,x=.ref a/\vs = [kV k]/\H a=some (bA P w a ks)/\Q .bx (upd H a (bA P w a (bY ks k)))
theorem xm:pO X "set.discard" (Ab X.prog X.w):=by
 intro pins s σ H x xs v us Q I rx r h
 obtain⟨a,ks,k,rfl,rfl,ha,q⟩:=h
 cases (show v=Value.ref a from rx)
 obtain⟨u,rfl,ru⟩:=vals1 r
 refine vH (lq ru) (I.tV ha) fun h' b S'=>?_
 refine⟨.bx,_,I.write (t':=s.toks+1) (x:=a) (e:=a) (by rw [ha];exact trivial) (.inl rfl) (fun c u' hc hu=>b.extBut c u' hc hu) ?_ (nX S'),rfl,q⟩
 obtain⟨o,_,_,_,So⟩:=S'
 exact⟨o,So.at_⟩
end
section
variable {X:Cx}
end
theorem kQ {α β : Type} {F:α->β->Prop} {l:List α} {m:List β} (h:Paired F l m) {i:Nat} {x:α} (e:l[i]? = some x):∃ y,m[i]? = some y/\F x y:=LS.jW h e
section
variable {prog:Program} {w:World} {A:Around} {E:Value->Shared->Prop} {s:Shared}
end
section
variable {X:Cx}
end
def gd (f:Str->Bool):aW->Bool
 | .put x _=>f x
 | .copy x _=>f x
 | .add x _=>f x
 | .read _=>true
 | .tell _=>true
def jb (f:Str->Bool) (x:Str):Str->Bool:=fun z=>decide (z ≠ x) && f z
def oO (f:Str->Bool) (x:Str):Str->Bool:=fun z=>decide (z=x) || f z
def xT (f:Str->Bool):aW->Str->Bool
 | .put x _=>jb f x
 | .copy x y=>oO (jb f x) y
 | .add _ _=>f
 | .read x=>jb f x
 | .tell x=>oO f x
def spS (S:List aW × (Str->Bool)) (d:aW):List aW × (Str->Bool):=if gd S.2 d=true then (S.1 ++ [d],xT S.2 d) else S
def iq (f:Str->Bool) (rs:List aW):List aW × (Str->Bool):=rs.foldl spS ([],f)
def bw (f:Str->Bool) (ds:List aW):List aW:=(iq f ds.reverse).1.reverse
theorem xn {f:Str->Bool} {rs:List aW} {i:Nat} {d:aW} (h:rs[i]? = some d):iq f (rs.take (i+1))=spS (iq f (rs.take i)) d:=by
 rw [List.take_add_one,h]
 show List.foldl spS _ (rs.take i ++ [d])=_
 rw [List.foldl_append]
 rfl
theorem yW (f:Str->Bool) (rs:List aW):(iq f rs).1.length<=rs.length:=by
 refine fB (P:=fun rs=>(iq f rs).1.length<=rs.length) (Nat.le_refl _) (fun l d ih=>?_) rs
 show (iq f (l ++ [d])).1.length<=_
 have e:iq f (l ++ [d])=spS (iq f l) d:=by unfold iq;rw [List.foldl_append];rfl
 rw [e]
 unfold spS
 have ih:(iq f l).1.length<=l.length:=ih
 split
 ·simp;omega
 ·simp;omega
def kR (ks:List Key) (f:Str->Bool):Prop:=ks.Nodup/\∀ x:Str,(Sum.inr x:Key) ∈ ks ↔ f x=true
theorem kR.off {ks:List Key} {f:Str->Bool} (h:kR ks f) (x:Str):kR (LS.bY ks (Sum.inr x)) (jb f x):=⟨LS.yU h.1 _,fun z=>by
 rw [LS.xl h.1,h.2 z]
 unfold jb
 rw [Bool.and_eq_true,decide_eq_true_eq]
 exact⟨fun ⟨a,b⟩=>⟨fun e=>a (by rw [e]),b⟩,fun ⟨a,b⟩=>⟨fun e=>a (Sum.inr.inj e),b⟩⟩⟩
theorem t6 {ks:List Key} {k z:Key}:z ∈ LS.putIn ks k ↔ z=k\/z ∈ ks:=by
 unfold LS.putIn
 split
 ·rename_i h
  exact⟨.inr,fun q=>q.elim (fun e=>e ▸ h) id⟩
 ·rw [List.mem_append,List.mem_singleton];exact Or.comm
theorem vI {ks:List Key} {k:Key} (h:ks.Nodup):(LS.putIn ks k).Nodup:=by
 unfold LS.putIn
 split
 ·exact h
 ·rename_i hx
  rw [List.nodup_append]
  exact⟨h,by simp,fun u hu v hv z=>hx (by rw [List.mem_singleton] at hv;rw [<-hv,<-z];exact hu)⟩
theorem kR.on {ks:List Key} {f:Str->Bool} (h:kR ks f) (x:Str):kR (LS.putIn ks (Sum.inr x)) (oO f x):=⟨vI h.1,fun z=>by
 rw [t6,h.2 z]
 unfold oO
 rw [Bool.or_eq_true,decide_eq_true_eq]
 exact⟨fun q=>q.imp Sum.inr.inj id,fun q=>q.imp (fun e=>by rw [e]) id⟩⟩
def hJ:Sp:=fun vs H Q _=>∃ (da l:Addr) (ws:List V) (ds:List aW) (ns:List Str),vs = [.ref da,.ref l]/\H da=some (.tup ws)/\aV H ws (ds.map bH)/\ds.length<=500/\H l=some (.lst (ns.map V.str))/\ns.length<=500 /\
 ∀ t us H',H' t=some (.tup us)->aV H' us ((bw (fun x=>decide (x ∈ ns)) ds).map bH)->ao H H'->Q (.ref t) H'
theorem j1 (ks:List Key) (k:Key):(LS.putIn ks k).length<=ks.length+1:=by unfold LS.putIn;split <;> simp
theorem qO:∀ (ms acc:List Key),(ms.foldl LS.putIn acc).length<=acc.length+ms.length
 | [],acc=>Nat.le_refl _
 | m :: r,acc=>by
  have h1:=qO r (LS.putIn acc m)
  have h2:=j1 acc m
  simp only [List.foldl_cons,List.length_cons]
  omega
theorem aV.xo {H:Hp}:∀ {xs:List V} {ds:List aW},aV H xs (ds.map bH)->aV H xs.reverse (ds.reverse.map bH)
 | _,[],h=>by rw [h.nil_inv];exact .nil
 | _,d :: r,h=>by
  obtain⟨x,xs,rfl,h1,h2⟩:=h.cons_inv
  rw [List.reverse_cons,List.reverse_cons,List.map_append]
  exact (aV.xo h2).app h1
theorem kT {H:Hp}:∀ {xs:List V} {ss:List Str},aV H xs (ss.map PyData.str)->xs=ss.map V.str
 | _,[],h=>h.nil_inv
 | _,n :: ns,h=>by
  obtain⟨x,r,rfl,h1,h2⟩:=h.cons_inv
  rw [h1.str_inv,kT h2]
  rfl
def er (ps:List Piece) (e:End) (x:Str):Prop:=x ∈ cz e\/∃ k ∈ cC e,fJ ps k x
def oa:Sp:=fun vs H Q _=>∃ (plv:V) (ps:List Piece) (pool:List Str) (m:Nat),vs = [plv]/\aY H plv (cG ps)/\i3 pool m ps/\m<=500/\pool.length < 64/\ps.length<=400 /\
 ∀ v (qs:List Piece) H',aY H' v (cG qs)->qs.length=ps.length->(∀ (k:Nat) (p:Piece),ps[k]? = some p->∃ f:Str->Bool,qs[k]? = some (bw f p.1,p.2)/\∀ x,f x=true ↔ er ps p.2 x)->ao H H'->Q v H'
def gf (A:Str->Prop):aW->Str->Prop
 | .put y _,x=>x ≠ y/\A x
 | .copy y z,x=>(x ≠ y/\A x)\/(x=z/\A y)
 | .add _ _,x=>A x
 | .read y,x=>x ≠ y/\A x
 | .tell y,x=>x=y\/A x
def dJ:List aW->(Str->Prop)->Str->Prop
 | [],A=>A
 | d :: r,A=>gf (dJ r A) d
theorem vJ (ds:List aW) (d:aW) (A:Str->Prop):dJ (ds ++ [d]) A=dJ ds (gf A d):=by
 induction ds with
 | nil=>rfl
 | cons e r ih=>show gf (dJ (r ++ [d]) A) e=gf (dJ r (gf A d)) e;rw [ih]
theorem xp (ds:List aW):∀ (A:Str->Prop) (x:Str),dJ ds A x ↔ (∃ y,A y/\d9 ds y=some x)\/some x ∈ (de ds).2:=by
 refine fB (P:=fun ds=>∀ (A:Str->Prop) (x:Str),dJ ds A x ↔ (∃ y,A y/\d9 ds y=some x)\/some x ∈ (de ds).2) ?_ (fun l d ih A x=>?_) ds
 ·intro A x
  constructor
  ·intro h;exact .inl ⟨x,h,rfl⟩
  ·rintro (⟨y,h,e⟩ | h)
   ·cases (show some y=some x from e);exact h
   ·cases h
 ·rw [vJ,ih]
  have e1:d9 (l ++ [d])=mq (d9 l) d:=by unfold d9;rw [i8];rfl
  have e2:(de (l ++ [d])).2=(de l).2++gN (d9 l) d:=by rw [i8];rfl
  rw [e1,e2]
  generalize d9 l=f
  generalize (de l).2=os
  rw [List.mem_append]
  cases d with
  | put y n =>
   simp only [gf,mq,gN,gM,List.not_mem_nil,or_false]
   refine or_congr ⟨fun ⟨z,⟨a,b⟩,c⟩=>⟨z,b,by rw [if_neg a];exact c⟩,fun ⟨z,b,c⟩=>?_⟩ Iff.rfl
   split at c
   ·cases c
   ·rename_i h;exact⟨z,⟨h,b⟩,c⟩
  | copy y w =>
   simp only [gf,mq,gN,gM,List.not_mem_nil,or_false]
   refine or_congr ⟨fun ⟨z,h,c⟩=>?_,fun ⟨z,b,c⟩=>?_⟩ Iff.rfl
   ·rcases h with ⟨a,b⟩ | ⟨a,b⟩
    ·exact⟨z,b,by rw [if_neg a];exact c⟩
    ·exact⟨y,b,by rw [if_pos rfl,<-a];exact c⟩
   ·split at c
    ·rename_i h;rw [h] at b;exact⟨w,.inr ⟨rfl,b⟩,c⟩
    ·rename_i h;exact⟨z,.inl ⟨h,b⟩,c⟩
  | add y n =>
   simp only [gf,mq,gN,List.not_mem_nil,or_false]
  | read y =>
   simp only [gf,mq,gN,gM,List.not_mem_nil,or_false]
   refine or_congr ⟨fun ⟨z,⟨a,b⟩,c⟩=>⟨z,b,by rw [if_neg a];exact c⟩,fun ⟨z,b,c⟩=>?_⟩ Iff.rfl
   split at c
   ·cases c
   ·rename_i h;exact⟨z,⟨h,b⟩,c⟩
  | tell y =>
   simp only [gf,mq,gN,List.mem_singleton]
   constructor
   ·rintro (⟨z,h | h,c⟩ | h)
    ·rw [h] at c;exact .inr (.inr c.symm)
    ·exact .inl ⟨z,h,c⟩
    ·exact .inr (.inl h)
   ·rintro (⟨z,h,c⟩ | h | h)
    ·exact .inl ⟨z,.inr h,c⟩
    ·exact .inr h
    ·exact .inl ⟨y,.inl rfl,h.symm⟩
theorem yX {ps:List Piece} {k:Nat} {p:Piece} (h:ps[k]? = some p) {x:Str} (hx:dJ p.1 (er ps p.2) x):fJ ps k x:=by
 rcases (xp p.1 _ x).mp hx with ⟨y,a,e⟩ | a
 ·rcases a with a | ⟨k',hk,a⟩
  ·exact .ask h (List.mem_filterMap.mpr ⟨some x,List.mem_append_right _ (List.mem_map.mpr ⟨y,a,e⟩),rfl⟩)
  ·exact .back a h hk e
 ·exact .ask h (List.mem_filterMap.mpr ⟨some x,List.mem_append_left _ a,rfl⟩)
def xU (ps:List Piece) (k i:Nat) (w w':Str->Int):Prop:=∀ p,ps[k]? = some p->∀ x,dJ (p.1.drop i) (er ps p.2) x->w x=w' x
theorem yY {ds:List aW} {i:Nat} {d:aW} (h:ds[i]? = some d):ds.drop i=d :: ds.drop (i+1):=by
 obtain⟨hi,e⟩:=List.getElem?_eq_some_iff.mp h
 rw [List.drop_eq_getElem_cons hi,e]
theorem nj {A:Str->Prop} {w w':Str->Int} {x:Str} {n n':Int} (h:∀ z,z ≠ x/\A z->w z=w' z) (hn:A x->n=n'):∀ z,A z->gm w x n z=gm w' x n' z:=fun z hz=>by
 unfold gm
 by_cases e:z=x
 ·rw [if_pos e,if_pos e];exact hn (e ▸ hz)
 ·rw [if_neg e,if_neg e];exact h z ⟨e,hz⟩
theorem sI {ps:List Piece} {k:Nat} {e:End} {w w':Str->Int} (hk:k ∈ cC e) (h:∀ x,er ps e x->w x=w' x):xU ps k 0 w w':=fun p hp x hx=>h x (.inr ⟨k,hk,yX hp (by simpa using hx)⟩)
def gP (f:Str->Bool) (ds:List aW):Str->Bool:=(iq f ds.reverse).2
theorem qP (f:Str->Bool) (l:List aW) (d:aW):iq f (l ++ [d])=L2.spS (iq f l) d:=by unfold iq;rw [List.foldl_append];rfl
theorem t9 (f:Str->Bool) (d:aW) (r:List aW):gP f (d :: r)=if gd (gP f r) d=true then xT (gP f r) d else gP f r:=by
 unfold gP
 rw [List.reverse_cons,qP]
 unfold L2.spS
 split <;> rfl
theorem jr (f:Str->Bool) (d:aW) (r:List aW):bw f (d :: r)=if gd (gP f r) d=true then d :: bw f r else bw f r:=by
 unfold bw gP
 rw [List.reverse_cons,qP]
 unfold L2.spS
 split
 ·simp
 ·rfl
theorem ub (f:Str->Bool) (ds:List aW):∀ x,gP f ds x=true ↔ dJ ds (fun x=>f x=true) x:=by
 induction ds with
 | nil=>intro x;exact Iff.rfl
 | cons d r ih =>
  intro x
  rw [t9]
  show _ ↔ gf (dJ r fun x=>f x=true) d x
  generalize gP f r=g at ih
  generalize (dJ r fun x=>f x=true)=A at ih
  cases d with
  | put y n =>
   show (if g y=true then jb g y else g) x=true ↔ x ≠ y/\A x
   split
   ·simp [jb,ih x]
   ·rename_i h
    rw [ih x]
    exact⟨fun a=>⟨fun e=>h ((ih y).mpr (e ▸ a)),a⟩,fun a=>a.2⟩
  | copy y z =>
   show (if g y=true then oO (jb g y) z else g) x=true ↔ (x ≠ y/\A x)\/(x=z/\A y)
   split
   ·rename_i h
    have hy:=(ih y).mp h
    simp only [oO,jb,Bool.or_eq_true,Bool.and_eq_true,decide_eq_true_eq,ih x]
    exact⟨fun a=>a.elim (fun e=>.inr ⟨e,hy⟩) .inl,fun a=>a.elim .inr fun b=>.inl b.1⟩
   ·rename_i h
    rw [ih x]
    exact⟨fun a=>.inl ⟨fun e=>h ((ih y).mpr (e ▸ a)),a⟩,fun a=>a.elim (fun b=>b.2) fun b=>absurd ((ih y).mpr b.2) h⟩
  | add y n =>
   show (if g y=true then g else g) x=true ↔ A x
   split <;> exact ih x
  | read y =>
   show (if true=true then jb g y else g) x=true ↔ x ≠ y/\A x
   rw [if_pos rfl]
   simp [jb,ih x]
  | tell y =>
   show (if true=true then oO g y else g) x=true ↔ x=y\/A x
   rw [if_pos rfl]
   simp [oO,ih x]
def jt (ps qs:List Piece):Prop:=∀ (k:Nat) (p:Piece),ps[k]? = some p->∃ f:Str->Bool,qs[k]? = some (bw f p.1,p.2)/\∀ x,f x=true ↔ er ps p.2 x
structure gn (ps qs:List Piece) (S S':RS):Prop where
 aR:S.aR=S'.aR
 taken:S.taken=S'.taken
 told:S.told=S'.told
 word:S.word=S'.word
 st:∀ p,ps[S.aR]? = some p->∃ f:Str->Bool,qs[S.aR]? = some (bw f p.1,p.2)/\(∀ x,f x=true ↔ er ps p.2 x)/\(bw f p.1).drop S'.place=bw f (p.1.drop S.place)
 ag:xU ps S.aR S.place S.w S'.w
theorem qQ {ps qs:List Piece} (hQ:jt ps qs) (k:Nat):∀ p,ps[k]? = some p->∃ f:Str->Bool,qs[k]? = some (bw f p.1,p.2)/\(∀ x,f x=true ↔ er ps p.2 x)/\(bw f p.1).drop 0=bw f (p.1.drop 0):=fun p hp=>by
 obtain⟨f,a,b⟩:=hQ k p hp
 exact⟨f,a,b,by simp⟩
theorem uc {ps qs:List Piece} (hQ:jt ps qs) {nums:List Int} {S S':RS} (h:gn ps qs S S'):((∀ p,ps[S.aR]? = some p->S.place < p.1.length)/\gn ps qs (bf ps nums S) S')\/gn ps qs (bf ps nums S) (bf qs nums S'):=by
 obtain⟨k,i,w,tk,tl,wd,bn⟩:=S
 obtain⟨k',i',w',tk',tl',wd',bn'⟩:=S'
 obtain⟨h1,h3,h4,h5,st,ag⟩:=h
 have h1:k=k':=h1
 have h3:tk=tk':=h3
 have h4:tl=tl':=h4
 have h5:wd=wd':=h5
 subst h1 h3 h4 h5
 have ag:xU ps k i w w':=ag
 cases hp:ps[k]? with
 | none =>
  left
  have e:bf ps nums ⟨k,i,w,tk,tl,wd,bn⟩=⟨k,i,w,tk,tl,wd,bn⟩:=by unfold bf;dsimp only;rw [hp]
  rw [e]
  refine⟨fun p h=>?_,rfl,rfl,rfl,rfl,st,ag⟩
  cases h
 | some p =>
  obtain⟨ds,e⟩:=p
  obtain⟨f,hq,hf,hdp⟩:=st _ hp
  have hq:qs[k]? = some (bw f ds,e):=hq
  have hdp:(bw f ds).drop i' = bw f (ds.drop i):=hdp
  have a0:=ag _ hp
  have hA:(fun x=>f x=true)=er ps e:=funext fun x=>propext (hf x)
  cases hd:ds[i]? with
  | none =>
   right
   have hdr:ds.drop i = []:=List.drop_eq_nil_of_le (by rw [List.getElem?_eq_none_iff] at hd;exact hd)
   rw [hdr] at hdp
   have hd':(bw f ds)[i']? = none:=by
    rw [List.getElem?_eq_none_iff]
    exact List.drop_eq_nil_iff.mp hdp
   have a1:∀ x,er ps e x->w x=w' x:=fun x hx=>a0 x (by show dJ (ds.drop i) _ x;rw [hdr];exact hx)
   have e1:bf ps nums ⟨k,i,w,tk,tl,wd,bn⟩=gK ⟨k,i,w,tk,tl,wd,bn⟩ e:=by unfold bf;dsimp only;rw [hp];dsimp only;rw [hd]
   have e2:bf qs nums ⟨k,i',w',tk,tl,wd,bn'⟩=gK ⟨k,i',w',tk,tl,wd,bn'⟩ e:=by unfold bf;dsimp only;rw [hq];dsimp only;rw [hd']
   rw [e1,e2]
   cases e with
   | stop=>exact⟨rfl,rfl,rfl,rfl,st,ag⟩
   | go q=>exact⟨rfl,rfl,rfl,rfl,qQ hQ q,sI (e:=.go q) (List.mem_singleton.mpr rfl) a1⟩
   | dD b x n q1 q2 =>
    have ex:w x=w' x:=a1 x (.inl (List.mem_singleton.mpr rfl))
    refine⟨?_,rfl,rfl,rfl,qQ hQ _,?_⟩
    ·show (if eE b (w x) n=true then q1 else q2)=(if eE b (w' x) n=true then q1 else q2)
     rw [ex]
    ·refine sI (e:=.dD b x n q1 q2) ?_ a1
     show (if eE b (w x) n=true then q1 else q2) ∈ [q1,q2]
     split <;> simp
  | some d =>
   have hdr:=yY hd
   have a1:∀ x,gf (dJ (ds.drop (i+1)) (er ps e)) d x->w x=w' x:=fun x hx=>a0 x (by show dJ (ds.drop i) _ x;rw [hdr];exact hx)
   have fin:∀ {v v':Str->Int},(∀ x,dJ (ds.drop (i+1)) (er ps e) x->v x=v' x)->xU ps k (i+1) v v':=fun {v v'} h p hp' x hx=>by
    rw [hp] at hp'
    cases hp'
    exact h x hx
   have e1:bf ps nums ⟨k,i,w,tk,tl,wd,bn⟩=cH nums ⟨k,i,w,tk,tl,wd,bn⟩ d:=by unfold bf;dsimp only;rw [hp];dsimp only;rw [hd]
   have hwl:=ub f (ds.drop (i+1))
   rw [hA] at hwl
   rw [hdr,jr] at hdp
   rw [e1]
   by_cases hk:gd (gP f (ds.drop (i+1))) d=true
   ·right
    rw [if_pos hk] at hdp
    have hd':(bw f ds)[i']? = some d:=by
     have:=congrArg (fun l=>l[0]?) hdp
     simpa [List.getElem?_drop] using this
    have hdp2:(bw f ds).drop (i' + 1)=bw f (ds.drop (i+1)):=by
     have:=congrArg (List.drop 1) hdp
     rw [List.drop_drop] at this
     simpa using this
    have e2:bf qs nums ⟨k,i',w',tk,tl,wd,bn'⟩=cH nums ⟨k,i',w',tk,tl,wd,bn'⟩ d:=by unfold bf;dsimp only;rw [hq];dsimp only;rw [hd']
    have st2:∀ p,ps[k]? = some p->∃ f:Str->Bool,qs[k]? = some (bw f p.1,p.2)/\(∀ x,f x=true ↔ er ps p.2 x)/\(bw f p.1).drop (i' + 1)=bw f (p.1.drop (i+1)):=fun p hp'=>by
     rw [hp] at hp'
     cases hp'
     exact⟨f,hq,hf,hdp2⟩
    rw [e2]
    cases d with
    | put x n=>exact⟨rfl,rfl,rfl,rfl,st2,fin (nj a1 fun _=>rfl)⟩
    | copy x y=>exact⟨rfl,rfl,rfl,rfl,st2,fin (nj (fun z hz=>a1 z (.inl hz)) fun hx=>a1 y (.inr ⟨rfl,hx⟩))⟩
    | add x n=>exact⟨rfl,rfl,rfl,rfl,st2,fin (nj (fun z hz=>a1 z hz.2) fun hx=>by show w x+n=w' x+n;rw [a1 x hx])⟩
    | tell x =>
     have ex:w x=w' x:=a1 x (.inl rfl)
     refine⟨rfl,rfl,?_,rfl,st2,fin fun z hz=>a1 z (.inr hz)⟩
     show tl ++ [w x] = tl ++ [w' x]
     rw [ex]
    | read x =>
     show gn ps qs (cH nums _ (.read x)) (cH nums _ (.read x))
     unfold cH
     dsimp only
     cases nums[tk]? with
     | none=>exact⟨rfl,rfl,rfl,rfl,st,ag⟩
     | some n=>exact⟨rfl,rfl,rfl,rfl,st2,fin (nj a1 fun _=>rfl)⟩
   ·left
    refine⟨fun p h=>?_,?_⟩
    ·cases h
     exact (List.getElem?_eq_some_iff.mp hd).1
    rw [if_neg hk] at hdp
    have st2:∀ p,ps[k]? = some p->∃ f:Str->Bool,qs[k]? = some (bw f p.1,p.2)/\(∀ x,f x=true ↔ er ps p.2 x)/\(bw f p.1).drop i' = bw f (p.1.drop (i+1)):=fun p hp'=>by
     rw [hp] at hp'
     cases hp'
     exact⟨f,hq,hf,hdp⟩
    have off:∀ {x:Str} {n:Int},¬ gP f (ds.drop (i+1)) x=true->(∀ z,z ≠ x/\dJ (ds.drop (i+1)) (er ps e) z->w z=w' z)->∀ z,dJ (ds.drop (i+1)) (er ps e) z->gm w x n z=w' z:=fun {x n} hx h z hz=>by
     have hne:z ≠ x:=fun e=>hx ((hwl x).mpr (e ▸ hz))
     unfold gm
     rw [if_neg hne]
     exact h z ⟨hne,hz⟩
    cases d with
    | put x n=>exact⟨rfl,rfl,rfl,rfl,st2,fin (off hk a1)⟩
    | copy x y=>exact⟨rfl,rfl,rfl,rfl,st2,fin (off hk fun z hz=>a1 z (.inl hz))⟩
    | add x n=>exact⟨rfl,rfl,rfl,rfl,st2,fin (off hk fun z hz=>a1 z hz.2)⟩
    | tell x=>exact absurd rfl hk
    | read x=>exact absurd rfl hk
theorem xV {ps qs:List Piece} (hQ:jt ps qs) {nums:List Int} {S S':RS} (h:gn ps qs S S'):∀ n,∃ m,m<=n/\gn ps qs (aG ps nums n S) (aG qs nums m S')
 | 0=>⟨0,Nat.le_refl _,h⟩
 | n+1=>by
  obtain⟨m,hm,ih⟩:=xV hQ (nums:=nums) h n
  by_cases hw:(aG ps nums n S).word = "on"
  ·rw [jH hw]
   rcases uc hQ (nums:=nums) ih with ⟨_,q⟩ | q
   ·exact⟨m,Nat.le_succ_of_le hm,q⟩
   ·exact⟨m+1,Nat.succ_le_succ hm,by rw [jH (ih.word ▸ hw)];exact q⟩
  ·refine⟨m,Nat.le_succ_of_le hm,?_⟩
   have e:aG ps nums (n+1) S=aG ps nums n S:=by
    show ft ps nums _=_
    unfold ft
    rw [if_neg hw]
   rw [e];exact ih
theorem oP {ps:List Piece} {nums:List Int} {S:RS} {m:Nat} (h:(aG ps nums m S).word ≠ "on"):∀ j,aG ps nums (m+j) S=aG ps nums m S
 | 0=>rfl
 | j+1=>by
  show ft ps nums (aG ps nums (m+j) S)=_
  rw [oP h j]
  unfold ft
  rw [if_neg h]
theorem jt.kG {ps qs:List Piece} (hQ:jt ps qs) (hl:qs.length=ps.length) (hin:cy ps):cy qs:=fun p hp=>by
 obtain⟨k,hk,e⟩:=List.getElem_of_mem hp
 have hkp:ps[k]? = some (ps[k]'(by omega)):=List.getElem?_eq_getElem (by omega)
 generalize (ps[k]'(by omega))=pe at hkp
 obtain⟨f,h1,_⟩:=hQ k _ hkp
 have h2:qs[k]? = some p:=by rw [List.getElem?_eq_getElem hk,e]
 rw [h2] at h1
 cases h1
 have h3:=hin _ (List.mem_of_getElem? hkp)
 obtain⟨ds,en⟩:=pe
 cases en with
 | stop=>exact True.intro
 | go q=>have h3:q < ps.length:=h3;show q < qs.length;omega
 | dD b x n q r=>have h3:q < ps.length/\r < ps.length:=h3;show q < qs.length/\r < qs.length;omega
theorem ud {ps:List Piece} {nums:List Int} {S:RS}:∃ more,(bf ps nums S).told=S.told++more:=by
 unfold bf
 cases hx:ps[S.aR]? with
 | none=>exact⟨[],by simp⟩
 | some pc =>
  obtain⟨ds,e⟩:=pc
  dsimp only
  cases hd:ds[S.place]? with
  | some dd =>
   cases dd with
   | tell x=>exact⟨[S.w x],rfl⟩
   | read x =>
    dsimp only
    unfold cH
    cases nums[S.taken]? with
    | none=>exact⟨[],by simp⟩
    | some n=>exact⟨[],by simp⟩
   | put x n=>exact⟨[],by simp [cH]⟩
   | copy x y=>exact⟨[],by simp [cH]⟩
   | add x n=>exact⟨[],by simp [cH]⟩
  | none =>
   cases e <;> exact⟨[],by simp [gK]⟩
theorem j2 {ps:List Piece} {nums:List Int} {S:RS} (j:Nat):∀ k,∃ more,(aG ps nums (j+k) S).told=(aG ps nums j S).told++more
 | 0=>⟨[],by simp⟩
 | k+1=>by
  obtain⟨m1,e1⟩:=j2 (ps:=ps) (nums:=nums) (S:=S) j k
  show ∃ more,(ft ps nums (aG ps nums (j+k) S)).told=_
  unfold ft
  split
  ·obtain⟨m2,e2⟩:=ud (ps:=ps) (nums:=nums) (S:=aG ps nums (j+k) S)
   exact⟨m1++m2,by rw [e2,e1,List.append_assoc]⟩
  ·exact⟨m1,e1⟩
theorem kU {ps:List Piece} (nums:List Int) (S:RS) (j:Nat):∀ i,aG ps nums (j+i) S=aG ps nums i (aG ps nums j S)
 | 0=>rfl
 | i+1=>by
  show ft ps nums (aG ps nums (j+i) S)=ft ps nums (aG ps nums i (aG ps nums j S))
  rw [kU nums S j i]
theorem lr {ps:List Piece} {nums:List Int} {S:RS} (h:S.word = "on"):ft ps nums S=bf ps nums S:=by unfold ft;rw [if_pos h]
theorem xq {ps:List Piece} {nums:List Int} {S:RS} (h:S.word ≠ "on"):ft ps nums S=S:=by unfold ft;rw [if_neg h]
theorem vK {ps:List Piece} {nums:List Int} {S:RS} {p:Piece} (hp:ps[S.aR]? = some p) (hl:S.place < p.1.length) (hw:(bf ps nums S).word = "on"):(bf ps nums S).aR=S.aR/\(bf ps nums S).place=S.place+1:=by
 obtain⟨ds,e⟩:=p
 have hd:ds[S.place]? = some ds[S.place]:=List.getElem?_eq_getElem hl
 generalize ds[S.place] = d at hd
 have e1:bf ps nums S=cH nums S d:=by unfold bf;rw [hp];dsimp only;rw [hd]
 rw [e1] at hw ⊢
 cases d with
 | put x n=>exact⟨rfl,rfl⟩
 | copy x y=>exact⟨rfl,rfl⟩
 | add x n=>exact⟨rfl,rfl⟩
 | tell x=>exact⟨rfl,rfl⟩
 | read x =>
  unfold cH at hw ⊢
  cases hn:nums[S.taken]? with
  | none=>simp only [hn] at hw;exact absurd hw (by decide +kernel)
  | some n=>exact⟨rfl,rfl⟩
theorem vL {ps qs:List Piece} (hQ:jt ps qs) {nums:List Int}:∀ (r:Nat) (S S':RS) (p:Piece),gn ps qs S S'->S.word = "on" -> ps[S.aR]? = some p->p.1.length - S.place<=r->∃ m,m<=r+1/\gn ps qs (aG ps nums m S) (bf qs nums S')
 | 0,S,S',p,h,hw,hp,hr=>by
  rcases uc hQ (nums:=nums) h with ⟨hl,q⟩ | q
  ·have:=hl p hp;omega
  ·exact⟨1,Nat.le_refl _,by show gn ps qs (ft ps nums S) _;rw [lr hw];exact q⟩
 | r+1,S,S',p,h,hw,hp,hr=>by
  rcases uc hQ (nums:=nums) h with ⟨hl,q⟩ | q
  ·have hl:=hl p hp
   have hw1:(bf ps nums S).word = "on" := by rw [q.word,<-h.word];exact hw
   obtain⟨e1,e2⟩:=vK hp hl hw1
   obtain⟨m,hm,q2⟩:=vL hQ r (bf ps nums S) S' p q hw1 (by rw [e1];exact hp) (by rw [e2];omega)
   refine⟨m+1,by omega,?_⟩
   rw [show m+1=1+m by omega,kU]
   show gn ps qs (aG ps nums m (ft ps nums S)) _
   rw [lr hw]
   exact q2
  ·exact⟨1,by omega,by show gn ps qs (ft ps nums S) _;rw [lr hw];exact q⟩
theorem sJ {ps qs:List Piece} (hQ:jt ps qs) (hin:cy ps) (h12:∀ p ∈ ps,p.1.length<=12) {nums:List Int} {S S':RS} (hS:S.aR < ps.length) (hT:S.taken<=nums.length) (h:gn ps qs S S'):∀ n,∃ m,m<=13 * n/\gn ps qs (aG ps nums m S) (aG qs nums n S')
 | 0=>⟨0,Nat.le_refl _,h⟩
 | n+1=>by
  obtain⟨m,hm,ih⟩:=sJ hQ hin h12 (nums:=nums) hS hT h n
  show ∃ m,m<=13 * (n+1)/\gn ps qs (aG ps nums m S) (ft qs nums (aG qs nums n S'))
  by_cases hw:(aG ps nums m S).word = "on"
  ·rw [lr (by rw [<-ih.word];exact hw)]
   have hlt:=(nP (ps:=ps) (nums:=nums) (S:=S) hin hS hT m).1
   have hp:ps[(aG ps nums m S).aR]? = some (ps[(aG ps nums m S).aR]'hlt):=List.getElem?_eq_getElem hlt
   have hl:=h12 _ (List.mem_of_getElem? hp)
   obtain⟨m2,hm2,q⟩:=vL hQ (nums:=nums) 12 _ _ _ ih hw hp (by omega)
   exact⟨m+m2,by omega,by rw [kU];exact q⟩
  ·rw [xq (by rw [<-ih.word];exact hw)]
   exact⟨m,by omega,ih⟩
theorem rC {ps qs:List Piece} (hQ:jt ps qs) (hin:cy ps) (h0:0 < ps.length) (h12:∀ p ∈ ps,p.1.length<=12) (nums:List Int) (k:Nat) :
  (¬ (aG ps nums k (ba 0 fun _=>0)).word = "on" -> (aG qs nums k (ba 0 fun _=>0)).word=(aG ps nums k (ba 0 fun _=>0)).word/\(aG qs nums k (ba 0 fun _=>0)).told=(aG ps nums k (ba 0 fun _=>0)).told) /\
  (∃ more,(aG qs nums k (ba 0 fun _=>0)).told=(aG ps nums k (ba 0 fun _=>0)).told++more) /\
  ∃ more,(aG ps nums (13 * k) (ba 0 fun _=>0)).told=(aG qs nums k (ba 0 fun _=>0)).told++more:=by
 have s0:gn ps qs (ba 0 fun _=>0) (ba 0 fun _=>0):=⟨rfl,rfl,rfl,rfl,qQ hQ 0,fun p hp x hx=>rfl⟩
 obtain⟨m,hm,s⟩:=xV hQ (nums:=nums) s0 k
 obtain⟨j,rfl⟩:∃ j,k=m+j:=⟨k - m,by omega⟩
 refine⟨fun hn=>?_,?_,?_⟩
 ·have hs:(aG qs nums m (ba 0 fun _=>0)).word ≠ "on" := by rw [<-s.word];exact hn
  rw [oP hs j]
  exact⟨s.word.symm,s.told.symm⟩
 ·rw [s.told]
  exact j2 m j
 ·obtain⟨m2,hm2,s2⟩:=sJ hQ hin h12 (nums:=nums) (S:=ba 0 fun _=>0) h0 (Nat.zero_le _) s0 (m+j)
  rw [<-s2.told]
  obtain⟨i,hi⟩:∃ i,13 * (m+j)=m2+i:=⟨13 * (m+j) - m2,by omega⟩
  rw [hi]
  exact j2 m2 i
def d5:aW->Bool
 | .read _=>true
 | .tell _=>true
 | _=>false
theorem ue (f:Str->Bool) (ds:List aW):(bw f ds).filter d5=ds.filter d5:=by
 induction ds with
 | nil=>rfl
 | cons d r ih =>
  rw [jr]
  split
  ·rw [List.filter_cons,List.filter_cons,ih]
  ·rename_i hk
   rw [List.filter_cons,ih]
   cases d with
   | put x n=>rfl
   | copy x y=>rfl
   | add x n=>rfl
   | read x=>exact absurd rfl hk
   | tell x=>exact absurd rfl hk
def mx:Sp:=fun vs H Q _=>∃ (np:Addr) (plv:V) (n:Nat) (nums:List Int) (ps:List Piece),vs = [plv,.ref np,.int n]/\aY H plv (cG ps)/\cy ps/\0 < ps.length/\H np=some (.tup (nums.map V.int))/\n<=2000 /\
 ∀ v H',aY H' v (fU (aG ps nums n (ba 0 fun _=>0)))->ao H H'->Q v H'
def kW:Sp:=fun vs H Q _=>∃ (np pp:Addr) (lv:V) (n:Nat) (nums:List Int) (ps qs:List Piece) (pvs:List V),vs = [.ref pp,lv,.ref np,.int n]/\H pp=some (.tup pvs)/\aV H pvs (ps.map eY)/\aY H lv (cG qs)/\cy ps/\cy qs/\0 < ps.length/\0 < qs.length/\jt ps qs/\(∀ p ∈ ps,p.1.length<=12)/\H np=some (.tup (nums.map V.int))/\n<=150 /\
 ∀ H',ao H H'->Q (.bl true) H'
def kX:Sp:=fun vs H Q _=>∃ (v:V) (ds:List aW),vs = [v]/\aY H v (.tuple (ds.map bH))/\ds.length<=500 /\
 ∀ (l:Addr) (ws:List V) H',H' l=some (.lst ws)->aV H' ws ((ds.filter d5).map bH)->H l=none->ao H H'->Q (.ref l) H'
theorem sM {X:Cx} {K:PySem.W.Frag} (h:X.K=K):uM X (zp K):=by subst h;exact aF
theorem oQ (xs:List Int) (k:Nat):gW (xs.map V.int) none (some (k:Nat))=(xs.take k).map V.int:=by
 unfold gW
 rw [HT.wj,HT.ye]
 simp [List.map_take]
theorem xr (f:aW->Bool) (d:aW):[d].filter f=if f d=true then [d] else []:=by
 cases h:f d <;> simp [h]
theorem uf (f:Str->Bool) (ds:List aW):(bw f ds).length<=ds.length:=by
 induction ds with
 | nil=>exact Nat.le_refl _
 | cons d r ih =>
  rw [jr]
  split
  ·exact Nat.succ_le_succ ih
  ·exact Nat.le_succ_of_le ih
end L2
namespace My
open PySem PySem.Spec PyProof.Rows L2
def top (i:Nat):Stmt:=PySem.Challenge.pw_ledpast_k37_whole_spare_tells_the_same.main.body.getD i (.Pass ⟨0,0,0,0⟩)
structure Bl (mg:Str->Option Value):Prop where
 len:mg "len" = none
 zip:mg "zip" = none
 tuple:mg "tuple" = none
 set:mg "set" = none
 min:mg "min" = none
 max:mg "max" = none
 range:mg "range" = none
 list:mg "list" = none
 int:mg "int" = none
 dict:mg "dict" = none
 enumerate:mg "enumerate" = none
 sorted:mg "sorted" = none
 reversed:mg "reversed" = none
abbrev cR:Stmt:=top 2
theorem my:aS ["thing", "kinds", "wanted"] ["thing", "kinds", "wanted"] (au cR):=⟨rfl,rfl,rfl,by decide +kernel,rfl,by decide +kernel,by decide +kernel⟩
abbrev gy:Stmt:=top 3
theorem ug:aS ["end"] ["end"] (au gy):=⟨rfl,rfl,rfl,by decide +kernel,rfl,by decide +kernel,by decide +kernel⟩
abbrev fK:Stmt:=top 5
theorem rD:aS ["end"] ["end"] (au fK):=⟨rfl,rfl,rfl,by decide +kernel,rfl,by decide +kernel,by decide +kernel⟩
abbrev hR:Stmt:=top 6
theorem fD:aS ["piece", "deeds", "end", "sources", "asked", "deed", "word", "name"] ["piece"] (au hR):=⟨rfl,rfl,rfl,by decide +kernel,rfl,by decide +kernel,by decide +kernel⟩
abbrev e6:Stmt:=top 7
theorem eI:aS ["plan", "back", "at", "deeds", "end", "way"] ["plan"] (au e6):=⟨rfl,rfl,rfl,by decide +kernel,rfl,by decide +kernel,by decide +kernel⟩
abbrev jL:Stmt:=top 8
theorem fL:aS ["plan", "traces", "back", "found", "waiting", "at", "name", "ahead", "source"] ["plan"] (au jL):=⟨rfl,rfl,rfl,by decide +kernel,rfl,by decide +kernel,by decide +kernel⟩
abbrev cS:Stmt:=top 9
theorem dH:aS ["deeds", "names", "wanted", "kept", "deed", "word", "name"] ["deeds", "names"] (au cS):=⟨rfl,rfl,rfl,by decide +kernel,rfl,by decide +kernel,by decide +kernel⟩
abbrev iJ:Stmt:=top 10
theorem gr:aS ["plan", "at_pieces", "pieces", "deeds", "end", "names", "way"] ["plan"] (au iJ):=⟨rfl,rfl,rfl,by decide +kernel,rfl,by decide +kernel,by decide +kernel⟩
abbrev gA:Stmt:=top 12
theorem j3:aS ["number", "stretch", "low", "high"] ["number", "stretch"] (au gA):=⟨rfl,rfl,rfl,by decide +kernel,rfl,by decide +kernel,by decide +kernel⟩
abbrev eJ:Stmt:=top 13
theorem gg:aS ["stretch", "number", "low", "high", "top"] ["stretch", "number"] (au eJ):=⟨rfl,rfl,rfl,by decide +kernel,rfl,by decide +kernel,by decide +kernel⟩
abbrev e7:Stmt:=top 14
theorem gQ:aS ["stretch", "number", "low", "high", "bottom"] ["stretch", "number"] (au e7):=⟨rfl,rfl,rfl,by decide +kernel,rfl,by decide +kernel,by decide +kernel⟩
abbrev gB:Stmt:=top 15
theorem uh:aS ["stretch", "number"] ["stretch", "number"] (au gB):=⟨rfl,rfl,rfl,by decide +kernel,rfl,by decide +kernel,by decide +kernel⟩
abbrev dQ:Stmt:=top 16
theorem hU:aS ["stretch", "number", "low", "high"] ["stretch", "number"] (au dQ):=⟨rfl,rfl,rfl,by decide +kernel,rfl,by decide +kernel,by decide +kernel⟩
abbrev gC:Stmt:=top 17
theorem ui:aS ["stretch", "word", "number", "side"] ["stretch", "word", "number", "side"] (au gC):=⟨rfl,rfl,rfl,by decide +kernel,rfl,by decide +kernel,by decide +kernel⟩
abbrev fb:Stmt:=top 18
theorem qR:aS ["stretch", "word", "number"] ["stretch", "word", "number"] (au fb):=⟨rfl,rfl,rfl,by decide +kernel,rfl,by decide +kernel,by decide +kernel⟩
abbrev dU:Stmt:=inClass (top 20) 1
theorem og:aS ["self", "name"] ["self", "name"] (au dU):=⟨rfl,rfl,rfl,by decide +kernel,rfl,by decide +kernel,by decide +kernel⟩
abbrev dr:Stmt:=inClass (top 20) 2
theorem gR:aS ["self", "deeds", "end"] ["self"] (au dr):=⟨rfl,rfl,rfl,by decide +kernel,rfl,by decide +kernel,by decide +kernel⟩
abbrev cg:Stmt:=inClass (top 20) 3
theorem jM:aS ["self"] ["self"] (au cg):=⟨rfl,rfl,rfl,by decide +kernel,rfl,by decide +kernel,by decide +kernel⟩
abbrev cT:Stmt:=inClass (top 20) 4
theorem mz:aS ["self"] ["self"] (au cT):=⟨rfl,rfl,rfl,by decide +kernel,rfl,by decide +kernel,by decide +kernel⟩
abbrev cw:Stmt:=inClass (top 20) 5
theorem j4:aS ["self"] ["self"] (au cw):=⟨rfl,rfl,rfl,by decide +kernel,rfl,by decide +kernel,by decide +kernel⟩
abbrev cU:Stmt:=inClass (top 20) 6
theorem jc:aS ["self", "deed", "word", "name"] ["self", "deed"] (au cU):=⟨rfl,rfl,rfl,by decide +kernel,rfl,by decide +kernel,by decide +kernel⟩
abbrev cV:Stmt:=inClass (top 20) 7
theorem mB:aS ["self", "piece"] ["self", "piece"] (au cV):=⟨rfl,rfl,rfl,by decide +kernel,rfl,by decide +kernel,by decide +kernel⟩
abbrev du:Stmt:=inClass (top 20) 8
theorem cF:aS ["self", "end", "word", "name", "number", "yes", "no", "worth"] ["self", "end"] (au du):=⟨rfl,rfl,rfl,by decide +kernel,rfl,by decide +kernel,by decide +kernel⟩
abbrev cW:Stmt:=inClass (top 20) 9
theorem gs:aS ["self", "deeds", "end"] ["self"] (au cW):=⟨rfl,rfl,rfl,by decide +kernel,rfl,by decide +kernel,by decide +kernel⟩
abbrev cJ:Stmt:=inClass (top 20) 0
theorem lC:aS ["self", "pieces", "begin", "worths", "numbers"] ["self", "pieces", "begin", "worths", "numbers"] (au cJ):=⟨rfl,rfl,rfl,by decide +kernel,rfl,by decide +kernel,by decide +kernel⟩
abbrev iK:Stmt:=top 21
theorem mC:aS ["stand", "steps", "done"] ["stand", "steps"] (au iK):=⟨rfl,rfl,rfl,by decide +kernel,rfl,by decide +kernel,by decide +kernel⟩
abbrev hV:Stmt:=top 22
theorem jl:aS ["plan", "piece", "worths", "numbers", "steps", "stand", "done", "held"] ["plan", "piece", "worths", "numbers", "steps"] (au hV):=⟨rfl,rfl,rfl,by decide +kernel,rfl,by decide +kernel,by decide +kernel⟩
abbrev lu:Stmt:=top 23
theorem Ac:aS ["plan", "numbers", "steps"] ["plan", "numbers", "steps"] (au lu):=⟨rfl,rfl,rfl,by decide +kernel,rfl,by decide +kernel,by decide +kernel⟩
abbrev gD:Stmt:=top 25
theorem j5:aS ["script", "k", "cell"] ["script", "k"] (au gD):=⟨rfl,rfl,rfl,by decide +kernel,rfl,by decide +kernel,by decide +kernel⟩
abbrev fM:Stmt:=top 26
theorem lT:aS ["bag", "many", "found"] ["bag", "many"] (au fM):=⟨rfl,rfl,rfl,by decide +kernel,rfl,by decide +kernel,by decide +kernel⟩
abbrev fc:Stmt:=top 27
theorem cP:aS ["bag", "letters", "many", "base", "at", "names", "k", "name"] ["bag"] (au fc):=⟨rfl,rfl,rfl,by decide +kernel,rfl,by decide +kernel,by decide +kernel⟩
abbrev eM:Stmt:=top 28
theorem oV:aS ["bag"] ["bag"] (au eM):=⟨rfl,rfl,rfl,by decide +kernel,rfl,by decide +kernel,by decide +kernel⟩
abbrev fN:Stmt:=top 29
theorem ju:aS ["bag", "names", "word", "name"] ["bag", "names"] (au fN):=⟨rfl,rfl,rfl,by decide +kernel,rfl,by decide +kernel,by decide +kernel⟩
abbrev gF:Stmt:=top 30
theorem iF:aS ["bag", "names", "count", "way", "word", "name"] ["bag", "names", "count"] (au gF):=⟨rfl,rfl,rfl,by decide +kernel,rfl,by decide +kernel,by decide +kernel⟩
abbrev fO:Stmt:=top 31
theorem fe:aS ["bag", "count", "most", "names", "pieces", "k", "many", "end"] ["bag", "count", "most"] (au fO):=⟨rfl,rfl,rfl,by decide +kernel,rfl,by decide +kernel,by decide +kernel⟩
abbrev ff:Stmt:=top 32
theorem qS:aS ["bag", "most"] ["bag", "most"] (au ff):=⟨rfl,rfl,rfl,by decide +kernel,rfl,by decide +kernel,by decide +kernel⟩
abbrev fP:Stmt:=top 33
theorem bD:aS ["plan", "state", "numbers", "piece", "place", "worths", "taken", "told", "word", "been", "deeds", "end", "deed", "worth", "there", "yes"] ["plan", "state", "numbers"] (au fP):=⟨rfl,rfl,rfl,by decide +kernel,rfl,by decide +kernel,by decide +kernel⟩
abbrev fQ:Stmt:=top 34
theorem hZ:aS ["plan", "numbers", "steps", "state", "k"] ["plan", "numbers", "steps"] (au fQ):=⟨rfl,rfl,rfl,by decide +kernel,rfl,by decide +kernel,by decide +kernel⟩
abbrev fg:Stmt:=top 35
theorem kY:aS ["bag", "many"] ["bag"] (au fg):=⟨rfl,rfl,rfl,by decide +kernel,rfl,by decide +kernel,by decide +kernel⟩
abbrev fR:Stmt:=top 36
theorem lU:aS ["plan", "numbers", "steps", "state"] ["plan", "numbers", "steps"] (au fR):=⟨rfl,rfl,rfl,by decide +kernel,rfl,by decide +kernel,by decide +kernel⟩
abbrev fh:Stmt:=top 37
theorem fE:aS ["plan", "less", "numbers", "steps", "word", "told", "found", "more"] ["plan", "less", "numbers", "steps"] (au fh):=⟨rfl,rfl,rfl,by decide +kernel,rfl,by decide +kernel,by decide +kernel⟩
abbrev dX:Stmt:=top 38
theorem oh:aS ["deeds"] ["deeds"] (au dX):=⟨rfl,rfl,rfl,by decide +kernel,rfl,by decide +kernel,by decide +kernel⟩
abbrev iG:Stmt:=top 39
theorem ir:aS ["script", "first", "plan", "less", "k", "bag", "numbers"] ["script"] (au iG):=⟨rfl,rfl,rfl,by decide +kernel,rfl,by decide +kernel,by decide +kernel⟩
section
variable {P:Program} {w:World} {K:PySem.W.Frag} {mg:Str->Option Value} {base:Heap}
theorem mD {f:Addr} {fd:FuncData} (F:bZ K "parts_of_kind" "parts_of_kind" cR f fd) (Z:Bl mg)  : bg P w K mg base bS 1 f fd ["thing", "kinds", "wanted"] (nW K):=by
 refine F.ok (k:=0) my (fun vs H Q E h=>?_) (fun cdv A outer s H vs Q E hr h=>?_)
 ·obtain⟨t,s,v0,xs,ks,w,rfl,_⟩:=h
  rfl
 ·obtain⟨t,s,v0,xs,ks,w,rfl,ht,hs,hl,q⟩:=h
  refine⟨_,(ar (aI (gh ["part", "kind"] ["wanted"] [2] rfl (zP rfl Z.zip (U (lY nS (pv 0) (lh ai) nB) (U (pv 1) ae))) rfl (by decide +kernel) (by decide +kernel) (by decide +kernel) ⟨⟨rfl,.inl rfl,rfl⟩,True.intro⟩ (fun _ _ _ _=>(nG (K:=K) (n:=2) rfl (cI (n:=2) rfl (aL (aA (i:=0) (show ((["part", "kind"]:List Str)++(["wanted"]:List Str)).Nodup by decide +kernel) rfl (Or.inl rfl) (hf:=Or.inr rfl)) (aL (aA (i:=1) (show ((["part", "kind"]:List Str)++(["wanted"]:List Str)).Nodup by decide +kernel) rfl (Or.inl rfl) (hf:=Or.inr rfl)) cv))))) (fun _ _ _ _=>(nF (aC bE (pv 1) (pv 2) (aK _)))) (fun _ _ _ _=>(pv 0))))),?_⟩
  refine⟨_,rfl,_,rfl,t,_,rfl,av.of ht,fun hw=>?_,fun _ p np=>?_⟩
  ·exfalso
   obtain⟨h1,_⟩:=hw
   simp [HT.bM] at h1
  ·have ec:gW (v0 :: xs) (some 1) none=xs:=by simp [gW,HT.bM]
   rw [ec]
   have sp:=ao.new (o:=.tup xs) np
   refine⟨_,rfl,p,s,rfl,⟨_,av.of aa⟩,⟨_,hs.same sp⟩,fun acc na=>?_⟩
   refine zQ (K:=K) (a:=p) (b:=s) (xs:=xs) (ys:=ks.map V.str) (fun i zs τ H'=>∃ (c1 c2:Option V),τ = [c1,c2,some (.str w)]/\zs=jg w xs ks i/\H' acc=some (.lst zs)/\H' p=some (.tup xs)/\ao H H') ?_ ?_ ?_ ?_
   ·exact⟨none,none,rfl,rfl,aa,ao.new na _ _ aa,sp.trans (ao.new na)⟩
   ·rintro i zs τ H4 hi ⟨c1,c2,rfl,rfl,ha,hp4,s4⟩
    exact⟨av.of hp4,hs.same s4,ha,aH (by have:=vh (w:=w) (xs:=xs) (ks:=ks) (i:=i);omega)⟩
   ·rintro i x y zs τ H4 u hx hy hu ⟨c1,c2,rfl,rfl,ha,hp4,s4⟩
    obtain⟨k,rfl,hk⟩:∃ k,y=V.str k/\ks[i]? = some k:=by
     rw [List.getElem?_map] at hy
     cases e:ks[i]? with
     | none=>rw [e] at hy;cases hy
     | some k=>rw [e] at hy;exact⟨k,(Option.some.inj hy).symm,rfl⟩
    have su:=ao.new (o:=.tup [x,.str k]) hu
    refine⟨u,_,rfl,av.of aa,rfl,_,_,rfl,_,_,rfl,rfl,?_⟩
    refine⟨_,rfl,_,rfl,rfl,_,rfl,?_⟩
    have hn:=tS (w:=w) hx hk
    by_cases hkw:k=w
    ·rw [if_pos hkw] at hn
     refine bu (decide_eq_true (congrArg V.str hkw)) ?_
     refine⟨_,rfl,su _ _ ha,_,_,rfl,hn.symm,aa,?_,?_⟩
     ·rw [af (bI hp4 ha (by intro z;cases z))]
      exact su _ _ hp4
     ·exact (s4.trans su).put (sp.free na)
    ·rw [if_neg hkw,List.append_nil] at hn
     refine ax (decide_eq_false fun z=>hkw (V.str.inj z)) ?_
     exact⟨_,_,rfl,hn.symm,su _ _ ha,su _ _ hp4,s4.trans su⟩
   ·rintro zs τ H4 ⟨c1,c2,rfl,rfl,ha,hp4,s4⟩
    rw [vg] at ha
    exact q acc H4 ha s4
theorem uj {f:Addr} {fd:FuncData} (F:bZ K "ways_on" "ways_on" gy f fd) (Z:Bl mg) {aE s0 s1 s2 s3:Addr} (GE:tT K mg aE s0 s1 s2 s3) (O_parts_of_kind:Own P w K mg base "parts_of_kind" 1 ["thing", "kinds", "wanted"] (nW K)):bg P w K mg base bS 3 f fd ["end"] m8:=by
 refine F.ok (k:=2) ug (fun vs H Q E h=>?_) (fun cdv A outer s H vs Q E hr h=>?_)
 ·obtain⟨ea,e,rfl,_⟩:=h
  rfl
 ·obtain⟨ea,e,rfl,he,q⟩:=h
  refine⟨_,(ar (aI (bR cc rfl Z.tuple d6 (U (aB O_parts_of_kind (hr.mono (by decide)) rfl (U (pv 0) (U (yz GE.tab rfl (ay aF (pv 0) ai (fun _ _=>rfl)) (fun _ _=>rfl)) (U aJ ae)))) ae)))),?_⟩
  obtain⟨xs,ev,hl,hp⟩:=vi e
  rw [ev] at he
  obtain⟨s,hs,ks⟩:=GE.at_ e
  refine⟨_,rfl,_,rfl,ea,_,0,_,rfl,rfl,av.of he,bo,_,s,rfl,hs,ea,s,_,xs,kE e, "piece",rfl,he,.inr ks,hl,fun l H1 hl1 s1=>?_⟩
  rw [hp] at hl1
  exact⟨l,_,rfl,.inl ⟨aM.of hl1,fun t ht=>q t _ aa (s1.trans (ao.new ht))⟩⟩
theorem rE {f:Addr} {fd:FuncData} (F:bZ K "asked_by" "asked_by" fK f fd) (Z:Bl mg)  : bg P w K mg base bS 1 f fd ["end"] jh:=by
 refine F.ok (k:=0) rD (fun vs H Q E h=>?_) (fun cdv A outer s H vs Q E hr h=>?_)
 ·obtain⟨ea,e,rfl,_⟩:=h
  rfl
 ·obtain⟨ea,e,rfl,he,q⟩:=h
  refine⟨_,(ar (aI (eQ (aC kq (ay aF (pv 0) ai (fun _ _=>rfl)) (bJ (U aJ (U aJ ae))) (by with_unfolding_all rfl)) (cq (U (ay aF (pv 0) ai (fun _ _=>rfl)) ae)) (cq ae)))),?_⟩
  cases e with
  | stop =>
   refine⟨_,rfl,ea,_,0,_,rfl,rfl,av.of he,bo,ln2,fun p1 np=>?_⟩
   have sp:=ao.new (o:=.tup [.str "less",.str "is"]) np
   refine⟨p1,_,rfl,.inr (av.of aa),rfl,rfl,_,rfl,?_⟩
   refine ax (by decide) ?_
   exact⟨(by show 0<=sizeLine;decide),fun l nl=>q l _ aa (sp.free nl) (sp.trans (ao.new nl))⟩
  | go p =>
   refine⟨_,rfl,ea,_,0,_,rfl,rfl,av.of he,bo,ln2,fun p1 np=>?_⟩
   have sp:=ao.new (o:=.tup [.str "less",.str "is"]) np
   refine⟨p1,_,rfl,.inr (av.of aa),rfl,rfl,_,rfl,?_⟩
   refine ax (by decide) ?_
   exact⟨(by show 0<=sizeLine;decide),fun l nl=>q l _ aa (sp.free nl) (sp.trans (ao.new nl))⟩
  | dD b x n p p2 =>
   refine⟨_,rfl,ea,_,0,_,rfl,rfl,av.of he,bo,ln2,fun p1 np=>?_⟩
   have sp:=ao.new (o:=.tup [.str "less",.str "is"]) np
   refine⟨p1,_,rfl,.inr (av.of aa),rfl,rfl,_,rfl,?_⟩
   refine bu (by cases b <;> decide) ?_
   exact⟨_,rfl,ea,_,1,_,rfl,rfl,av.of (sp _ _ he),cu,xJ,fun l nl=>q l _ aa (sp.free nl) (sp.trans (ao.new nl))⟩
theorem vM {f:Addr} {fd:FuncData} (F:bZ K "traced" "traced" hR f fd) (Z:Bl mg) (O_asked_by:Own P w K mg base "asked_by" 1 ["end"] jh):bg P w K mg base bS 3 f fd ["piece"] mr:=by
  refine F.ok (k:=2) fD (fun vs H Q E h=>?_) (fun cdv A outer s H vs Q E hr h=>?_)
  · obtain⟨pc,da,ea,ws,ds,e,rfl,_⟩:=h
    rfl
  · obtain⟨pc,da,ea,ws,ds,e,rfl,hpc,hda,hws,hea,hdl,q⟩:=h
    refine⟨_,(ah (dz (pv 0) (cI rfl (aL (aA (i:=1) fD.nd rfl (Or.inl rfl)) (aL (aA (i:=2) fD.nd rfl (Or.inl rfl)) cv))))
      (ah (aT (i:=3) fD.nd rfl (Or.inr rfl) md)
      (ah (aT (i:=4) fD.nd rfl (Or.inl rfl) (cq ae))
      (ah (eX PassesOwn.never rfl (iR (pv 1)) (aA (i:=5) fD.nd rfl (Or.inl rfl))
      (ah (pF (i:=6) (j:=7) rfl fD.nd rfl rfl (by decide) rfl rfl (U (ay aF (pv 5) ai (fun _ _=>rfl)) (U (ay aF (pv 5) ai (fun _ _=>rfl)) ae)) rfl)
      (ar (bc (aC bE (pv 6) aJ (aK _))
      (ar (bT (eS PySem.F.plainAttrs_list PySem.F.slot_list_append PySem.F.type_list_append cA (pv 4) (U (eO (cQ hr) (pv 3) (pv 7) (pv 7) ⟨rfl,rfl,rfl,rfl⟩) ae))))
      (ar (bc (aC bE (pv 6) aJ (aK _))
      (ar (eD (cQ hr) (pv 3) (pv 7) (eO (cQ hr) (pv 3) (ay aF (pv 5) ai (fun _ _=>rfl)) (ay aF (pv 5) ai (fun _ _=>rfl)) ⟨rfl,rfl,rfl,rfl⟩) rfl))
      (ar (bc (aC sW (pv 6) aJ (aK _))
      (ar (eD (cQ hr) (pv 3) (pv 7) kg rfl))
      aX))))))))
      (ah (bT (eS PySem.F.plainAttrs_list PySem.F.slot_list_extend PySem.F.type_list_extend uQ (pv 4) (U (gh ["name"] ["sources"] [3] rfl (iH (aB O_asked_by (hr.mono (by decide)) rfl (U (pv 2) ae))) rfl (by decide +kernel) (by decide +kernel) (by decide +kernel) ⟨⟨rfl,.inl rfl,rfl⟩,True.intro⟩ (fun _ _ _ _=>(aA (i:=0) (show ((["name"]:List Str)++(["sources"]:List Str)).Nodup by decide +kernel) rfl (Or.inl rfl) (hf:=Or.inr rfl))) (fun _ _ _ _=>eB) (fun _ _ _ _=>(eO (cQ hr) (pv 1) (pv 0) (pv 0) ⟨rfl,rfl,rfl,rfl⟩))) ae)))
      (ar (aI (bJ (U (pv 3) (U (gh ["name"] [] [] rfl (iH (pv 4)) rfl (by decide +kernel) (by decide +kernel) (by decide +kernel) True.intro (fun _ _ _ _=>(aA (i:=0) (show ((["name"]:List Str)++([]:List Str)).Nodup by decide +kernel) rfl (Or.inl rfl) (hf:=Or.inr rfl))) (fun _ _ _ _=>(nF (gG (kZ (pv 0))))) (fun _ _ _ _=>(pv 0))) ae)))))))))),?_⟩
    have hwl:ws.length=ds.length:=by rw [hws.len,List.length_map]
    refine⟨_,rfl,pc,_,rfl,av.of hpc,rfl,_,_,rfl,_,_,rfl,rfl,?_⟩
    refine fun d nd=>?_
    refine⟨(by show 0<=sizeLine;decide),fun l nl=>?_⟩
    have s1:ao H (upd (upd H d (.dK [])) l (.lst [])):=(ao.new nd).trans (ao.new nl)
    have nld:d ≠ l:=fun z=>by rw [<-z,aa] at nl;cases nl
    have nl0:H l=none:=(ao.new nd).free nl
    refine⟨_,rfl,da,rfl,⟨_,av.of (s1 _ _ hda)⟩,?_⟩
    refine lg (K:=K) (a:=da) (xs:=ws) (fun i σ H'=>∃ kvs c5 c6 c7,σ = [some (.ref pc),some (.ref da),some (.ref ea),some (.ref d),some (.ref l),c5,c6,c7]/\H' d=some (.dK kvs)/\SrcAt kvs (de (ds.take i)).1/\H' l=some (.lst ((de (ds.take i)).2.map oS))/\kvs.length<=i/\ao H H') ?_ ?_ ?_ ?_
    · exact⟨[],none,none,none,rfl,(by rw [af nld,aa]),SrcAt.nil,aa,Nat.le_refl _,s1⟩
    · rintro i σ H2 hi ⟨kvs,c5,c6,c7,rfl,h1,h2,h3,h4,h5⟩
      exact av.of (h5 _ _ hda)
    · rintro i x σ H2 hx ⟨kvs,c5,c6,c7,rfl,h1,h2,h3,h4,h5⟩
      have hwd:=hws.len
      have hi:i < ds.length:=by
        have:=(List.getElem?_eq_some_iff.mp hx).1
        omega
      have hdd:ds[i]? = some ds[i]:=by simp [hi]
      generalize ds[i] = dd at hdd
      have ht:=xc hdd
      obtain⟨v,hv,rd⟩:=hws.get (i:=i) (d:=bH dd) (by rw [List.getElem?_map,hdd];rfl)
      rw [hx] at hv
      cases hv
      obtain⟨dp,rfl,hdp0⟩:=iI rd
      have hdp:=h5 _ _ hdp0
      have ndl:=qD ds i
      generalize de (ds.take i)=S at h2 h3 ht ndl
      cases dd
      case put x n =>
        refine⟨_,rfl,dp,_,0,_,rfl,rfl,av.of hdp,bo,_,rfl,dp,_,1,_,rfl,rfl,av.of hdp,cu,_,_,rfl,?_⟩
        refine⟨_,rfl,rfl,_,rfl,?_⟩
        refine ax (show decide (V.str "put" = V.str "tell")=false by decide +kernel) ?_
        refine⟨_,rfl,rfl,_,rfl,?_⟩
        refine ax (show decide (V.str "put" = V.str "copy")=false by decide +kernel) ?_
        refine⟨_,rfl,rfl,_,rfl,?_⟩
        refine bu (show (!decide (V.str "put" = V.str "add"))=true by decide +kernel) ?_
        refine⟨_,rfl,_,rfl,d,_,rfl,fT.k (k:=Sum.inr x) h1 (aH (by omega)),?_⟩
        refine⟨putK kvs (Sum.inr x) (oS none),_,_,_,rfl,aa,(by rw [ht];exact h2.put x none),?_,?_,h5.put nd⟩
        · rw [af nld.symm,h3,ht];simp [lR,gN]
        · have:=cx kvs (Sum.inr x:Key) (oS none);omega
      case copy x y =>
        refine⟨_,rfl,dp,_,0,_,rfl,rfl,av.of hdp,bo,_,rfl,dp,_,1,_,rfl,rfl,av.of hdp,cu,_,_,rfl,?_⟩
        refine⟨_,rfl,rfl,_,rfl,?_⟩
        refine ax (show decide (V.str "copy" = V.str "tell")=false by decide +kernel) ?_
        refine⟨_,rfl,rfl,_,rfl,?_⟩
        refine bu (show decide (V.str "copy" = V.str "copy")=true by decide +kernel) ?_
        refine⟨_,rfl,d,rfl,.inl ⟨kvs,.inl h1⟩,_,rfl,dp,_,2,_,rfl,rfl,av.of hdp,at2,_,rfl,dp,_,2,_,rfl,rfl,av.of hdp,at2,_,_,eT.k (k:=Sum.inr y) h1,h2 y,_,rfl,_,rfl,d,_,rfl,fT.k (k:=Sum.inr x) h1 (aH (by omega)),?_⟩
        refine⟨putK kvs (Sum.inr x) (oS (S.1 y)),_,_,_,rfl,aa,(by rw [ht];exact h2.put x (S.1 y)),?_,?_,h5.put nd⟩
        · rw [af nld.symm,h3,ht];simp [lR,gN]
        · have:=cx kvs (Sum.inr x:Key) (oS (S.1 y));omega
      case add x n =>
        refine⟨_,rfl,dp,_,0,_,rfl,rfl,av.of hdp,bo,_,rfl,dp,_,1,_,rfl,rfl,av.of hdp,cu,_,_,rfl,?_⟩
        refine⟨_,rfl,rfl,_,rfl,?_⟩
        refine ax (show decide (V.str "add" = V.str "tell")=false by decide +kernel) ?_
        refine⟨_,rfl,rfl,_,rfl,?_⟩
        refine ax (show decide (V.str "add" = V.str "copy")=false by decide +kernel) ?_
        refine⟨_,rfl,rfl,_,rfl,?_⟩
        refine ax (show (!decide (V.str "add" = V.str "add"))=false by decide +kernel) ?_
        refine⟨kvs,_,_,_,rfl,h1,(by rw [ht];exact h2),?_,Nat.le_succ_of_le h4,h5⟩
        rw [h3,ht];simp [lR,gN]
      case read x =>
        refine⟨_,rfl,dp,_,0,_,rfl,rfl,av.of hdp,bo,_,rfl,dp,_,1,_,rfl,rfl,av.of hdp,cu,_,_,rfl,?_⟩
        refine⟨_,rfl,rfl,_,rfl,?_⟩
        refine ax (show decide (V.str "read" = V.str "tell")=false by decide +kernel) ?_
        refine⟨_,rfl,rfl,_,rfl,?_⟩
        refine ax (show decide (V.str "read" = V.str "copy")=false by decide +kernel) ?_
        refine⟨_,rfl,rfl,_,rfl,?_⟩
        refine bu (show (!decide (V.str "read" = V.str "add"))=true by decide +kernel) ?_
        refine⟨_,rfl,_,rfl,d,_,rfl,fT.k (k:=Sum.inr x) h1 (aH (by omega)),?_⟩
        refine⟨putK kvs (Sum.inr x) (oS none),_,_,_,rfl,aa,(by rw [ht];exact h2.put x none),?_,?_,h5.put nd⟩
        · rw [af nld.symm,h3,ht];simp [lR,gN]
        · have:=cx kvs (Sum.inr x:Key) (oS none);omega
      case tell x =>
        refine⟨_,rfl,dp,_,0,_,rfl,rfl,av.of hdp,bo,_,rfl,dp,_,1,_,rfl,rfl,av.of hdp,cu,_,_,rfl,?_⟩
        refine⟨_,rfl,rfl,_,rfl,?_⟩
        refine bu (show decide (V.str "tell" = V.str "tell")=true by decide +kernel) ?_
        refine⟨_,rfl,.inl ⟨rfl,_,aM.of h3⟩,_,rfl,d,rfl,.inl ⟨kvs,.inl h1⟩,_,rfl,_,rfl,_,_,eT.k (k:=Sum.inr x) h1,h2 x,l,_,_,rfl,rfl,h3,aH (by rw [List.length_map];omega),?_⟩
        refine⟨kvs,_,_,_,rfl,(by rw [af nld];exact h1),(by rw [ht];exact h2),?_,Nat.le_succ_of_le h4,h5.put nl0⟩
        rw [aa,ht];simp [lR,gN]
    · rintro σ H2 ⟨kvs,c5,c6,c7,rfl,h1,h2,h3,h4,h5⟩
      have hsl:=nY ds
      rw [hwl,List.take_of_length_le (Nat.le_refl _)] at h2 h3
      refine⟨_,rfl,.inl ⟨rfl,_,aM.of h3⟩,?_⟩
      refine⟨_,rfl,ea,e,rfl,h5 _ _ hea,fun l2 H3 hl2 nl2 s3=>?_⟩
      refine⟨l2,rfl,⟨_,aM.of hl2⟩,fun acc na=>?_⟩
      have h1':=s3 _ _ h1
      have h3':=s3 _ _ h3
      refine lj (K:=K) (a:=l2) (xs:=(cz e).map V.str) (fun i zs τ H'=>∃ c1,τ = [c1,some (.ref d)]/\zs=(((cz e).take i).map (d9 ds)).map oS/\H' acc=some (.lst zs)/\ao H3 H') ?_ ?_ ?_ ?_
      · exact⟨none,rfl,rfl,aa,ao.new na⟩
      · rintro i zs τ H4 hi ⟨c1,rfl,rfl,ha,s4⟩
        exact⟨aM.of (s4 _ _ hl2),ha,aH (by have:(cz e).length<=1:=(by cases e <;> simp [cz]);simp;omega)⟩
      · rintro i x zs τ H4 hx ⟨c1,rfl,rfl,ha,s4⟩
        rw [List.getElem?_map] at hx
        cases hn:(cz e)[i]? with
        | none=>rw [hn] at hx;cases hx
        | some y =>
          rw [hn] at hx
          cases hx
          change ∃ v,_/\_
          refine⟨_,rfl,d,rfl,.inl ⟨kvs,.inl (s4 _ _ h1')⟩,_,rfl,_,rfl,_,_,eT.k (k:=Sum.inr y) (s4 _ _ h1'),h2 y,ha,?_⟩
          refine⟨_,rfl,?_,aa,s4.put na⟩
          rw [List.take_add_one,hn]
          simp [d9]
      · rintro zs τ H4 ⟨c1,rfl,rfl,ha,s4⟩
        have s34:=s3.trans s4
        have nacc:H2 acc=none:=s3.free na
        have nla:l ≠ acc:=fun z=>by rw [z,nacc] at h3;cases h3
        have nda:d ≠ acc:=fun z=>by rw [z,nacc] at h1;cases h1
        have ea1:(((cz e).take ((cz e).map V.str).length).map (d9 ds))=(cz e).map (d9 ds):=by rw [List.length_map,List.take_of_length_le (Nat.le_refl _)]
        rw [ea1] at ha
        have hel:(cz e).length<=1:=by cases e <;> simp [cz]
        refine⟨l,acc,_,_,rfl,rfl,s34 _ _ h3,ha,Nat.le_of_lt (aH (by simp;omega)),?_⟩
        rw [<-List.map_append]
        have es:fj (ds,e)=((de ds).2++(cz e).map (d9 ds)).filterMap id:=rfl
        have hal:((de ds).2++(cz e).map (d9 ds)).length<=501:=by rw [List.length_append,List.length_map];omega
        generalize ((de ds).2++(cz e).map (d9 ds))=os at es hal
        have hl5:(upd H4 l (.lst (os.map oS))) l=some (.lst (os.map oS)):=aa
        have hd5:(upd H4 l (.lst (os.map oS))) d=some (.dK kvs):=by rw [af nld];exact s34 _ _ h1
        have s5:ao H (upd H4 l (.lst (os.map oS))):=(h5.trans s34).put nl0
        generalize (upd H4 l (.lst (os.map oS)))=H5 at hl5 hd5 s5
        refine⟨_,rfl,_,rfl,l,rfl,⟨_,aM.of hl5⟩,fun acc2 na2=>?_⟩
        refine lj (K:=K) (a:=l) (xs:=os.map oS) (fun i zs τ H'=>∃ c1,τ = [c1]/\zs=((os.take i).filterMap id).map V.str/\H' acc2=some (.lst zs)/\ao H5 H') ?_ ?_ ?_ ?_
        · exact⟨none,rfl,rfl,aa,ao.new na2⟩
        · rintro i zs τ H6 hi ⟨c1,rfl,rfl,ha,s6⟩
          refine⟨aM.of (s6 _ _ hl5),ha,aH ?_⟩
          have:((os.take i).filterMap id).length<=(os.take i).length:=List.length_filterMap_le _ _
          rw [List.length_map]
          rw [List.length_take] at this
          omega
        · rintro i x zs τ H6 hx ⟨c1,rfl,rfl,ha,s6⟩
          rw [List.getElem?_map] at hx
          cases hn:os[i]? with
          | none=>rw [hn] at hx;cases hx
          | some o =>
            rw [hn] at hx
            cases hx
            cases o with
            | none =>
              refine⟨_,rfl,_,rfl,?_⟩
              refine ax (by decide) ?_
              refine⟨_,rfl,?_,ha,s6⟩
              rw [List.take_add_one,hn]
              simp
            | some y =>
              refine⟨_,rfl,_,rfl,?_⟩
              refine bu (by simp [oS]) ?_
              refine⟨_,rfl,ha,_,rfl,?_,aa,s6.put na2⟩
              rw [List.take_add_one,hn]
              simp [oS]
        · rintro zs τ H6 ⟨c1,rfl,rfl,ha,s6⟩
          rw [List.length_map,List.take_of_length_le (Nat.le_refl _),<-es] at ha
          refine⟨ln2,fun t nt=>?_⟩
          have sf:=s6.trans (ao.new (o:=.tup [.ref d,.ref acc2]) nt)
          exact q t d acc2 kvs _ aa (sf _ _ hd5) h2 (ao.new nt _ _ ha) ((s5.trans s6).free nt) nd (s5.free na2) (s5.trans sf)
theorem qT {f:Addr} {fd:FuncData} (F:bZ K "ways_back" "ways_back" e6 f fd) (Z:Bl mg) (O_ways_on:Own P w K mg base "ways_on" 3 ["end"] m8):bg P w K mg base bS 4 f fd ["plan"] qE:=by
  refine F.ok (k:=3) eI (fun vs H Q E h=>?_) (fun cdv A outer s H vs Q E hr h=>?_)
  · obtain⟨plv,ps,rfl,_⟩:=h
    rfl
  · obtain⟨plv,ps,rfl,hp,hin,hpl,q⟩:=h
    refine⟨_,(ah (jQ (i:=1) ["piece"] [] [] rfl eI.nd rfl rfl rfl (iR (pv 0)) rfl (by decide +kernel) (by decide +kernel) (by decide +kernel) True.intro (fun _ _ _ _=>(aA (i:=0) (show ((["piece"]:List Str)++([]:List Str)).Nodup by decide +kernel) rfl (Or.inl rfl) (hf:=Or.inr rfl))) (fun _ _ _ _=>eB) (fun _ _ _ _=>(cq ae)))
      (ah (eX PassesOwn.never rfl (sD rfl Z.enumerate (U (pv 0) ae)) (cI rfl (aL (aA (i:=2) eI.nd rfl (Or.inl rfl)) (aL (cI rfl (aL (aA (i:=3) eI.nd rfl (Or.inl rfl)) (aL (aA (i:=4) eI.nd rfl (Or.inl rfl)) cv))) cv)))
      (ar (eX PassesOwn.never rfl (iR (aB O_ways_on (hr.mono (by decide)) rfl (U (pv 4) ae))) (aA (i:=5) eI.nd rfl (Or.inl rfl))
      (ar (bT (eS PySem.F.plainAttrs_list PySem.F.slot_list_append PySem.F.type_list_append cA (ay bF (pv 1) (pv 5) (fun _ _=>rfl)) (U (pv 2) ae)))))))
      (ar (aI (pv 1))))),?_⟩
    obtain⟨p,xs,rfl,e1,rp⟩:=aY.bU hp
    have hxl:xs.length=ps.length:=by rw [rp.len,List.length_map]
    refine⟨_,rfl,p,rfl,⟨_,av.of e1⟩,fun acc na=>?_⟩
    refine pV (K:=K) (a:=p) (xs:=xs) (fun i zs τ H'=>∃ (c1:Option V) (rs:List Addr),τ = [c1]/\zs=rs.map V.ref/\H' acc=some (.lst zs)/\rs.length=i/\rs.Nodup/\(∀ r ∈ rs,H' r=some (.lst []))/\(∀ r ∈ rs,H r=none)/\acc ∉ rs/\ao H H') ?_ ?_ ?_ ?_
    · exact⟨none,[],rfl,rfl,aa,rfl,List.nodup_nil,(by simp),(by simp),(by simp),ao.new na⟩
    · rintro i zs τ H2 hi ⟨c1,rs,rfl,rfl,h1,h2,h3,h4,h5,h6,h7⟩
      exact⟨av.of (h7 _ _ e1),h1,aH (by rw [List.length_map];omega)⟩
    · rintro i x zs τ H2 hx ⟨c1,rs,rfl,rfl,h1,h2,h3,h4,h5,h6,h7⟩
      change _<=sizeLine/\_
      refine⟨(by show 0<=sizeLine;decide),fun r nr=>?_⟩
      have s1:=ao.new (o:=.lst []) nr
      have nra:acc ≠ r:=fun z=>by rw [z,nr] at h1;cases h1
      refine⟨s1 _ _ h1,_,rs ++ [r],rfl,(by simp),aa,(by simp [h2]),?_,?_,?_,?_,(h7.trans s1).put na⟩
      · rw [List.nodup_append]
        refine⟨h3,by simp,fun a ha b hb z=>?_⟩
        rw [List.mem_singleton] at hb
        subst hb;subst z
        have:=h4 _ ha
        rw [nr] at this;cases this
      · intro r' hr'
        rcases List.mem_append.mp hr' with h | h
        · rw [af (show r' ≠ acc from fun z=>h6 (by rw [<-z];exact h))];exact s1 _ _ (h4 _ h)
        · rw [List.mem_singleton.mp h,af nra.symm,aa]
      · intro r' hr'
        rcases List.mem_append.mp hr' with h | h
        · exact h5 _ h
        · rw [List.mem_singleton.mp h];exact h7.free nr
      · intro z
        rcases List.mem_append.mp z with h | h
        · exact h6 h
        · exact nra (List.mem_singleton.mp h)
    · rintro zs τ H2 ⟨c1,rs,rfl,rfl,h1,h2,h3,h4,h5,h6,h7⟩
      rw [hxl] at h2
      have T0:fm H2 acc rs ((List.replicate ps.length ([]:List Nat)).map oN):=by
        refine⟨h1,fun k r o g1 g2=>?_,by simp [h2],h3,h6⟩
        rw [List.getElem?_map,List.getElem?_replicate] at g2
        split at g2
        · cases g2;exact h4 _ (List.mem_of_getElem? g1)
        · cases g2
      refine⟨_,rfl,p,rfl,.inl ⟨⟨_,av.of (h7 _ _ e1)⟩,?_⟩⟩
      refine xb (xs:=xs) (fun i σ H'=>∃ (bs:List (List Nat)) (c1 c2 c3 c4:Option V),σ = [some (.ref p),some (.ref acc),c1,c2,c3,c4]/\fm H' acc rs (bs.map oN)/\bs.length=ps.length/\(∀ (k:Nat) (b:List Nat),bs[k]? = some b->Back ps i k b)/\ao H H') ?_ ?_ ?_ ?_
      · refine⟨_,none,none,none,none,rfl,T0,by simp,fun k b hb=>?_,h7⟩
        rw [List.getElem?_replicate] at hb
        split at hb
        · cases hb;exact⟨Nat.zero_le _,by simp⟩
        · cases hb
      · rintro i σ H3 hi ⟨bs,c1,c2,c3,c4,rfl,T,hb,hB,s3⟩
        exact av.of (s3 _ _ e1)
      · rintro i x σ H3 t hx ht ⟨bs,c1,c2,c3,c4,rfl,T,hb,hB,s3⟩
        have hi:i < ps.length:=by
          have:=(List.getElem?_eq_some_iff.mp hx).1
          omega
        have hpp:ps[i]? = some ps[i]:=by simp [hi]
        generalize hpe:ps[i] = pe at hpp
        obtain⟨ds,e⟩:=pe
        obtain⟨p',xs',pc,da,ea,vs,hpv,e1',el,hx',e2,e3,r3,e4⟩:=fw hp hpp
        cases hpv
        rw [e1] at e1'
        cases e1'
        rw [hx] at hx'
        cases hx'
        have st:=ao.new (o:=.tup [.int (i:Nat),.ref pc]) ht
        have s3t:=s3.trans st
        refine⟨t,_,rfl,av.of aa,rfl,_,_,rfl,_,_,rfl,pc,_,rfl,av.of (s3t _ _ e2),rfl,_,_,rfl,_,_,rfl,rfl,rfl,?_⟩
        refine⟨_,rfl,ea,e,rfl,s3t _ _ e4,fun wt H4 hwt s4=>?_⟩
        refine⟨wt,rfl,⟨_,av.of hwt⟩,?_⟩
        have T4:=(T.same st).same s4
        have hwin:=qF hin hpp
        refine lg (K:=K) (a:=wt) (xs:=vN (cC e)) (fun j σ H'=>∃ (bs':List (List Nat)) (c:Option V),σ = [some (.ref p),some (.ref acc),some (.int (i:Nat)),some (.ref da),some (.ref ea),c]/\fm H' acc rs (bs'.map oN)/\bs'.length=ps.length /\
          (∀ (k:Nat) (b':List Nat),bs'[k]? = some b'->∃ b,bs[k]? = some b/\b' = b++List.replicate (((cC e).take j).count k) i)/\H' wt=some (.tup (vN (cC e)))/\ao H H') ?_ ?_ ?_ ?_
        · exact⟨bs,c4,rfl,T4,hb,fun k b' h=>⟨b',h,by simp⟩,hwt,s3t.trans s4⟩
        · rintro j σ H5 hj ⟨bs',c,rfl,T5,hb5,hB5,hw5,s5⟩
          exact av.of hw5
        · rintro j y σ H5 hy ⟨bs',c,rfl,T5,hb5,hB5,hw5,s5⟩
          rw [List.getElem?_map] at hy
          cases hwj:(cC e)[j]? with
          | none=>rw [hwj] at hy;cases hy
          | some k =>
            rw [hwj] at hy
            cases hy
            have hk:k < bs'.length:=by rw [hb5];exact hwin k (List.mem_of_getElem? hwj)
            have hbk:bs'[k]? = some bs'[k]:=by simp [hk]
            generalize bs'[k] = bk at hbk
            obtain⟨r,hr,hro,hrv⟩:=T5.get (k:=k) (o:=oN bk) (by rw [List.getElem?_map,hbk];rfl)
            obtain⟨b0,hb0,eb0⟩:=hB5 k bk hbk
            have hB0:=hB k b0 hb0
            have hlen:bk.length<=5000:=by
              have h1:=hB0.1
              have h2:((cC e).take j).count k<=(cC e).length:=Nat.le_trans List.count_le_length (by rw [List.length_take];exact Nat.min_le_right _ _)
              have h3:=ji e
              rw [eb0,List.length_append,List.length_replicate]
              omega
            refine⟨_,rfl,_,rfl,acc,_,_,_,rfl,rfl,aM.of T5.lst,bp hrv,.inl ⟨rfl,_,aM.of hro⟩,_,rfl,r,_,_,rfl,rfl,hro,aH (by rw [List.length_map];omega),?_⟩
            have hnw:r ≠ wt:=bI hro hw5 (by intro z;cases z)
            refine⟨bs'.set k (bk ++ [i]),_,rfl,?_,(by rw [List.length_set];exact hb5),?_,(by rw [af hnw.symm];exact hw5),s5.put (h5 _ (List.mem_of_getElem? hr))⟩
            · have:=T5.put (o':=oN (bk ++ [i])) hr
              rw [List.map_set]
              have e:oN (bk ++ [i])=.lst (vN bk ++ [.int (i:Nat)]):=by simp [oN]
              rw [e] at this ⊢
              exact this
            · intro k' b' hb'
              rw [List.take_add_one,hwj]
              by_cases ek:k' = k
              · subst ek
                rw [List.getElem?_set_self hk] at hb'
                cases hb'
                refine⟨b0,hb0,?_⟩
                rw [eb0,List.append_assoc]
                congr 1
                simp [List.count_append,List.replicate_succ']
              · rw [List.getElem?_set_ne (Ne.symm ek)] at hb'
                obtain⟨b,g1,g2⟩:=hB5 k' b' hb'
                refine⟨b,g1,?_⟩
                rw [g2]
                simp [List.count_append,List.count_cons,Ne.symm ek]
        · rintro σ H5 ⟨bs',c,rfl,T5,hb5,hB5,hw5,s5⟩
          refine⟨bs',_,_,_,_,rfl,T5,hb5,fun k b' hb'=>?_,s5⟩
          obtain⟨b,g1,g2⟩:=hB5 k b' hb'
          rw [List.length_map,List.take_of_length_le (Nat.le_refl _)] at g2
          obtain⟨q1,q2⟩:=hB k b g1
          have hc2:(cC e).count k<=(cC e).length:=List.count_le_length
          have hw2:=ji e
          refine⟨by rw [g2,List.length_append,List.length_replicate];omega,fun a=>?_⟩
          rw [g2,List.mem_append,q2 a]
          constructor
          · rintro (⟨h1,h2⟩ | h)
            · exact⟨Nat.lt_succ_of_lt h1,h2⟩
            · have ha:=(List.mem_replicate.mp h)
              have:a=i:=ha.2
              subst this
              exact⟨Nat.lt_succ_self _,_,hpp,List.count_pos_iff.mp (Nat.pos_of_ne_zero ha.1)⟩
          · rintro⟨h1,pp,h2,h3⟩
            by_cases ea:a=i
            · subst ea
              rw [hpp] at h2
              cases h2
              exact .inr (List.mem_replicate.mpr ⟨Nat.ne_of_gt (List.count_pos_iff.mpr h3),rfl⟩)
            · exact .inl ⟨by omega,pp,h2,h3⟩
      · rintro σ H3 ⟨bs,c1,c2,c3,c4,rfl,T,hb,hB,s3⟩
        rw [hxl] at hB
        exact⟨_,rfl,q acc rs bs H3 T hb hB na h5 s3⟩
theorem yZ {f:Addr} {fd:FuncData} (F:bZ K "live" "live" jL f fd) (Z:Bl mg) (O_traced:Own P w K mg base "traced" 3 ["piece"] mr) (O_ways_back:Own P w K mg base "ways_back" 4 ["plan"] qE):bg P w K mg base bS 5 f fd ["plan"] qI:=by
  refine F.ok (k:=4) fL (fun vs H Q E h=>?_) (fun cdv A outer s H vs Q E hr h=>?_)
  · obtain⟨plv,ps,pool,mm,rfl,_⟩:=h
    rfl
  · obtain⟨plv,ps,pool,mm,rfl,hp,ok,hmm,h64,hpl,q⟩:=h
    refine⟨_,(ah (jQ (i:=1) ["piece"] [] [] rfl fL.nd rfl rfl rfl (iR (pv 0)) rfl (by decide +kernel) (by decide +kernel) (by decide +kernel) True.intro (fun _ _ _ _=>(aA (i:=0) (show ((["piece"]:List Str)++([]:List Str)).Nodup by decide +kernel) rfl (Or.inl rfl) (hf:=Or.inr rfl))) (fun _ _ _ _=>eB) (fun _ _ _ _=>(aB O_traced (hr.mono (by decide)) rfl (U (pv 0) ae))))
      (ah (aT (i:=2) fL.nd rfl (Or.inl rfl) (aB O_ways_back (hr.mono (by decide)) rfl (U (pv 0) ae)))
      (ah (jQ (i:=3) ["sources", "asked"] [] [] rfl fL.nd rfl rfl rfl (iH (pv 1)) rfl (by decide +kernel) (by decide +kernel) (by decide +kernel) True.intro (fun _ _ _ _=>(nG (K:=K) (n:=2) rfl (cI (n:=2) rfl (aL (aA (i:=0) (show ((["sources", "asked"]:List Str)++([]:List Str)).Nodup by decide +kernel) rfl (Or.inl rfl) (hf:=Or.inr rfl)) (aL (aA (i:=1) (show ((["sources", "asked"]:List Str)++([]:List Str)).Nodup by decide +kernel) rfl (Or.inl rfl) (hf:=Or.inr rfl)) cv))))) (fun _ _ _ _=>eB) (fun _ _ _ _=>(xa ["name"] [] [] rfl ((xh (K:=K) rfl) (pv 1)) rfl (by decide +kernel) (by decide +kernel) (by decide +kernel) True.intro (fun _ _ _ _=>(aA (i:=0) (show ((["name"]:List Str)++([]:List Str)).Nodup by decide +kernel) rfl (Or.inl rfl) (hf:=Or.inr rfl))) (fun _ _ _ _=>eB) (fun _ _ _ _=>(pv 0)) (fun _ _ _ _=>fF))))
      (ah (vy (i:=4) ["at", "names", "name"] [] [] rfl fL.nd rfl rfl rfl (sD rfl Z.enumerate (U (pv 3) ae)) rfl (by decide +kernel) (by decide +kernel) (by decide +kernel) True.intro (fun _ _ _ _=>(nG (K:=K) (n:=2) rfl (cI (n:=2) rfl (aL (aA (i:=0) (show ((["at", "names", "name"]:List Str)++([]:List Str)).Nodup by decide +kernel) rfl (Or.inl rfl) (hf:=Or.inr rfl)) (aL (aA (i:=1) (show ((["at", "names", "name"]:List Str)++([]:List Str)).Nodup by decide +kernel) rfl (Or.inl rfl) (hf:=Or.inr rfl)) cv))))) (fun _ _ _ _=>eB) (fun _ _ _ _ _=>yF rfl rfl (pv 1) (aA (i:=2) (show ((["at", "names", "name"]:List Str)++([]:List Str)).Nodup by decide +kernel) rfl (Or.inl rfl) (hf:=Or.inr rfl)) eB (bJ (U (pv 0) (U (pv 2) ae)))))
      (ah (pG PassesOwn.never (v7 (pv 4) (fun _=>rfl))
      (ah (dz (zu PySem.F.plainAttrs_list PySem.F.slot_list_pop PySem.F.type_list_pop zw (pv 4)) (cI rfl (aL (aA (i:=5) fL.nd rfl (Or.inl rfl)) (aL (aA (i:=6) fL.nd rfl (Or.inl rfl)) cv))))
      (ar (eX PassesOwn.never rfl (iH (ay bF (pv 2) (pv 5) (fun _ _=>rfl))) (aA (i:=7) fL.nd rfl (Or.inl rfl))
      (ah (aT (i:=8) fL.nd rfl (Or.inl rfl) (eO (cQ hr) (ay aF (ay bF (pv 1) (pv 7) (fun _ _=>rfl)) ai (fun _ _=>rfl)) (pv 6) (pv 6) ⟨rfl,rfl,rfl,rfl⟩))
      (ar (bc (PW.pt (iP (gG (kZ (pv 8))) (gU (gG (uW (cQ hr) (pv 8) (ay bF (pv 3) (pv 7) (fun _ _=>rfl)))))))
      (ah (eD (cQ hr) (ay bF (pv 3) (pv 7) (fun _ _=>rfl)) (pv 8) fF rfl)
      (ar (bT (eS PySem.F.plainAttrs_list PySem.F.slot_list_append PySem.F.type_list_append cA (pv 4) (U (bJ (U (pv 7) (U (pv 8) ae))) ae)))))
      aX)))))))
      (ar (aI (bR cc rfl Z.tuple d6 (U (gh ["names"] [] [] rfl (iH (pv 3)) rfl (by decide +kernel) (by decide +kernel) (by decide +kernel) True.intro (fun _ _ _ _=>(aA (i:=0) (show ((["names"]:List Str)++([]:List Str)).Nodup by decide +kernel) rfl (Or.inl rfl) (hf:=Or.inr rfl))) (fun _ _ _ _=>eB) (fun _ _ _ _=>(bR (nZ (K:=K) rfl) rfl Z.tuple d6 (U (bL (qo rfl) rfl Z.sorted ve (U (pv 0) ae)) ae)))) ae))))))))),?_⟩
    obtain⟨p,xs,rfl,e1,rp⟩:=aY.bU hp
    have hxl:xs.length=ps.length:=by rw [rp.len,List.length_map]
    have hin:=ok.kG
    refine⟨_,rfl,p,rfl,⟨_,av.of e1⟩,fun tl ntl=>?_⟩
    refine pV (K:=K) (a:=p) (xs:=xs) (fun i zs τ H'=>∃ (c1:Option V) (tts:List Addr),τ = [c1]/\zs=tts.map V.ref/\H' tl=some (.lst zs)/\tts.length=i/\(∀ (k:Nat) (tt:Addr) (pc:Piece),tts[k]? = some tt->ps[k]? = some pc->jX H' tl tt pc)/\ao H H') ?_ ?_ ?_ ?_
    · exact⟨none,[],rfl,rfl,aa,rfl,(by intro k tt pc h;simp at h),ao.new ntl⟩
    · rintro i zs τ H2 hi ⟨c1,tts,rfl,rfl,h1,h2,h3,h4⟩
      exact⟨av.of (h4 _ _ e1),h1,aH (by rw [List.length_map];omega)⟩
    · rintro i x zs τ H2 hx ⟨c1,tts,rfl,rfl,h1,h2,h3,h4⟩
      have hi:i < ps.length:=by
        have:=(List.getElem?_eq_some_iff.mp hx).1
        omega
      have hpp:ps[i]? = some ps[i]:=by simp [hi]
      have hdl:=(ok.hX _ (List.mem_of_getElem? hpp)).1
      generalize ps[i] = pe at hpp hdl
      obtain⟨ds,e⟩:=pe
      have hdl:ds.length<=mm:=hdl
      obtain⟨p',xs',pc,da,ea,vs,hpv,e1',el,hx',e2,e3,r3,e4⟩:=fw hp hpp
      cases hpv
      rw [e1] at e1'
      cases e1'
      rw [hx] at hx'
      cases hx'
      change ∃ v,_/\_
      refine⟨_,rfl,pc,da,ea,vs,ds,e,rfl,h4 _ _ e2,h4 _ _ e3,r3.same h4 (bP ds),h4 _ _ e4,by omega,fun t d l kvs H3 g1 g2 g3 g4 g5 g6 g7 s3=>?_⟩
      have nl:l ≠ tl:=fun z=>by rw [z,h1] at g7;cases g7
      refine⟨s3 _ _ h1,_,tts ++ [t],rfl,(by simp),aa,(by simp [h2]),?_,(h4.trans s3).put ntl⟩
      intro k tt pc' hk hpk
      rcases Nat.lt_trichotomy k tts.length with hlt | heq | hgt
      · rw [List.getElem?_append_left hlt] at hk
        exact ((h3 k tt pc' hk hpk).same s3).acc (s3 _ _ h1) _
      · subst heq
        simp at hk
        subst hk
        rw [h2] at hpk
        rw [hpp] at hpk
        cases hpk
        exact jX.acc ⟨d,l,kvs,g1,g2,g3,g4,nl⟩ (s3 _ _ h1) _
      · rw [List.getElem?_eq_none (by simp;omega)] at hk
        cases hk
    · rintro zs τ H2 ⟨c1,tts,rfl,rfl,htl,htn,hTr,s2⟩
      rw [hxl] at htn
      refine⟨_,rfl,_,ps,rfl,hp.same s2 (cL ps),hin,by omega,fun bl brs bs H3 B hbl hB nbl nbr s3=>?_⟩
      have hTr3:∀ (k:Nat) (tt:Addr) (pc:Piece),tts[k]? = some tt->ps[k]? = some pc->jX H3 tl tt pc:=fun k tt pc a b=>(hTr k tt pc a b).same s3
      have htl3:=s3 _ _ htl
      have sH3:=s2.trans s3
      clear hTr htl
      refine⟨_,rfl,tl,rfl,⟨_,aM.of htl3⟩,fun fl nfl=>?_⟩
      refine lj (K:=K) (a:=tl) (xs:=tts.map V.ref) (fun i zs τ H'=>∃ (c1 c2:Option V) (rs:List Addr),τ = [c1,c2]/\zs=rs.map V.ref/\H' fl=some (.lst zs)/\rs.length=i/\rs.Nodup/\(∀ (k:Nat) (r:Addr) (pc:Piece),rs[k]? = some r->ps[k]? = some pc->H' r=some (oK (gO (fj pc))))/\(∀ r ∈ rs,H3 r=none)/\fl ∉ rs/\ao H3 H') ?_ ?_ ?_ ?_
      · exact⟨none,none,[],rfl,rfl,aa,rfl,List.nodup_nil,(by intro k r pc h;simp at h),(by simp),(by simp),ao.new nfl⟩
      · rintro i zs τ H4 hi ⟨c1,c2,rs,rfl,rfl,h1,h2,h3,h4,h5,h6,h7⟩
        rw [List.length_map] at hi
        exact⟨aM.of (h7 _ _ htl3),h1,aH (by rw [List.length_map];omega)⟩
      · rintro i x zs τ H4 hx ⟨c1,c2,rs,rfl,rfl,h1,h2,h3,h4,h5,h6,h7⟩
        rw [List.getElem?_map] at hx
        cases htt:tts[i]? with
        | none=>rw [htt] at hx;cases hx
        | some tt =>
          rw [htt] at hx
          cases hx
          have hi:i < ps.length:=by
            have:=(List.getElem?_eq_some_iff.mp htt).1
            omega
          have hpp:ps[i]? = some ps[i]:=by simp [hi]
          have hdl:=(ok.hX _ (List.mem_of_getElem? hpp)).1
          generalize ps[i] = pe at hpp hdl
          have hal:=qG pe
          obtain⟨d,al,kvs,t1,t2,t3,t4,t5⟩:=(hTr3 i tt pe htt hpp).same h7
          refine⟨tt,_,rfl,av.of t1,rfl,_,_,rfl,_,_,rfl,rfl,?_⟩
          change ∃ v,_/\_
          refine⟨_,rfl,al,rfl,⟨_,aM.of t4⟩,fun r nr=>?_⟩
          have s1:=ao.new (o:=.dK []) nr
          have nrf:fl ≠ r:=aw h1 nr
          refine yI (K:=K) (a:=al) (xs:=(fj pe).map V.str) (fun j ys τ' H'=>∃ c3,τ' = [c3]/\ys=kS (gO ((fj pe).take j))/\H' r=some (.dK ys)/\ao H4 H') ?_ ?_ ?_ ?_
          · exact⟨none,rfl,rfl,aa,s1⟩
          · rintro j ys τ' H5 hj ⟨c3,rfl,rfl,g1,g2⟩
            refine⟨aM.of (g2 _ _ t4),g1,aH ?_⟩
            have:=sF ((fj pe).take j)
            rw [List.length_take] at this
            rw [nh]
            omega
          · rintro j x ys τ' H5 hx ⟨c3,rfl,rfl,g1,g2⟩
            rw [List.getElem?_map] at hx
            cases hn:(fj pe)[j]? with
            | none=>rw [hn] at hx;cases hx
            | some y =>
              rw [hn] at hx
              cases hx
              change ∃ v,_/\_
              refine⟨_,rfl,Sum.inr y,rfl,g1,_,rfl,?_,aa,g2.put nr⟩
              rw [vA,List.take_add_one,hn]
              simp [jY]
          · rintro ys τ' H5 ⟨c3,rfl,rfl,g1,g2⟩
            rw [List.length_map,List.take_of_length_le (Nat.le_refl _)] at g1
            refine⟨g2 _ _ h1,_,_,rs ++ [r],rfl,(by simp),aa,(by simp [h2]),?_,?_,?_,?_,(h7.trans g2).put nfl⟩
            · rw [List.nodup_append]
              refine⟨h3,by simp,fun a ha b hb z=>?_⟩
              rw [List.mem_singleton] at hb
              subst hb;subst z
              obtain⟨k,hk⟩:=List.getElem?_of_mem ha
              have hkl:k < ps.length:=by have:=(List.getElem?_eq_some_iff.mp hk).1;omega
              have:=h4 k _ _ hk (show ps[k]? = some ps[k] by simp [hkl])
              rw [nr] at this;cases this
            · intro k r' pc' hk hpk
              rcases Nat.lt_trichotomy k rs.length with hlt | heq | hgt
              · rw [List.getElem?_append_left hlt] at hk
                have:=g2 _ _ (h4 k r' pc' hk hpk)
                rw [af (bI this (g2 _ _ h1) (by intro z;cases z))]
                exact this
              · subst heq
                simp at hk
                subst hk
                rw [h2,hpp] at hpk
                cases hpk
                rw [af nrf.symm]
                exact g1
              · rw [List.getElem?_eq_none (by simp;omega)] at hk
                cases hk
            · intro r' hr'
              rcases List.mem_append.mp hr' with h | h
              · exact h5 _ h
              · rw [List.mem_singleton.mp h];exact h7.free nr
            · intro z
              rcases List.mem_append.mp z with h | h
              · exact h6 h
              · exact nrf (List.mem_singleton.mp h)
      · rintro zs τ H4 ⟨c1',c2',rs,rfl,rfl,hfl,hrn,hrd,hrs,hr0,hfo,s4⟩
        rw [List.length_map,htn] at hrn
        have O4:fm H4 fl rs ((F0 ps).map oK):=by
          refine⟨hfl,fun k r o g1 g2=>?_,by simp [hrn,F0],hrd,hfo⟩
          unfold F0 at g2
          rw [List.getElem?_map,List.getElem?_map] at g2
          cases hk:ps[k]? with
          | none=>rw [hk] at g2;cases g2
          | some pc=>rw [hk] at g2;cases g2;exact hrs k r pc g1 hk
        clear hrs
        refine⟨_,rfl,fl,rfl,.inr ⟨⟨_,aM.of hfl⟩,fun wl nwl=>?_⟩⟩
        refine yL (xs:=rs.map V.ref) (fun i zs τ H'=>∃ (c1 c2 c3:Option V) (wts:List Addr) (W:List (Nat × Str)),τ = [c1,c2,c3]/\zs=wts.map V.ref/\H' wl=some (.lst zs)/\eZ H' wts W/\(∀ q:Nat × Str,q ∈ W ↔ q.1 < i/\iy (F0 ps) q.1 q.2)/\W.length<=i * 501/\ao H4 H') ?_ ?_ ?_ ?_
        · exact⟨none,none,none,[],[],rfl,rfl,aa,.nil,(by simp),(by simp),ao.new nwl⟩
        · rintro i zs τ H5 hi ⟨c1,c2,c3,wts,W,rfl,rfl,h1,h2,h3,h4,h5⟩
          exact aM.of (h5 _ _ hfl)
        · rintro i x zs τ H5 t hx ht ⟨c1,c2,c3,wts,W,rfl,rfl,h1,h2,h3,h4,h5⟩
          rw [List.getElem?_map] at hx
          cases hr:rs[i]? with
          | none=>rw [hr] at hx;cases hx
          | some r =>
            rw [hr] at hx
            cases hx
            have hi:i < ps.length:=by
              have:=(List.getElem?_eq_some_iff.mp hr).1
              omega
            have hpp:ps[i]? = some ps[i]:=by simp [hi]
            have hdl:=(ok.hX _ (List.mem_of_getElem? hpp)).1
            generalize ps[i] = pe at hpp hdl
            have hal:=qG pe
            have hdd:=sF (fj pe)
            have hF:=tY hpp
            have hro:H4 r=some (oK (gO (fj pe))):=O4.at_ i r _ hr (by rw [List.getElem?_map,hF];rfl)
            generalize hys:gO (fj pe)=ys at hF hro hdd
            have st:=ao.new (o:=.tup [.int (i:Nat),.ref r]) ht
            have h1':=st _ _ h1
            have h5':=h5.trans st
            have h2':eZ (upd H5 t (.tup [.int (i:Nat),.ref r])) wts W:=h2.keep fun c ys e=>st _ _ e
            have htt:(upd H5 t (.tup [.int (i:Nat),.ref r])) t=some (.tup [.int (i:Nat),.ref r]):=aa
            generalize (upd H5 t (.tup [.int (i:Nat),.ref r]))=H6 at h1' h5' h2' htt
            refine⟨t,_,rfl,av.of htt,rfl,_,_,rfl,_,_,rfl,rfl,?_⟩
            have hwr:wl ≠ r:=fun z=>by rw [z,hro] at nwl;cases nwl
            change ∃ v,_/\_
            refine⟨_,rfl,r,kS ys,rfl,h5' _ _ hro,fun ob=>⟨fun j zs' τ' H'=>∃ (c3:Option V) (wts':List Addr),τ' = [some (.int (i:Nat)),some (.ref r),c3]/\zs' = wts'.map V.ref/\H' wl=some (.lst zs')/\H' r=some (.eW ob (.dK (kS ys)))/\eZ H' wts' (W++(ys.take j).map fun y=>(i,y))/\(∀ c o,H4 c=some o->c ≠ r->H' c=some o),?_,?_,?_,?_⟩⟩
            · refine⟨c3,wts,rfl,rfl,(by rw [af hwr];exact h1'),aa,?_,fun c o hc hn=>by rw [af hn];exact h5' _ _ hc⟩
              simp only [List.take_zero,List.map_nil,List.append_nil]
              exact h2'.keep fun c ys e=>by rw [af (bI e (h5' _ _ hro) (by intro z;cases z))];exact e
            · rintro j zs' τ' H7 hj ⟨c3,wts',rfl,rfl,g1,g2,g3,g4⟩
              refine⟨g2,g1,aH ?_⟩
              have:=g3.len
              rw [nh] at hj
              rw [List.length_map,this,List.length_append,List.length_map,List.length_take]
              have:i * 501<=400 * 501:=Nat.mul_le_mul_right _ (by omega)
              omega
            · rintro j k u zs' τ' H7 hk ⟨c3,wts',rfl,rfl,g1,g2,g3,g4⟩
              unfold kS at hk
              rw [List.getElem?_map] at hk
              cases hy:ys[j]? with
              | none=>rw [hy] at hk;cases hk
              | some y =>
                rw [hy] at hk
                cases hk
                change ∃ v,_/\_
                refine⟨_,rfl,_,rfl,ln2,fun wt nwt=>?_⟩
                have sw:=ao.new (o:=.tup [.int (i:Nat),.str y]) nwt
                refine⟨sw _ _ g1,_,wts' ++ [wt],rfl,(by simp),aa,?_,?_,?_⟩
                · rw [af hwr.symm];exact sw _ _ g2
                · rw [List.take_add_one,hy,List.map_append,<-List.append_assoc]
                  refine eZ.snoc (q:=(i,y)) ?_ (g3.keep fun c zs e=>?_)
                  · show upd (upd H7 wt _) wl _ wt=_
                    rw [af (aw g1 nwt).symm];exact aa
                  · rw [af (bI e g1 (by intro z;cases z))];exact sw _ _ e
                · intro c o hc hn
                  rw [af (aw hc nwl)]
                  exact sw _ _ (g4 c o hc hn)
            · rintro zs' τ' H7 ⟨c3,wts',rfl,rfl,g1,g2,g3,g4⟩
              rw [nh,List.take_of_length_le (Nat.le_refl _)] at g3
              refine⟨_,_,_,wts',_,rfl,rfl,(by rw [af hwr];exact g1),g3.keep fun c zs e=>(by rw [af (bI e g2 (by intro z;cases z))];exact e),fun q=>?_,?_,fun c o hc=>?_⟩
              · rw [List.mem_append,h3 q]
                constructor
                · rintro (⟨a,b⟩ | a)
                  · exact⟨Nat.lt_succ_of_lt a,b⟩
                  · obtain⟨y,hy,rfl⟩:=List.mem_map.mp a
                    exact⟨Nat.lt_succ_self _,_,hF,hy⟩
                · rintro⟨a,b⟩
                  by_cases e:q.1=i
                  · obtain⟨zs,b1,b2⟩:=b
                    rw [e,hF] at b1
                    cases b1
                    exact .inr (List.mem_map.mpr ⟨q.2,b2,by rw [<-e]⟩)
                  · exact .inl ⟨by omega,b⟩
              · rw [List.length_append,List.length_map,Nat.succ_mul]
                omega
              · by_cases e:c=r
                · rw [e] at hc
                  rw [hro] at hc
                  cases hc
                  rw [e]
                  exact aa
                · rw [af e];exact g4 c o hc e
        · rintro zs τ H5 ⟨c1,c2,c3,wts,W,rfl,rfl,hwl,hWt,hW,hWn,s5⟩
          rw [List.length_map,hrn] at hW hWn
          have hW':∀ q:Nat × Str,q ∈ W ↔ iy (F0 ps) q.1 q.2:=fun q=>(hW q).trans ⟨fun h=>h.2,fun h=>⟨by
            obtain⟨xs,h1,_⟩:=h
            have:=(List.getElem?_eq_some_iff.mp h1).1
            simpa [F0] using this,h⟩⟩
          have I0:=z7 hW'
          have O5:=O4.same s5
          have nwl3:H3 wl=none:=s4.free nwl
          have s35:=s4.trans s5
          have hrw:∀ r ∈ rs,wl ≠ r:=fun r hr z=>by
            obtain⟨k,hk⟩:=List.getElem?_of_mem hr
            have hkl:k < ps.length:=by have:=(List.getElem?_eq_some_iff.mp hk).1;omega
            have hkp:ps[k]? = some ps[k]:=by simp [hkl]
            have:=O4.at_ k r (oK (gO (fj ps[k]))) hk (by rw [List.getElem?_map,tY hkp];rfl)
            rw [<-z,nwl] at this
            cases this
          have hfw:fl ≠ wl:=aw hfl nwl
          refine⟨fun m σ H'=>∃ (F:List (List Str)) (W:List (Nat × Str)) (wts:List Addr) (u5 u6 u7 u8:Option V),σ = [some (.ref p),some (.ref tl),some (.ref bl),some (.ref fl),some (.ref wl),u5,u6,u7,u8]/\fm H' fl rs (F.map oK)/\H' wl=some (.lst (wts.map V.ref))/\eZ H' wts W/\i9 ps F W (fun _ _=>False)/\m=W.length+2 * (ps.length * pool.length - ja F)/\m<=300000/\ao H3 H',⟨_,F0 ps,W,wts,none,none,none,none,rfl,O5,hwl,hWt,I0,rfl,?_,s35⟩,?_⟩
          · have h1:ps.length * pool.length<=400 * 64:=Nat.mul_le_mul hpl (Nat.le_of_lt h64)
            have h2:ps.length * 501<=400 * 501:=Nat.mul_le_mul_right _ hpl
            omega
          clear hWt hW hWn hW' I0 O5 hwl
          rintro m σ H6 ⟨F,W,wts,u5,u6,u7,u8,rfl,O6,hw6,hWt,I6,hm,hmb,s6⟩
          have hlenW:=hWt.len
          have hFb:∀ xs ∈ F,xs.Nodup/\xs.length<=pool.length:=fun xs hxs=>by
            obtain⟨k,hk⟩:=List.getElem?_of_mem hxs
            have:=I6.ng k xs hk
            exact⟨this.1,o7 this.1 fun x hx=>jj ok (this.2 x hx)⟩
          refine⟨_,rfl,!(wts.map V.ref).isEmpty,.inl ⟨_,aM.of hw6,rfl⟩,?_⟩
          rcases (show W = []\/∃ W' q,W=W' ++ [q] from (List.eq_nil_or_concat W).imp id fun ⟨a,b,h⟩=>⟨a,b,by rw [h,List.concat_eq_append]⟩) with rfl | ⟨W',⟨k,x⟩,rfl⟩
          · cases hWt
            refine ax rfl ?_
            refine⟨_,rfl,fl,rfl,⟨_,aM.of O6.lst⟩,fun acc na=>?_⟩
            refine lj (K:=K) (a:=fl) (xs:=rs.map V.ref) (fun i zs τ H'=>∃ (c1:Option V) (L:List (List Str)),τ = [c1]/\aV H' zs (L.map fun xs=>PyData.tuple (xs.map PyData.str))/\zs.length=i/\L.length=i/\(∀ (k:Nat) (xs:List Str),L[k]? = some xs->sortedS xs=true/\xs.Nodup/\∀ x,x ∈ xs ↔ fJ ps k x)/\H' acc=some (.lst zs)/\ao H6 H') ?_ ?_ ?_ ?_
            · exact⟨none,[],rfl,.nil,rfl,rfl,(by intro k xs h;simp at h),aa,ao.new na⟩
            · rintro i zs τ H7 hi ⟨c1,L,rfl,h1,h2,h3,h4,h5,h6⟩
              rw [List.length_map] at hi
              exact⟨aM.of (h6 _ _ O6.lst),h5,aH (by omega)⟩
            · rintro i x zs τ H7 hx ⟨c1,L,rfl,h1,h2,h3,h4,h5,h6⟩
              rw [List.getElem?_map] at hx
              cases hr:rs[i]? with
              | none=>rw [hr] at hx;cases hx
              | some r =>
                rw [hr] at hx
                cases hx
                have hi:i < F.length:=by
                  have:=(List.getElem?_eq_some_iff.mp hr).1
                  rw [I6.len]
                  omega
                have hFi:F[i]? = some F[i]:=by simp [hi]
                generalize F[i] = ys at hFi
                have hro:H6 r=some (oK ys):=O6.at_ i r _ hr (by rw [List.getElem?_map,hFi];rfl)
                have hyb:=hFb ys (List.mem_of_getElem? hFi)
                change ∃ v,_/\_
                refine⟨_,rfl,r,kS ys,ys,rfl,h6 _ _ hro,yM ys,by omega,fun l ss hperm hsort nl=>?_⟩
                refine⟨l,_,rfl,.inl ⟨aM.of aa,fun t nt=>?_⟩⟩
                have sl:=(ao.new (o:=.lst (ss.map V.str)) nl).trans (ao.new (o:=.tup (ss.map V.str)) nt)
                have ht2:(upd (upd H7 l (.lst (ss.map V.str))) t (.tup (ss.map V.str))) t=some (.tup (ss.map V.str)):=aa
                generalize (upd (upd H7 l (.lst (ss.map V.str))) t (.tup (ss.map V.str)))=H8 at sl ht2
                have ha8:=sl _ _ h5
                refine⟨ha8,_,L ++ [ss],rfl,?_,(by simp [h2]),(by simp [h3]),?_,aa,(h6.trans sl).put na⟩
                · rw [List.map_append]
                  have r1:aV H8 (zs ++ [.ref t]) (L.map (fun xs=>PyData.tuple (xs.map PyData.str)) ++ [.tuple (ss.map PyData.str)]):=(h1.same sl (jq L)).app (.tup ht2 (qJ _ _))
                  refine r1.put ha8 ?_
                  have:=jq (L ++ [ss])
                  rw [List.map_append] at this
                  exact this
                · intro k xs hk
                  rcases Nat.lt_trichotomy k L.length with hlt | heq | hgt
                  · rw [List.getElem?_append_left hlt] at hk
                    exact h4 k xs hk
                  · subst heq
                    simp at hk
                    subst hk
                    refine⟨hsort,hperm.nodup_iff.mpr hyb.1,fun x=>?_⟩
                    rw [hperm.mem_iff,h3]
                    refine Iff.trans ⟨fun h=>⟨_,hFi,h⟩,fun ⟨zs,a,b⟩=>?_⟩ (I6.is i x)
                    rw [hFi] at a;cases a;exact b
                  · rw [List.getElem?_eq_none (by simp;omega)] at hk
                    cases hk
            · rintro zs τ H7 ⟨c1,L,rfl,h1,h2,h3,h4,h5,h6⟩
              rw [List.length_map,hrn] at h3
              refine⟨acc,_,rfl,.inl ⟨aM.of h5,fun t nt=>?_⟩⟩
              exact q _ L _ (.tup aa (h1.same (ao.new nt) (jq L))) h3 h4 (((sH3.trans s6).trans h6).trans (ao.new nt))
          · obtain⟨ws,wt,rfl,hWs,hwt⟩:=hWt.snoc_inv
            refine bu (by cases ws <;> rfl) ?_
            have hwev:(ws ++ [wt]).map V.ref=ws.map V.ref ++ [.ref wt]:=by rw [List.map_append];rfl
            obtain⟨fk,hFk,hxk⟩:=I6.wt (k,x) (by simp)
            have hlk:=(I6.ng k fk hFk).2 x hxk
            have hkl:k < ps.length:=by rw [<-I6.len];exact (List.getElem?_eq_some_iff.mp hFk).1
            have hbk:bs[k]? = some bs[k]:=by simp [show k < bs.length by omega]
            generalize bs[k] = bb at hbk
            have hBb:=hB k bb hbk
            have B6:=B.same s6
            obtain⟨br,hbr,hbo,hbv⟩:=B6.get (k:=k) (o:=oN bb) (by rw [List.getElem?_map,hbk];rfl)
            have hbo3:H3 br=some (oN bb):=B.at_ k br _ hbr (by rw [List.getElem?_map,hbk];rfl)
            have hWl:(W' ++ [(k,x)]).length=W'.length+1:=by simp
            refine⟨fun σ' H'=>∃ (F:List (List Str)) (W:List (Nat × Str)) (wts:List Addr) (u5 u6 u7 u8:Option V),σ' = [some (.ref p),some (.ref tl),some (.ref bl),some (.ref fl),some (.ref wl),u5,u6,u7,u8]/\fm H' fl rs (F.map oK)/\H' wl=some (.lst (wts.map V.ref))/\eZ H' wts W/\i9 ps F W (fun _ _=>False)/\W.length+2 * (ps.length * pool.length - ja F) < m/\ao H3 H',fun σ' H' ⟨F,W,wts,u5,u6,u7,u8,a1,a2,a3,a4,a5,a6,a7⟩=>⟨_,a6,F,W,wts,u5,u6,u7,u8,a1,a2,a3,a4,a5,rfl,by omega,a7⟩,?_⟩
            refine⟨_,rfl,.inl ⟨rfl,_,aM.of hw6⟩,wl,_,.ref wt,rfl,rfl,hw6,(by rw [hwev];simp),?_⟩
            rw [hwev,List.dropLast_concat]
            have hwt7:(upd H6 wl (.lst (ws.map V.ref))) wt=some (.tup [.int (k:Nat),.str x]):=by rw [af (bI hwt hw6 (by intro z;cases z))];exact hwt
            have O7:fm (upd H6 wl (.lst (ws.map V.ref))) fl rs (F.map oK):=⟨by rw [af hfw];exact O6.lst,fun j r o g1 g2=>by
              rw [af (hrw r (List.mem_of_getElem? g1)).symm];exact O6.at_ j r o g1 g2,O6.len,O6.nd,O6.out⟩
            have hw7:(upd H6 wl (.lst (ws.map V.ref))) wl=some (.lst (ws.map V.ref)):=aa
            have s7:ao H3 (upd H6 wl (.lst (ws.map V.ref))):=s6.put nwl3
            have hWs7:eZ (upd H6 wl (.lst (ws.map V.ref))) ws W':=hWs.keep fun c zs e=>by rw [af (bI e hw6 (by intro z;cases z))];exact e
            generalize (upd H6 wl (.lst (ws.map V.ref)))=H7 at hwt7 O7 hw7 s7 hWs7
            refine⟨wt,_,rfl,av.of hwt7,rfl,_,_,rfl,_,_,rfl,rfl,?_⟩
            have B7:=B.same s7
            refine⟨_,rfl,_,rfl,bl,_,_,_,rfl,rfl,aM.of B7.lst,bp hbv,br,rfl,⟨_,aM.of (s7 _ _ hbo3)⟩,?_⟩
            refine vV (K:=K) (a:=br) (xs:=vN bb) (fun j σ H'=>∃ (F:List (List Str)) (W:List (Nat × Str)) (wts:List Addr) (u7 u8:Option V),σ = [some (.ref p),some (.ref tl),some (.ref bl),some (.ref fl),some (.ref wl),some (.int (k:Nat)),some (.str x),u7,u8]/\fm H' fl rs (F.map oK)/\H' wl=some (.lst (wts.map V.ref))/\eZ H' wts W/\i9 ps F W (fun k' x'=>k' = k/\x' = x)/\(∀ a ∈ bb.take j,∀ pc:Piece,ps[a]? = some pc->∀ y,d9 pc.1 x=some y->iy F a y)/\W.length+2 * (ps.length * pool.length - ja F) < m/\ao H3 H') ?_ ?_ ?_ ?_
            · exact⟨F,W',ws,_,_,rfl,O7,hw7,hWs7,I6.pop,(by simp),(by omega),s7⟩
            · rintro j σ H8 hj ⟨F,W,wts,u7,u8,rfl,O8,hw8,hWt8,I8,hcl,hm8,s8⟩
              exact aM.of (s8 _ _ hbo3)
            · rintro j y σ H8 hy ⟨F,W,wts,u7,u8,rfl,O8,hw8,hWt8,I8,hcl,hm8,s8⟩
              rw [List.getElem?_map] at hy
              cases haj:bb[j]? with
              | none=>rw [haj] at hy;cases hy
              | some a =>
                rw [haj] at hy
                cases hy
                obtain⟨hal,pc,hpc,hkw⟩:=(hBb.2 a).mp (List.mem_of_getElem? haj)
                have htt:tts[a]? = some tts[a]:=by simp [show a < tts.length by omega]
                generalize tts[a] = tt at htt
                obtain⟨d,al,kvs,t1,t2,t3,t4,t5⟩:=(hTr3 a tt pc htt hpc).same s8
                have hFl:a < F.length:=by rw [I8.len];exact hal
                have hFa:F[a]? = some F[a]:=by simp [hFl]
                generalize F[a] = fa at hFa
                obtain⟨r,hr,hro,hrv⟩:=O8.get (k:=a) (o:=oK fa) (by rw [List.getElem?_map,hFa];rfl)
                refine⟨_,rfl,_,rfl,tl,_,_,_,rfl,rfl,aM.of (s8 _ _ htl3),bp (by rw [List.getElem?_map,htt];rfl),tt,_,0,_,rfl,rfl,av.of t1,bo,d,rfl,.inl ⟨kvs,.inl t2⟩,_,rfl,_,rfl,_,_,eT.k (k:=Sum.inr x) t2,t3 x,?_⟩
                cases hsx:d9 pc.1 x with
                | none =>
                  refine⟨_,rfl,_,rfl,?_⟩
                  refine ax (by decide) ?_
                  refine cb ?_
                  refine⟨F,W,wts,_,_,rfl,O8,hw8,hWt8,I8,fun a' ha' pc' hp' y' hy'=>?_,hm8,s8⟩
                  rw [List.take_add_one,haj] at ha'
                  rcases List.mem_append.mp ha' with g | g
                  · exact hcl a' g pc' hp' y' hy'
                  · have:=List.mem_singleton.mp g
                    subst this
                    rw [hpc] at hp'
                    cases hp'
                    rw [hsx] at hy'
                    cases hy'
                | some z =>
                  refine⟨_,rfl,_,rfl,?_⟩
                  refine bu (by simp [oS]) ?_
                  refine⟨_,rfl,_,rfl,_,rfl,fl,_,_,_,rfl,rfl,aM.of O8.lst,bp hrv,r,_,rfl,eT.k (k:=Sum.inr z) hro,_,rfl,?_⟩
                  have hfab:=(I8.ng a fa hFa)
                  have hfal:fa.length<=pool.length:=o7 hfab.1 fun x hx=>jj ok (hfab.2 x hx)
                  have hlz:fJ ps a z:=.back hlk hpc hkw hsx
                  by_cases hz:z ∈ fa
                  · refine ax (by rw [vz,decide_eq_true hz];rfl) ?_
                    refine⟨F,W,wts,_,_,rfl,O8,hw8,hWt8,I8,fun a' ha' pc' hp' y' hy'=>?_,hm8,s8⟩
                    rw [List.take_add_one,haj] at ha'
                    rcases List.mem_append.mp ha' with g | g
                    · exact hcl a' g pc' hp' y' hy'
                    · have:=List.mem_singleton.mp g
                      subst this
                      rw [hpc] at hp'
                      cases hp'
                      rw [hsx] at hy'
                      cases hy'
                      exact⟨_,hFa,hz⟩
                  · refine bu (by rw [vz,decide_eq_false hz];rfl) ?_
                    refine⟨_,rfl,_,rfl,fl,_,_,_,rfl,rfl,aM.of O8.lst,bp hrv,_,rfl,r,_,rfl,fT.k (k:=Sum.inr z) hro (aH (by rw [nh];omega)),?_⟩
                    rw [vA]
                    have hadd:ix fa z=fa ++ [z]:=by unfold ix;rw [if_neg hz]
                    rw [hadd]
                    have hrm:=List.mem_of_getElem? hr
                    have O9:fm (upd H8 r (oK (fa ++ [z]))) fl rs ((F.set a (fa ++ [z])).map oK):=by rw [List.map_set];exact O8.put hr
                    have hw9:(upd H8 r (oK (fa ++ [z]))) wl=some (.lst (wts.map V.ref)):=by rw [af (hrw r hrm)];exact hw8
                    have s9:ao H3 (upd H8 r (oK (fa ++ [z]))):=s8.put (hr0 r hrm)
                    have hWt9:eZ (upd H8 r (oK (fa ++ [z]))) wts W:=hWt8.keep fun c zs e=>by rw [af (bI e hro (by intro z;cases z))];exact e
                    change (_:Hp->Prop) (upd H8 r (oK (fa ++ [z])))
                    generalize (upd H8 r (oK (fa ++ [z])))=H9 at O9 hw9 s9 hWt9
                    have hwn:wts.length=W.length:=hWt9.len
                    refine⟨_,rfl,.inl ⟨rfl,_,aM.of hw9⟩,_,rfl,_,rfl,ln2,fun wt2 nwt2=>?_⟩
                    have sw:=ao.new (o:=.tup [.int (a:Nat),.str z]) nwt2
                    have hw10:=sw _ _ hw9
                    have nw2:wl ≠ wt2:=aw hw9 nwt2
                    refine⟨wl,_,_,rfl,rfl,hw10,aH (by rw [List.length_map];omega),?_⟩
                    have ht:=sum_set (y:=z) hFa
                    have htb:ja (F.set a (fa ++ [z]))<=ps.length * pool.length:=by
                      have I9:=I8.add hFa hz hlz
                      rw [<-I9.len]
                      refine z5 fun xs hxs=>?_
                      obtain⟨k',hk'⟩:=List.getElem?_of_mem hxs
                      have:=I9.ng k' xs hk'
                      exact o7 this.1 fun x hx=>jj ok (this.2 x hx)
                    refine⟨F.set a (fa ++ [z]),W ++ [(a,z)],wts ++ [wt2],_,_,rfl,?_,?_,?_,I8.add hFa hz hlz,fun a' ha' pc' hp' y' hy'=>?_,?_,?_⟩
                    · exact⟨by rw [af hfw];exact sw _ _ O9.lst,fun j r o g1 g2=>by
                        rw [af (hrw r (List.mem_of_getElem? g1)).symm];exact sw _ _ (O9.at_ j r o g1 g2),O9.len,O9.nd,O9.out⟩
                    · rw [aa,List.map_append];rfl
                    · refine eZ.snoc (q:=(a,z)) ?_ (hWt9.keep fun c zs e=>?_)
                      · rw [af nw2.symm];exact aa
                      · rw [af (bI e hw9 (by intro z;cases z))];exact sw _ _ e
                    · rw [List.take_add_one,haj] at ha'
                      rcases List.mem_append.mp ha' with g | g
                      · exact (jK hFa _ _).mpr (.inl (hcl a' g pc' hp' y' hy'))
                      · have:=List.mem_singleton.mp g
                        subst this
                        rw [hpc] at hp'
                        cases hp'
                        rw [hsx] at hy'
                        cases hy'
                        exact (jK hFa _ _).mpr (.inr ⟨rfl,rfl⟩)
                    · rw [List.length_append]
                      simp only [List.length_cons,List.length_nil]
                      omega
                    · exact (s9.trans sw).put nwl3
            · rintro σ H8 ⟨F,W,wts,u7,u8,rfl,O8,hw8,hWt8,I8,hcl,hm8,s8⟩
              rw [List.length_map,List.take_of_length_le (Nat.le_refl _)] at hcl
              refine⟨F,W,wts,_,_,_,_,rfl,O8,hw8,hWt8,I8.close fun a pc hp hk y hy=>?_,hm8,s8⟩
              exact hcl a ((hBb.2 a).mpr ⟨(List.getElem?_eq_some_iff.mp hp).1,pc,hp,hk⟩) pc hp y hy
theorem mE {f:Addr} {fd:FuncData} (F:bZ K "without_spare" "without_spare" cS f fd) (Z:Bl mg)  : bg P w K mg base bS 2 f fd ["deeds", "names"] hJ:=by
  refine F.ok (k:=1) dH (fun vs H Q E h=>?_) (fun cdv A outer s H vs Q E hr h=>?_)
  · obtain⟨da,l,ws,ds,ns,rfl,_⟩:=h
    rfl
  · obtain⟨da,l,ws,ds,ns,rfl,hda,hws,hdl,hl,hnl,q⟩:=h
    refine⟨_,(ah (aT (i:=2) dH.nd rfl (Or.inl rfl) (bR (vq rfl) rfl Z.set zT (U (pv 1) ae)))
      (ah (aT (i:=3) dH.nd rfl (Or.inl rfl) (cq ae))
      (ah (eX PassesOwn.never rfl (Aa rfl Z.reversed (U (pv 0) ae)) (aA (i:=4) dH.nd rfl (Or.inl rfl))
      (ah (pF (i:=5) (j:=6) rfl dH.nd rfl rfl (by decide) rfl rfl (U (ay aF (pv 4) ai (fun _ _=>rfl)) (U (ay aF (pv 4) ai (fun _ _=>rfl)) ae)) rfl)
      (ah (bc (PW.pt (iP (aC kq (pv 5) (bJ (U aJ (U aJ (U aJ ae)))) (by with_unfolding_all rfl)) (gU (aC vt (pv 6) (pv 2) (by with_unfolding_all rfl)))))
      (ar q9)
      aX)
      (ah (bT (eS PySem.F.plainAttrs_list PySem.F.slot_list_append PySem.F.type_list_append cA (pv 3) (U (pv 4) ae)))
      (ah (bc (aC kq (pv 5) (bJ (U aJ (U aJ (U aJ ae)))) (by with_unfolding_all rfl))
      (ar (bT (qx PySem.F.slot_set_discard PySem.F.type_set_discard xm (pv 2) (U (pv 6) ae))))
      aX)
      (ah (bc (aC bE (pv 5) aJ (aK _))
      (ar (bT (qx PySem.F.slot_set_add PySem.F.type_set_add sy (pv 2) (U (pv 6) ae))))
      aX)
      (ar (bc (aC bE (pv 5) aJ (aK _))
      (ar (bT (qx PySem.F.slot_set_add PySem.F.type_set_add sy (pv 2) (U (ay aF (pv 4) ai (fun _ _=>rfl)) ae))))
      aX))))))))
      (ar (aI (bR cc rfl Z.tuple d6 (U (yN (pv 3) (lh (sV pK ai))) ae))))))),?_⟩
    have hwl:ws.length=ds.length:=by rw [hws.len,List.length_map]
    have hkv:ns.map V.str=(ns.map (Sum.inr:Str->Key)).map kV:=by rw [List.map_map];rfl
    refine⟨_,rfl,l,ns.map (Sum.inr:Str->Key),rfl,aM.of (by rw [hl,hkv]),(by rw [List.length_map];unfold scanBound;omega),fun wa nwa=>?_⟩
    have W0:kR (LS.ei (ns.map (Sum.inr:Str->Key))) (fun x=>decide (x ∈ ns)):=⟨LS.wX _,fun x=>by rw [LS.vn];simp⟩
    have hk0:(LS.ei (ns.map (Sum.inr:Str->Key))).length<=500:=by
      have:=qO (ns.map (Sum.inr:Str->Key)) []
      rw [List.length_map] at this
      unfold LS.ei
      simp at this
      omega
    generalize LS.ei (ns.map (Sum.inr:Str->Key))=ks0 at W0 hk0
    refine⟨(by show 0<=sizeLine;decide),fun ka nka=>?_⟩
    have nka:(upd H wa (bA P w wa ks0)) ka=none:=nka
    change (_:Hp->Prop) (upd (upd H wa (bA P w wa ks0)) ka (.lst []))
    have nkw:wa ≠ ka:=fun z=>by rw [<-z] at nka;rw [aa] at nka;cases nka
    have s1:=(ao.new (o:=bA P w wa ks0) nwa).trans (ao.new (o:=.lst []) nka)
    have nka0:H ka=none:=(ao.new nwa).free nka
    have hwa1:(upd (upd H wa (bA P w wa ks0)) ka (.lst [])) wa=some (bA P w wa ks0):=by rw [af nkw,aa]
    have hka1:(upd (upd H wa (bA P w wa ks0)) ka (.lst [])) ka=some (.lst []):=aa
    generalize (upd (upd H wa (bA P w wa ks0)) ka (.lst []))=H1 at s1 hwa1 hka1
    refine⟨_,rfl,da,ws,rfl,av.of (s1 _ _ hda),?_⟩
    refine yT (K:=K) (a:=da) (xs:=ws) (fun i σ H'=>∃ (ks:List Key) (us:List V) (u1 u2 u3:Option V),σ = [some (.ref da),some (.ref l),some (.ref wa),some (.ref ka),u1,u2,u3]/\H' wa=some (bA P w wa ks)/\kR ks (iq (fun x=>decide (x ∈ ns)) (ds.reverse.take i)).2/\ks.length<=500+2 * i/\H' ka=some (.lst us)/\aV H us ((iq (fun x=>decide (x ∈ ns)) (ds.reverse.take i)).1.map bH)/\ao H H') ?_ ?_ ?_ ?_
    · exact⟨ks0,[],none,none,none,rfl,hwa1,W0,by omega,hka1,.nil,s1⟩
    · rintro i σ H2 hi ⟨ks,us,u1,u2,u3,rfl,h1,h2,h3,h4,h5,h6⟩
      exact av.of (h6 _ _ hda)
    · rintro i x σ H2 hx ⟨ks,us,u1,u2,u3,rfl,h1,h2,h3,h4,h5,h6⟩
      have hi:i < ds.reverse.length:=by
        have:=(List.getElem?_eq_some_iff.mp hx).1
        rw [List.length_reverse] at this ⊢
        omega
      have hdd:ds.reverse[i]? = some ds.reverse[i]:=List.getElem?_eq_getElem hi
      generalize ds.reverse[i] = dd at hdd
      have ht:=xn (f:=fun x=>decide (x ∈ ns)) hdd
      have hwr:aV H ws.reverse (ds.reverse.map bH):=hws.xo
      obtain⟨v,hv,rd⟩:=hwr.get (i:=i) (d:=bH dd) (by rw [List.getElem?_map,hdd];rfl)
      rw [hx] at hv
      cases hv
      obtain⟨dp,rfl,hdp0⟩:=iI rd
      have hul:us.length<=500:=by
        have h7:=h5.len
        have h8:=yW (fun x=>decide (x ∈ ns)) (ds.reverse.take i)
        rw [List.length_map] at h7
        rw [List.length_take,List.length_reverse] at h8
        omega
      have hi5:i < 500:=by rw [List.length_reverse] at hi;omega
      generalize iq (fun x=>decide (x ∈ ns)) (ds.reverse.take i)=S at h2 h5 ht
      have hdp:=h6 _ _ hdp0
      cases dd
      case put x n =>
        refine⟨_,rfl,dp,_,0,_,rfl,rfl,av.of hdp,bo,_,rfl,dp,_,1,_,rfl,rfl,av.of hdp,cu,_,_,rfl,?_⟩
        refine⟨_,rfl,iX,fun pG1 npG1=>?_⟩
        have spG1:=ao.new (o:=.tup [.str "put",.str "copy",.str "add"]) npG1
        have h1:=spG1 _ _ h1
        have h4:=spG1 _ _ h4
        have h6:=h6.trans spG1
        refine⟨pG1,_,rfl,.inr (av.of aa),rfl,rfl,_,rfl,?_⟩
        generalize (upd H2 pG1 (.tup [.str "put",.str "copy",.str "add"]))=G1 at h1 h4 h6 ⊢
        clear spG1 npG1
        refine bu (by decide +kernel) ?_
        refine⟨_,rfl,_,rfl,wa,_,Sum.inr x,rfl,h1,rfl,fun b hb=>⟨_,rfl,?_⟩⟩
        rw [h2.2 x] at hb
        cases hfx:S.2 x with
        | false =>
          have hb0:b=false:=by
            cases b with
            | false=>rfl
            | true=>have:=hb.mp rfl;rw [hfx] at this;cases this
          refine bu (by rw [hb0];rfl) ?_
          have hkp:¬ gd S.2 (.put x n)=true:=by show ¬ S.2 x=true;rw [hfx];simp
          refine⟨ks,us,_,_,_,rfl,h1,?_,by omega,h4,?_,h6⟩
          · rw [ht];unfold L2.spS;rw [if_neg hkp];exact h2
          · rw [ht];unfold L2.spS;rw [if_neg hkp];exact h5
        | true =>
        have hkp:gd S.2 (.put x n)=true:=hfx
        refine ax (by rw [hb.mpr hfx];rfl) ?_
        refine⟨_,rfl,.inl ⟨rfl,_,aM.of h4⟩,_,rfl,ka,_,_,rfl,rfl,h4,aH (by omega),?_⟩
        have h1:(upd G1 ka (.lst (us ++ [.ref dp]))) wa=some (bA P w wa ks):=by rw [af nkw];exact h1
        have h6:ao H (upd G1 ka (.lst (us ++ [.ref dp]))):=h6.put nka0
        have h4:(upd G1 ka (.lst (us ++ [.ref dp]))) ka=some (.lst (us ++ [.ref dp])):=aa
        generalize (upd G1 ka (.lst (us ++ [.ref dp])))=G2 at h1 h4 h6 ⊢
        refine⟨_,rfl,iX,fun pG3 npG3=>?_⟩
        have spG3:=ao.new (o:=.tup [.str "put",.str "copy",.str "read"]) npG3
        have h1:=spG3 _ _ h1
        have h4:=spG3 _ _ h4
        have h6:=h6.trans spG3
        refine⟨pG3,_,rfl,.inr (av.of aa),rfl,rfl,_,rfl,?_⟩
        generalize (upd G2 pG3 (.tup [.str "put",.str "copy",.str "read"]))=G3 at h1 h4 h6 ⊢
        clear spG3 npG3
        refine bu (by decide +kernel) ?_
        refine⟨_,rfl,⟨wa,_,rfl,h1⟩,_,rfl,wa,_,Sum.inr x,rfl,rfl,h1,?_⟩
        change (_:Hp->Prop) (upd G3 wa (bA P w wa (LS.bY ks (Sum.inr x))))
        have h4:(upd G3 wa (bA P w wa (LS.bY ks (Sum.inr x)))) ka=some (.lst (us ++ [.ref dp])):=by rw [af nkw.symm];exact h4
        have h6:ao H (upd G3 wa (bA P w wa (LS.bY ks (Sum.inr x)))):=h6.put nwa
        have h1:(upd G3 wa (bA P w wa (LS.bY ks (Sum.inr x)))) wa=some (bA P w wa (LS.bY ks (Sum.inr x))):=aa
        generalize (upd G3 wa (bA P w wa (LS.bY ks (Sum.inr x))))=G4 at h1 h4 h6 ⊢
        refine⟨_,rfl,rfl,_,rfl,?_⟩
        refine ax (show decide (V.str "put" = V.str "tell")=false by decide +kernel) ?_
        refine⟨_,rfl,rfl,_,rfl,?_⟩
        refine ax (show decide (V.str "put" = V.str "copy")=false by decide +kernel) ?_
        refine⟨(LS.bY ks (Sum.inr x)),us ++ [.ref dp],_,_,_,rfl,h1,?_,?_,h4,?_,h6⟩
        · rw [ht];unfold L2.spS;rw [if_pos hkp];exact h2.off x
        · have:=LS.j0 ks (Sum.inr x:Key);omega
        · rw [ht];unfold L2.spS;rw [if_pos hkp,List.map_append];exact h5.app rd
      case copy x y =>
        refine⟨_,rfl,dp,_,0,_,rfl,rfl,av.of hdp,bo,_,rfl,dp,_,1,_,rfl,rfl,av.of hdp,cu,_,_,rfl,?_⟩
        refine⟨_,rfl,iX,fun pG1 npG1=>?_⟩
        have spG1:=ao.new (o:=.tup [.str "put",.str "copy",.str "add"]) npG1
        have h1:=spG1 _ _ h1
        have h4:=spG1 _ _ h4
        have h6:=h6.trans spG1
        refine⟨pG1,_,rfl,.inr (av.of aa),rfl,rfl,_,rfl,?_⟩
        generalize (upd H2 pG1 (.tup [.str "put",.str "copy",.str "add"]))=G1 at h1 h4 h6 ⊢
        clear spG1 npG1
        refine bu (by decide +kernel) ?_
        refine⟨_,rfl,_,rfl,wa,_,Sum.inr x,rfl,h1,rfl,fun b hb=>⟨_,rfl,?_⟩⟩
        rw [h2.2 x] at hb
        cases hfx:S.2 x with
        | false =>
          have hb0:b=false:=by
            cases b with
            | false=>rfl
            | true=>have:=hb.mp rfl;rw [hfx] at this;cases this
          refine bu (by rw [hb0];rfl) ?_
          have hkp:¬ gd S.2 (.copy x y)=true:=by show ¬ S.2 x=true;rw [hfx];simp
          refine⟨ks,us,_,_,_,rfl,h1,?_,by omega,h4,?_,h6⟩
          · rw [ht];unfold L2.spS;rw [if_neg hkp];exact h2
          · rw [ht];unfold L2.spS;rw [if_neg hkp];exact h5
        | true =>
        have hkp:gd S.2 (.copy x y)=true:=hfx
        refine ax (by rw [hb.mpr hfx];rfl) ?_
        refine⟨_,rfl,.inl ⟨rfl,_,aM.of h4⟩,_,rfl,ka,_,_,rfl,rfl,h4,aH (by omega),?_⟩
        have h1:(upd G1 ka (.lst (us ++ [.ref dp]))) wa=some (bA P w wa ks):=by rw [af nkw];exact h1
        have h6:ao H (upd G1 ka (.lst (us ++ [.ref dp]))):=h6.put nka0
        have h4:(upd G1 ka (.lst (us ++ [.ref dp]))) ka=some (.lst (us ++ [.ref dp])):=aa
        generalize (upd G1 ka (.lst (us ++ [.ref dp])))=G2 at h1 h4 h6 ⊢
        refine⟨_,rfl,iX,fun pG3 npG3=>?_⟩
        have spG3:=ao.new (o:=.tup [.str "put",.str "copy",.str "read"]) npG3
        have h1:=spG3 _ _ h1
        have h4:=spG3 _ _ h4
        have h6:=h6.trans spG3
        refine⟨pG3,_,rfl,.inr (av.of aa),rfl,rfl,_,rfl,?_⟩
        generalize (upd G2 pG3 (.tup [.str "put",.str "copy",.str "read"]))=G3 at h1 h4 h6 ⊢
        clear spG3 npG3
        refine bu (by decide +kernel) ?_
        refine⟨_,rfl,⟨wa,_,rfl,h1⟩,_,rfl,wa,_,Sum.inr x,rfl,rfl,h1,?_⟩
        change (_:Hp->Prop) (upd G3 wa (bA P w wa (LS.bY ks (Sum.inr x))))
        have h4:(upd G3 wa (bA P w wa (LS.bY ks (Sum.inr x)))) ka=some (.lst (us ++ [.ref dp])):=by rw [af nkw.symm];exact h4
        have h6:ao H (upd G3 wa (bA P w wa (LS.bY ks (Sum.inr x)))):=h6.put nwa
        have h1:(upd G3 wa (bA P w wa (LS.bY ks (Sum.inr x)))) wa=some (bA P w wa (LS.bY ks (Sum.inr x))):=aa
        generalize (upd G3 wa (bA P w wa (LS.bY ks (Sum.inr x))))=G4 at h1 h4 h6 ⊢
        refine⟨_,rfl,rfl,_,rfl,?_⟩
        refine ax (show decide (V.str "copy" = V.str "tell")=false by decide +kernel) ?_
        refine⟨_,rfl,rfl,_,rfl,?_⟩
        refine bu (show decide (V.str "copy" = V.str "copy")=true by decide +kernel) ?_
        have hdp:=h6 _ _ hdp0
        refine⟨_,rfl,⟨wa,_,rfl,h1⟩,_,rfl,dp,_,2,_,rfl,rfl,av.of hdp,at2,wa,_,Sum.inr y,rfl,rfl,h1,(by unfold scanBound;have:=LS.j0 ks (Sum.inr x:Key);omega),?_⟩
        change (_:Hp->Prop) (upd G4 wa (bA P w wa (LS.putIn (LS.bY ks (Sum.inr x)) (Sum.inr y))))
        have h4:(upd G4 wa (bA P w wa (LS.putIn (LS.bY ks (Sum.inr x)) (Sum.inr y)))) ka=some (.lst (us ++ [.ref dp])):=by rw [af nkw.symm];exact h4
        have h6:ao H (upd G4 wa (bA P w wa (LS.putIn (LS.bY ks (Sum.inr x)) (Sum.inr y)))):=h6.put nwa
        have h1:(upd G4 wa (bA P w wa (LS.putIn (LS.bY ks (Sum.inr x)) (Sum.inr y)))) wa=some (bA P w wa (LS.putIn (LS.bY ks (Sum.inr x)) (Sum.inr y))):=aa
        generalize (upd G4 wa (bA P w wa (LS.putIn (LS.bY ks (Sum.inr x)) (Sum.inr y))))=G5 at h1 h4 h6 ⊢
        refine⟨(LS.putIn (LS.bY ks (Sum.inr x)) (Sum.inr y)),us ++ [.ref dp],_,_,_,rfl,h1,?_,?_,h4,?_,h6⟩
        · rw [ht];unfold L2.spS;rw [if_pos hkp];exact (h2.off x).on y
        · have:=LS.j0 ks (Sum.inr x:Key);have:=j1 (LS.bY ks (Sum.inr x:Key)) (Sum.inr y);omega
        · rw [ht];unfold L2.spS;rw [if_pos hkp,List.map_append];exact h5.app rd
      case add x n =>
        refine⟨_,rfl,dp,_,0,_,rfl,rfl,av.of hdp,bo,_,rfl,dp,_,1,_,rfl,rfl,av.of hdp,cu,_,_,rfl,?_⟩
        refine⟨_,rfl,iX,fun pG1 npG1=>?_⟩
        have spG1:=ao.new (o:=.tup [.str "put",.str "copy",.str "add"]) npG1
        have h1:=spG1 _ _ h1
        have h4:=spG1 _ _ h4
        have h6:=h6.trans spG1
        refine⟨pG1,_,rfl,.inr (av.of aa),rfl,rfl,_,rfl,?_⟩
        generalize (upd H2 pG1 (.tup [.str "put",.str "copy",.str "add"]))=G1 at h1 h4 h6 ⊢
        clear spG1 npG1
        refine bu (by decide +kernel) ?_
        refine⟨_,rfl,_,rfl,wa,_,Sum.inr x,rfl,h1,rfl,fun b hb=>⟨_,rfl,?_⟩⟩
        rw [h2.2 x] at hb
        cases hfx:S.2 x with
        | false =>
          have hb0:b=false:=by
            cases b with
            | false=>rfl
            | true=>have:=hb.mp rfl;rw [hfx] at this;cases this
          refine bu (by rw [hb0];rfl) ?_
          have hkp:¬ gd S.2 (.add x n)=true:=by show ¬ S.2 x=true;rw [hfx];simp
          refine⟨ks,us,_,_,_,rfl,h1,?_,by omega,h4,?_,h6⟩
          · rw [ht];unfold L2.spS;rw [if_neg hkp];exact h2
          · rw [ht];unfold L2.spS;rw [if_neg hkp];exact h5
        | true =>
        have hkp:gd S.2 (.add x n)=true:=hfx
        refine ax (by rw [hb.mpr hfx];rfl) ?_
        refine⟨_,rfl,.inl ⟨rfl,_,aM.of h4⟩,_,rfl,ka,_,_,rfl,rfl,h4,aH (by omega),?_⟩
        have h1:(upd G1 ka (.lst (us ++ [.ref dp]))) wa=some (bA P w wa ks):=by rw [af nkw];exact h1
        have h6:ao H (upd G1 ka (.lst (us ++ [.ref dp]))):=h6.put nka0
        have h4:(upd G1 ka (.lst (us ++ [.ref dp]))) ka=some (.lst (us ++ [.ref dp])):=aa
        generalize (upd G1 ka (.lst (us ++ [.ref dp])))=G2 at h1 h4 h6 ⊢
        refine⟨_,rfl,iX,fun pG3 npG3=>?_⟩
        have spG3:=ao.new (o:=.tup [.str "put",.str "copy",.str "read"]) npG3
        have h1:=spG3 _ _ h1
        have h4:=spG3 _ _ h4
        have h6:=h6.trans spG3
        refine⟨pG3,_,rfl,.inr (av.of aa),rfl,rfl,_,rfl,?_⟩
        generalize (upd G2 pG3 (.tup [.str "put",.str "copy",.str "read"]))=G3 at h1 h4 h6 ⊢
        clear spG3 npG3
        refine ax (by decide +kernel) ?_
        refine⟨_,rfl,rfl,_,rfl,?_⟩
        refine ax (show decide (V.str "add" = V.str "tell")=false by decide +kernel) ?_
        refine⟨_,rfl,rfl,_,rfl,?_⟩
        refine ax (show decide (V.str "add" = V.str "copy")=false by decide +kernel) ?_
        refine⟨ks,us ++ [.ref dp],_,_,_,rfl,h1,?_,?_,h4,?_,h6⟩
        · rw [ht];unfold L2.spS;rw [if_pos hkp];exact h2
        · omega
        · rw [ht];unfold L2.spS;rw [if_pos hkp,List.map_append];exact h5.app rd
      case read x =>
        have hkp:gd S.2 (.read x)=true:=rfl
        refine⟨_,rfl,dp,_,0,_,rfl,rfl,av.of hdp,bo,_,rfl,dp,_,1,_,rfl,rfl,av.of hdp,cu,_,_,rfl,?_⟩
        refine⟨_,rfl,iX,fun pG1 npG1=>?_⟩
        have spG1:=ao.new (o:=.tup [.str "put",.str "copy",.str "add"]) npG1
        have h1:=spG1 _ _ h1
        have h4:=spG1 _ _ h4
        have h6:=h6.trans spG1
        refine⟨pG1,_,rfl,.inr (av.of aa),rfl,rfl,_,rfl,?_⟩
        generalize (upd H2 pG1 (.tup [.str "put",.str "copy",.str "add"]))=G1 at h1 h4 h6 ⊢
        clear spG1 npG1
        refine ax (by decide +kernel) ?_
        refine cb ?_
        refine⟨_,rfl,.inl ⟨rfl,_,aM.of h4⟩,_,rfl,ka,_,_,rfl,rfl,h4,aH (by omega),?_⟩
        have h1:(upd G1 ka (.lst (us ++ [.ref dp]))) wa=some (bA P w wa ks):=by rw [af nkw];exact h1
        have h6:ao H (upd G1 ka (.lst (us ++ [.ref dp]))):=h6.put nka0
        have h4:(upd G1 ka (.lst (us ++ [.ref dp]))) ka=some (.lst (us ++ [.ref dp])):=aa
        generalize (upd G1 ka (.lst (us ++ [.ref dp])))=G2 at h1 h4 h6 ⊢
        refine⟨_,rfl,iX,fun pG3 npG3=>?_⟩
        have spG3:=ao.new (o:=.tup [.str "put",.str "copy",.str "read"]) npG3
        have h1:=spG3 _ _ h1
        have h4:=spG3 _ _ h4
        have h6:=h6.trans spG3
        refine⟨pG3,_,rfl,.inr (av.of aa),rfl,rfl,_,rfl,?_⟩
        generalize (upd G2 pG3 (.tup [.str "put",.str "copy",.str "read"]))=G3 at h1 h4 h6 ⊢
        clear spG3 npG3
        refine bu (by decide +kernel) ?_
        refine⟨_,rfl,⟨wa,_,rfl,h1⟩,_,rfl,wa,_,Sum.inr x,rfl,rfl,h1,?_⟩
        change (_:Hp->Prop) (upd G3 wa (bA P w wa (LS.bY ks (Sum.inr x))))
        have h4:(upd G3 wa (bA P w wa (LS.bY ks (Sum.inr x)))) ka=some (.lst (us ++ [.ref dp])):=by rw [af nkw.symm];exact h4
        have h6:ao H (upd G3 wa (bA P w wa (LS.bY ks (Sum.inr x)))):=h6.put nwa
        have h1:(upd G3 wa (bA P w wa (LS.bY ks (Sum.inr x)))) wa=some (bA P w wa (LS.bY ks (Sum.inr x))):=aa
        generalize (upd G3 wa (bA P w wa (LS.bY ks (Sum.inr x))))=G4 at h1 h4 h6 ⊢
        refine⟨_,rfl,rfl,_,rfl,?_⟩
        refine ax (show decide (V.str "read" = V.str "tell")=false by decide +kernel) ?_
        refine⟨_,rfl,rfl,_,rfl,?_⟩
        refine ax (show decide (V.str "read" = V.str "copy")=false by decide +kernel) ?_
        refine⟨(LS.bY ks (Sum.inr x)),us ++ [.ref dp],_,_,_,rfl,h1,?_,?_,h4,?_,h6⟩
        · rw [ht];unfold L2.spS;rw [if_pos hkp];exact h2.off x
        · have:=LS.j0 ks (Sum.inr x:Key);omega
        · rw [ht];unfold L2.spS;rw [if_pos hkp,List.map_append];exact h5.app rd
      case tell x =>
        have hkp:gd S.2 (.tell x)=true:=rfl
        refine⟨_,rfl,dp,_,0,_,rfl,rfl,av.of hdp,bo,_,rfl,dp,_,1,_,rfl,rfl,av.of hdp,cu,_,_,rfl,?_⟩
        refine⟨_,rfl,iX,fun pG1 npG1=>?_⟩
        have spG1:=ao.new (o:=.tup [.str "put",.str "copy",.str "add"]) npG1
        have h1:=spG1 _ _ h1
        have h4:=spG1 _ _ h4
        have h6:=h6.trans spG1
        refine⟨pG1,_,rfl,.inr (av.of aa),rfl,rfl,_,rfl,?_⟩
        generalize (upd H2 pG1 (.tup [.str "put",.str "copy",.str "add"]))=G1 at h1 h4 h6 ⊢
        clear spG1 npG1
        refine ax (by decide +kernel) ?_
        refine cb ?_
        refine⟨_,rfl,.inl ⟨rfl,_,aM.of h4⟩,_,rfl,ka,_,_,rfl,rfl,h4,aH (by omega),?_⟩
        have h1:(upd G1 ka (.lst (us ++ [.ref dp]))) wa=some (bA P w wa ks):=by rw [af nkw];exact h1
        have h6:ao H (upd G1 ka (.lst (us ++ [.ref dp]))):=h6.put nka0
        have h4:(upd G1 ka (.lst (us ++ [.ref dp]))) ka=some (.lst (us ++ [.ref dp])):=aa
        generalize (upd G1 ka (.lst (us ++ [.ref dp])))=G2 at h1 h4 h6 ⊢
        refine⟨_,rfl,iX,fun pG3 npG3=>?_⟩
        have spG3:=ao.new (o:=.tup [.str "put",.str "copy",.str "read"]) npG3
        have h1:=spG3 _ _ h1
        have h4:=spG3 _ _ h4
        have h6:=h6.trans spG3
        refine⟨pG3,_,rfl,.inr (av.of aa),rfl,rfl,_,rfl,?_⟩
        generalize (upd G2 pG3 (.tup [.str "put",.str "copy",.str "read"]))=G3 at h1 h4 h6 ⊢
        clear spG3 npG3
        refine ax (by decide +kernel) ?_
        refine⟨_,rfl,rfl,_,rfl,?_⟩
        refine bu (show decide (V.str "tell" = V.str "tell")=true by decide +kernel) ?_
        refine⟨_,rfl,⟨wa,_,rfl,h1⟩,_,rfl,wa,_,Sum.inr x,rfl,rfl,h1,(by unfold scanBound;omega),?_⟩
        change (_:Hp->Prop) (upd G3 wa (bA P w wa (LS.putIn ks (Sum.inr x))))
        have h4:(upd G3 wa (bA P w wa (LS.putIn ks (Sum.inr x)))) ka=some (.lst (us ++ [.ref dp])):=by rw [af nkw.symm];exact h4
        have h6:ao H (upd G3 wa (bA P w wa (LS.putIn ks (Sum.inr x)))):=h6.put nwa
        have h1:(upd G3 wa (bA P w wa (LS.putIn ks (Sum.inr x)))) wa=some (bA P w wa (LS.putIn ks (Sum.inr x))):=aa
        generalize (upd G3 wa (bA P w wa (LS.putIn ks (Sum.inr x))))=G4 at h1 h4 h6 ⊢
        refine⟨_,rfl,rfl,_,rfl,?_⟩
        refine ax (show decide (V.str "tell" = V.str "copy")=false by decide +kernel) ?_
        refine⟨(LS.putIn ks (Sum.inr x)),us ++ [.ref dp],_,_,_,rfl,h1,?_,?_,h4,?_,h6⟩
        · rw [ht];unfold L2.spS;rw [if_pos hkp];exact h2.on x
        · have:=j1 ks (Sum.inr x);omega
        · rw [ht];unfold L2.spS;rw [if_pos hkp,List.map_append];exact h5.app rd
    · rintro σ H2 ⟨ks,us,u1,u2,u3,rfl,h1,h2,h3,h4,h5,h6⟩
      rw [hwl,List.take_of_length_le (by rw [List.length_reverse];exact Nat.le_refl _)] at h5
      refine⟨_,rfl,1,rfl,-1,rfl,rfl,ka,_,rfl,aM.of h4,fun p np=>⟨p,_,rfl,.inl ⟨aM.of aa,fun t nt=>?_⟩⟩⟩
      have sl:=(ao.new (o:=.lst us.reverse) np).trans (ao.new (o:=.tup us.reverse) nt)
      refine q t us.reverse _ aa ?_ (h6.trans sl)
      unfold bw
      exact (aV.xo h5).same (h6.trans sl) (bP _)
theorem xt {f:Addr} {fd:FuncData} (F:bZ K "spare" "spare" iJ f fd) (Z:Bl mg) (O_live:Own P w K mg base "live" 5 ["plan"] qI) (O_asked_by:Own P w K mg base "asked_by" 1 ["end"] jh) (O_ways_on:Own P w K mg base "ways_on" 3 ["end"] m8) (O_without_spare:Own P w K mg base "without_spare" 2 ["deeds", "names"] hJ):bg P w K mg base bS 7 f fd ["plan"] oa:=by
  refine F.ok (k:=6) gr (fun vs H Q E h=>?_) (fun cdv A outer s H vs Q E hr h=>?_)
  · obtain⟨plv,ps,pool,mm,rfl,_⟩:=h
    rfl
  · obtain⟨plv,ps,pool,mm,rfl,hp,ok,hmm,h64,hpl,q⟩:=h
    refine⟨_,(ah (aT (i:=1) gr.nd rfl (Or.inl rfl) (aB O_live (hr.mono (by decide)) rfl (U (pv 0) ae)))
      (ah (aT (i:=2) gr.nd rfl (Or.inl rfl) (cq ae))
      (ah (eX PassesOwn.never rfl (iR (pv 0)) (cI rfl (aL (aA (i:=3) gr.nd rfl (Or.inl rfl)) (aL (aA (i:=4) gr.nd rfl (Or.inl rfl)) cv)))
      (ah (aT (i:=5) gr.nd rfl (Or.inl rfl) (aB O_asked_by (hr.mono (by decide)) rfl (U (pv 4) ae)))
      (ah (eX PassesOwn.never rfl (iR (aB O_ways_on (hr.mono (by decide)) rfl (U (pv 4) ae))) (aA (i:=6) gr.nd rfl (Or.inl rfl))
      (ar (bT (eS PySem.F.plainAttrs_list PySem.F.slot_list_extend PySem.F.type_list_extend tR (pv 5) (U (ay aF (pv 1) (pv 6) (fun _ _=>rfl)) ae)))))
      (ar (bT (eS PySem.F.plainAttrs_list PySem.F.slot_list_append PySem.F.type_list_append cA (pv 2) (U (bJ (U (aB O_without_spare (hr.mono (by decide)) rfl (U (pv 3) (U (pv 5) ae))) (U (pv 4) ae))) ae)))))))
      (ar (aI (bR cc rfl Z.tuple d6 (U (pv 2) ae))))))),?_⟩
    have hin:=ok.kG
    refine⟨_,rfl,_,ps,pool,mm,rfl,hp,ok,hmm,h64,hpl,fun lv L H1 hL hLl hLs s1=>?_⟩
    obtain⟨lt,lxs,rfl,hlt,rL⟩:=aY.bU hL
    refine⟨(by show 0<=sizeLine;decide),fun ka nka=>?_⟩
    obtain⟨p,xs,rfl,e1,rp⟩:=aY.bU hp
    have hxl:xs.length=ps.length:=by rw [rp.len,List.length_map]
    have s2:=s1.trans (ao.new (o:=.lst []) nka)
    have nka0:H ka=none:=s1.free nka
    have sL:=ao.new (o:=.lst []) nka
    refine⟨_,rfl,p,rfl,⟨_,av.of (s2 _ _ e1)⟩,?_⟩
    refine lg (K:=K) (a:=p) (xs:=xs) (fun i σ H'=>∃ (us:List V) (qs:List Piece) (u1 u2 u3 u4:Option V),σ = [some (.ref p),some (.ref lt),some (.ref ka),u1,u2,u3,u4]/\H' ka=some (.lst us)/\us.length=i/\aV H' us (qs.map eY)/\qs.length=i/\(∀ (k:Nat) (p:Piece),k < i->ps[k]? = some p->∃ f:Str->Bool,qs[k]? = some (bw f p.1,p.2)/\∀ x,f x=true ↔ er ps p.2 x)/\ao H H'/\(∀ c o,H1 c=some o->c ≠ ka->H' c=some o)) ?_ ?_ ?_ ?_
    · exact⟨[],[],none,none,none,none,rfl,aa,rfl,.nil,rfl,(fun k p h=>absurd h (Nat.not_lt_zero _)),s2,fun c o h _=>sL _ _ h⟩
    · rintro i σ H2 hi ⟨us,qs,u1,u2,u3,u4,rfl,h1,h2,h3,h4,h5,h6,h7⟩
      exact av.of (h6 _ _ e1)
    · rintro i x σ H2 hx ⟨us,qs,u1,u2,u3,u4,rfl,h1,h2,h3,h4,h5,h6,h7⟩
      have hi:i < ps.length:=by
        have:=(List.getElem?_eq_some_iff.mp hx).1
        omega
      have hpp:ps[i]? = some ps[i]:=by simp [hi]
      have hdl:=(ok.hX _ (List.mem_of_getElem? hpp)).1
      generalize ps[i] = pe at hpp hdl
      obtain⟨ds,e⟩:=pe
      have hdl:ds.length<=mm:=hdl
      obtain⟨p',xs',pc,da,ea,vs,hpv,e1',el,hx',e2,e3,r3,e4⟩:=fw hp hpp
      cases hpv
      rw [e1] at e1'
      cases e1'
      rw [hx] at hx'
      cases hx'
      refine⟨pc,_,rfl,av.of (h6 _ _ e2),rfl,_,_,rfl,_,_,rfl,rfl,?_⟩
      refine⟨_,rfl,ea,e,rfl,h6 _ _ e4,fun na H3 hna nna s3=>?_⟩
      refine⟨_,rfl,ea,e,rfl,s3 _ _ (h6 _ _ e4),fun wt H4 hwt s4=>?_⟩
      refine⟨wt,rfl,⟨_,av.of hwt⟩,?_⟩
      have s24:=s3.trans s4
      refine lg (K:=K) (a:=wt) (xs:=vN (cC e)) (fun j σ H'=>∃ (ns:List Str) (u4:Option V),σ = [some (.ref p),some (.ref lt),some (.ref ka),some (.ref da),some (.ref ea),some (.ref na),u4]/\H' na=some (.lst (ns.map V.str))/\ns.length<=1+64 * j/\(∀ x,x ∈ ns ↔ x ∈ cz e\/∃ k ∈ (cC e).take j,fJ ps k x)/\H' wt=some (.tup (vN (cC e)))/\ao H2 H') ?_ ?_ ?_ ?_
      · refine⟨cz e,_,rfl,s4 _ _ hna,?_,(by simp),hwt,s24⟩
        cases e <;> simp [cz]
      · rintro j σ H5 hj ⟨ns,u4,rfl,g1,g2,g3,g4,g5⟩
        exact av.of g4
      · rintro j y σ H5 hy ⟨ns,u4,rfl,g1,g2,g3,g4,g5⟩
        rw [List.getElem?_map] at hy
        cases hwj:(cC e)[j]? with
        | none=>rw [hwj] at hy;cases hy
        | some k =>
          rw [hwj] at hy
          cases hy
          have hk:k < L.length:=by rw [hLl];exact qF hin hpp k (List.mem_of_getElem? hwj)
          have hLk:L[k]? = some L[k]:=by simp [hk]
          generalize L[k] = ys at hLk
          obtain⟨q1,q2,q3⟩:=hLs k ys hLk
          have hyl:ys.length<=pool.length:=o7 q2 fun x hx=>jj ok ((q3 x).mp hx)
          obtain⟨v,hv,rv⟩:=rL.get (i:=k) (d:=.tuple (ys.map PyData.str)) (by rw [List.getElem?_map,hLk];rfl)
          obtain⟨tk,tys,rfl,htk,rts⟩:=aY.bU rv
          rw [kT rts] at htk
          have hlt5:=g5 _ _ (h7 lt _ hlt (aw hlt nka))
          have htk5:=g5 _ _ (h7 tk _ htk (aw htk nka))
          have hnw:na ≠ wt:=bI g1 g4 (by intro z;cases z)
          have hj2:j < 2:=by
            have h9:=(List.getElem?_eq_some_iff.mp hwj).1
            have h8:=ji e
            omega
          refine⟨_,rfl,.inl ⟨rfl,_,aM.of g1⟩,_,rfl,_,rfl,lt,_,_,_,rfl,rfl,av.of hlt5,bp hv,na,tk,_,_,rfl,rfl,g1,av.of htk5,Nat.le_of_lt (aH (by rw [List.length_map,List.length_map];omega)),?_⟩
          refine⟨ns++ys,_,rfl,(by rw [aa,List.map_append]),(by rw [List.length_append];omega),fun x=>?_,(by rw [af hnw.symm];exact g4),g5.put nna⟩
          rw [List.mem_append,g3 x,q3 x,List.take_add_one,hwj]
          constructor
          · rintro ((h | ⟨k',h,h'⟩) | h)
            · exact .inl h
            · exact .inr ⟨k',List.mem_append_left _ h,h'⟩
            · exact .inr ⟨k,List.mem_append_right _ (List.mem_singleton.mpr rfl),h⟩
          · rintro (h | ⟨k',h,h'⟩)
            · exact .inl (.inl h)
            · rcases List.mem_append.mp h with h | h
              · exact .inl (.inr ⟨k',h,h'⟩)
              · have:=List.mem_singleton.mp h
                subst this
                exact .inr h'
      · rintro σ H5 ⟨ns,u4,rfl,g1,g2,g3,g4,g5⟩
        rw [List.length_map,List.take_of_length_le (Nat.le_refl _)] at g3
        have hwl2:=ji e
        rw [List.length_map] at g2
        have s05:=h6.trans g5
        have hka5:=g5 _ _ h1
        refine⟨_,rfl,.inl ⟨rfl,_,aM.of hka5⟩,_,rfl,_,rfl,da,na,vs,ds,ns,rfl,s05 _ _ e3,r3.same s05 (bP ds),by omega,g1,by omega,fun t us2 H6 ht rt s6=>?_⟩
        refine⟨_,rfl,ln2,fun pt npt=>?_⟩
        have s7:=ao.new (o:=.tup [.ref t,.ref ea]) npt
        have s67:=s6.trans s7
        have hka7:=s67 _ _ hka5
        have hpt:(upd H6 pt (.tup [.ref t,.ref ea])) pt=some (.tup [.ref t,.ref ea]):=aa
        have hd7:aY (upd H6 pt (.tup [.ref t,.ref ea])) (.ref pt) (eY (bw (fun x=>decide (x ∈ ns)) ds,e)) :=
          .tup hpt (.cons (.tup (s7 _ _ ht) (rt.same s7 (bP _))) (.cons (qy (s67 _ _ (s05 _ _ e4))) .nil))
        have r7:=((h3.same g5 (bt qs)).same s67 (bt qs)).app hd7
        generalize (upd H6 pt (.tup [.ref t,.ref ea]))=H7 at s7 s67 hka7 hpt hd7 r7
        refine⟨ka,_,_,rfl,rfl,hka7,aH (by omega),?_⟩
        refine⟨us ++ [.ref pt],qs ++ [(bw (fun x=>decide (x ∈ ns)) ds,e)],_,_,_,_,rfl,aa,(by simp [h2]),?_,(by simp [h4]),fun k pk hk hpk=>?_,(s05.trans s67).put nka0,fun c o hc hne=>?_⟩
        · rw [List.map_append]
          refine r7.put hka7 ?_
          have:=bt (qs ++ [(bw (fun x=>decide (x ∈ ns)) ds,e)])
          rw [List.map_append] at this
          exact this
        · by_cases hki:k=i
          · subst hki
            rw [hpp] at hpk
            cases hpk
            refine⟨fun x=>decide (x ∈ ns),?_,fun x=>?_⟩
            · rw [List.getElem?_append_right (by omega),h4];simp
            · rw [decide_eq_true_eq,g3 x];rfl
          · obtain⟨f,f1,f2⟩:=h5 k pk (by omega) hpk
            exact⟨f,by rw [List.getElem?_append_left (by omega)];exact f1,f2⟩
        · rw [af hne]
          exact s67 _ _ (g5 _ _ (h7 c o hc hne))
    · rintro σ H2 ⟨us,qs,u1,u2,u3,u4,rfl,h1,h2,h3,h4,h5,h6,h7⟩
      rw [hxl] at h4 h5
      refine⟨_,rfl,ka,_,rfl,.inl ⟨aM.of h1,fun t nt=>?_⟩⟩
      refine q _ qs _ (.tup aa (h3.same (ao.new nt) ?_)) h4 (fun k p hk=>h5 k p (List.getElem?_eq_some_iff.mp hk).1 hk) (h6.trans (ao.new nt))
      exact bt qs
theorem uk {f:Addr} {fd:FuncData} (F:bZ K "lies_in" "lies_in" gA f fd) (Z:Bl mg)  : bg P w K mg base bS 1 f fd ["number", "stretch"] qc:=by
 refine F.ok (k:=0) j3 (fun vs H Q E h=>?_) (fun cdv A outer s H vs Q E hr h=>?_)
 ·obtain⟨n,q,lo,hi,rfl,_⟩:=h
  rfl
 ·obtain⟨n,q,lo,hi,rfl,hq,k⟩:=h
  refine⟨_,(ah (dz (pv 1) (cI rfl (aL (aA (i:=2) j3.nd rfl (Or.inl rfl)) (aL (aA (i:=3) j3.nd rfl (Or.inl rfl)) cv))))
   (ar (aI (uD (sR (uB (jy (pv 2))) (kh (fG xF (pv 2) (pv 0) (aK _)))) (kh (sR (uB (jy (pv 3))) (kh (fG xF (pv 0) (pv 3) (aK _))))))))),?_⟩
  refine⟨_,rfl,q,_,rfl,av.of hq,rfl,_,_,rfl,_,_,rfl,rfl,?_⟩
  cases lo with
  | none =>
   refine⟨_,rfl,_,rfl,cM ⟨_,rfl,cM ?_⟩⟩
   cases hi with
   | none=>exact⟨_,rfl,_,rfl,cM k⟩
   | some b =>
    refine⟨_,rfl,_,rfl,cb ⟨_,rfl,_,rfl,_,_,rfl,rfl,?_⟩⟩
    simpa only [jU,Bool.true_and] using k
  | some a =>
   refine⟨_,rfl,_,rfl,cb ⟨_,rfl,_,rfl,_,_,rfl,rfl,_,rfl,?_⟩⟩
   cases hx:decide (a<=n) with
   | false=>exact cb (by have k':=k;simp only [jU,hx,Bool.false_and] at k';exact k')
   | true =>
    refine cM ?_
    cases hi with
    | none=>exact⟨_,rfl,_,rfl,cM (by have k':=k;simp only [jU,hx,Bool.true_and] at k';exact k')⟩
    | some b =>
     refine⟨_,rfl,_,rfl,cb ⟨_,rfl,_,rfl,_,_,rfl,rfl,?_⟩⟩
     have k':=k
     simp only [jU,hx,Bool.true_and] at k'
     exact k'
theorem oW {f:Addr} {fd:FuncData} (F:bZ K "part_below" "part_below" eJ f fd) (Z:Bl mg)  : bg P w K mg base bS 1 f fd ["stretch", "number"] (j8 fY):=by
 refine F.ok (k:=0) gg (fun vs H Q E h=>?_) (fun cdv A outer s H vs Q E hr h=>?_)
 ·obtain⟨p,n,lo,hi,rfl,_⟩:=h
  rfl
 ·obtain⟨p,n,lo,hi,rfl,hp,q⟩:=h
  refine⟨_,(ah (dz (pv 0) (cI rfl (aL (aA (i:=2) gg.nd rfl (Or.inl rfl)) (aL (aA (i:=3) gg.nd rfl (Or.inl rfl)) cv))))
   (ah (aT (i:=4) gg.nd rfl (Or.inl rfl) (eQ (gG (jy (pv 3))) (bh gH (pv 1) ai) (bL (kj rfl) rfl Z.min pR (U (pv 3) (U (bh gH (pv 1) ai) ae)))))
   (ah (bc (PW.pt (iP (gG (kZ (pv 2))) (gU (aC sX (pv 2) (pv 4) (aK _)))))
   (ar (aI kg))
   aX)
   (ar (aI (bJ (U (pv 2) (U (pv 4) ae)))))))),?_⟩
  refine⟨_,rfl,p,_,rfl,av.of hp,rfl,_,_,rfl,_,_,rfl,rfl,?_⟩
  cases hi with
  | none =>
   refine⟨_,rfl,_,rfl,cM ⟨_,rfl,_,_,rfl,rfl,?_⟩⟩
   cases lo with
   | none =>
    refine⟨_,rfl,_,rfl,cb (cb ⟨_,rfl,_,rfl,ln2,fun l hl=>?_⟩)⟩
    exact q _ _ ⟨l,rfl,aa⟩ (ao.new hl)
   | some i =>
    refine⟨_,rfl,_,rfl,cM ⟨_,rfl,_,rfl,_,_,rfl,rfl,_,rfl,?_⟩⟩
    refine dN (fun hc=>?_) (fun hc=>?_)
    ·have hlt:jn none n < i:=of_decide_eq_true hc
     exact q _ _ (by simp only [fY];rw [if_pos hlt];rfl) (ao.refl H)
    ·have hlt:¬ jn none n < i:=fun z=>hc (decide_eq_true z)
     refine⟨_,rfl,_,rfl,ln2,fun l hl=>?_⟩
     exact q _ _ (by simp only [fY];rw [if_neg hlt];exact⟨l,rfl,aa⟩) (ao.new hl)
  | some j =>
   refine⟨_,rfl,_,rfl,cb ⟨_,rfl,_,rfl,_,_,rfl,rfl,_,_,rfl,?_⟩⟩
   cases lo with
   | none =>
    refine⟨_,rfl,_,rfl,cb (cb ⟨_,rfl,_,rfl,ln2,fun l hl=>?_⟩)⟩
    exact q _ _ ⟨l,rfl,aa⟩ (ao.new hl)
   | some i =>
    refine⟨_,rfl,_,rfl,cM ⟨_,rfl,_,rfl,_,_,rfl,rfl,_,rfl,?_⟩⟩
    refine dN (fun hc=>?_) (fun hc=>?_)
    ·have hlt:jn (some j) n < i:=of_decide_eq_true hc
     exact q _ _ (by simp only [fY];rw [if_pos hlt];rfl) (ao.refl H)
    ·have hlt:¬ jn (some j) n < i:=fun z=>hc (decide_eq_true z)
     refine⟨_,rfl,_,rfl,ln2,fun l hl=>?_⟩
     exact q _ _ (by simp only [fY];rw [if_neg hlt];exact⟨l,rfl,aa⟩) (ao.new hl)
theorem qU {f:Addr} {fd:FuncData} (F:bZ K "part_from" "part_from" e7 f fd) (Z:Bl mg)  : bg P w K mg base bS 1 f fd ["stretch", "number"] (j8 gL):=by
 refine F.ok (k:=0) gQ (fun vs H Q E h=>?_) (fun cdv A outer s H vs Q E hr h=>?_)
 ·obtain⟨p,n,lo,hi,rfl,_⟩:=h
  rfl
 ·obtain⟨p,n,lo,hi,rfl,hp,q⟩:=h
  refine⟨_,(ah (dz (pv 0) (cI rfl (aL (aA (i:=2) gQ.nd rfl (Or.inl rfl)) (aL (aA (i:=3) gQ.nd rfl (Or.inl rfl)) cv))))
   (ah (aT (i:=4) gQ.nd rfl (Or.inl rfl) (eQ (gG (jy (pv 2))) (pv 1) (bL (uH rfl) rfl Z.max zx (U (pv 2) (U (pv 1) ae)))))
   (ah (bc (PW.pt (iP (gG (kZ (pv 3))) (gU (aC sX (pv 4) (pv 3) (aK _)))))
   (ar (aI kg))
   aX)
   (ar (aI (bJ (U (pv 4) (U (pv 3) ae)))))))),?_⟩
  refine⟨_,rfl,p,_,rfl,av.of hp,rfl,_,_,rfl,_,_,rfl,rfl,?_⟩
  cases lo with
  | none =>
   refine⟨_,rfl,_,rfl,cM ⟨_,rfl,?_⟩⟩
   cases hi with
   | none =>
    refine⟨_,rfl,_,rfl,cb (cb ⟨_,rfl,_,rfl,ln2,fun l hl=>?_⟩)⟩
    exact q _ _ ⟨l,rfl,aa⟩ (ao.new hl)
   | some j =>
    refine⟨_,rfl,_,rfl,cM ⟨_,rfl,_,rfl,_,_,rfl,rfl,_,rfl,?_⟩⟩
    refine dN (fun hc=>?_) (fun hc=>?_)
    ·have hlt:j < gY none n:=of_decide_eq_true hc
     exact q _ _ (by simp only [gL];rw [if_pos hlt];rfl) (ao.refl H)
    ·have hlt:¬ j < gY none n:=fun z=>hc (decide_eq_true z)
     refine⟨_,rfl,_,rfl,ln2,fun l hl=>?_⟩
     exact q _ _ (by simp only [gL];rw [if_neg hlt];exact⟨l,rfl,aa⟩) (ao.new hl)
  | some i =>
   refine⟨_,rfl,_,rfl,cb ⟨_,rfl,_,rfl,_,_,rfl,?_⟩⟩
   cases hi with
   | none =>
    refine⟨_,rfl,_,rfl,cb (cb ⟨_,rfl,_,rfl,ln2,fun l hl=>?_⟩)⟩
    exact q _ _ ⟨l,rfl,aa⟩ (ao.new hl)
   | some j =>
    refine⟨_,rfl,_,rfl,cM ⟨_,rfl,_,rfl,_,_,rfl,rfl,_,rfl,?_⟩⟩
    refine dN (fun hc=>?_) (fun hc=>?_)
    ·have hlt:j < gY (some i) n:=of_decide_eq_true hc
     exact q _ _ (by simp only [gL];rw [if_pos hlt];rfl) (ao.refl H)
    ·have hlt:¬ j < gY (some i) n:=fun z=>hc (decide_eq_true z)
     refine⟨_,rfl,_,rfl,ln2,fun l hl=>?_⟩
     exact q _ _ (by simp only [gL];rw [if_neg hlt];exact⟨l,rfl,aa⟩) (ao.new hl)
theorem um {f:Addr} {fd:FuncData} (F:bZ K "part_at" "part_at" gB f fd) (Z:Bl mg) (O_lies_in:Own P w K mg base "lies_in" 1 ["number", "stretch"] qc):bg P w K mg base bS 2 f fd ["stretch", "number"] (j8 mX):=by
  refine F.ok (k:=1) uh (fun vs H Q E h=>?_) (fun cdv A outer s H vs Q E hr h=>?_)
  · obtain⟨p,n,lo,hi,rfl,_⟩:=h
    rfl
  · obtain⟨p,n,lo,hi,rfl,hp,q⟩:=h
    refine⟨_,(ah (bc (jA (aB O_lies_in (hr.mono (by decide)) rfl (U (pv 1) (U (pv 0) ae))))
      (ar (aI (bJ (U (pv 1) (U (pv 1) ae)))))
      aX)
      (ar (aI kg))),?_⟩
    refine⟨_,rfl,_,rfl,n,p,lo,hi,rfl,hp,_,rfl,?_⟩
    refine dN (fun hc=>?_) (fun hc=>?_)
    · refine⟨_,rfl,_,rfl,ln2,fun l hl=>?_⟩
      exact q _ _ (by simp only [mX,if_pos hc];exact⟨l,rfl,aa⟩) (ao.new hl)
    · exact q _ _ (by simp only [mX,if_neg hc];rfl) (ao.refl H)
theorem oi {f:Addr} {fd:FuncData} (F:bZ K "part_beside" "part_beside" dQ f fd) (Z:Bl mg)  : bg P w K mg base bS 1 f fd ["stretch", "number"] (j8 gZ):=by
 refine F.ok (k:=0) hU (fun vs H Q E h=>?_) (fun cdv A outer s H vs Q E hr h=>?_)
 ·obtain⟨p,n,lo,hi,rfl,_⟩:=h
  rfl
 ·obtain⟨p,n,lo,hi,rfl,hp,q⟩:=h
  refine⟨_,(ah (dz (pv 0) (cI rfl (aL (aA (i:=2) hU.nd rfl (Or.inl rfl)) (aL (aA (i:=3) hU.nd rfl (Or.inl rfl)) cv))))
   (ah (bc (PW.pt (iP (aC bE (pv 2) (pv 1) (aK _)) (gU (aC bE (pv 3) (pv 1) (aK _)))))
   (ar (aI kg))
   aX)
   (ah (bc (aC bE (pv 2) (pv 1) (aK _))
   (ar (aI (bJ (U (bh dB (pv 1) ai) (U (pv 3) ae)))))
   aX)
   (ah (bc (aC bE (pv 3) (pv 1) (aK _))
   (ar (aI (bJ (U (pv 2) (U (bh gH (pv 1) ai) ae)))))
   aX)
   (ar (aI (bJ (U (pv 2) (U (pv 3) ae))))))))),?_⟩
  refine⟨_,rfl,p,_,rfl,av.of hp,rfl,_,_,rfl,_,_,rfl,rfl,?_⟩
  refine⟨_,rfl,_,rfl,kH,_,rfl,?_⟩
  rw [mY]
  refine dN (fun hc=>?_) (fun hc=>?_)
  ·have h1:lo=some n:=of_decide_eq_true hc
   refine⟨_,rfl,_,rfl,kH,_,rfl,?_⟩
   rw [mY]
   refine dN (fun hd=>?_) (fun hd=>?_)
   ·have h2:hi=some n:=of_decide_eq_true hd
    exact q _ _ (by simp only [gZ,if_pos h1,if_pos h2];rfl) (ao.refl H)
   ·have h2:¬ hi=some n:=fun z=>hd (decide_eq_true z)
    refine⟨_,rfl,_,rfl,kH,_,rfl,?_⟩
    rw [mY,hc]
    refine cM ⟨_,rfl,_,_,rfl,rfl,_,rfl,ln2,fun l hl=>?_⟩
    exact q _ _ (by simp only [gZ,if_pos h1,if_neg h2];exact⟨l,rfl,aa⟩) (ao.new hl)
  ·have h1:¬ lo=some n:=fun z=>hc (decide_eq_true z)
   refine cb ?_
   refine⟨_,rfl,_,rfl,kH,_,rfl,?_⟩
   rw [mY,show decide (lo=some n)=false from decide_eq_false h1]
   refine cb ?_
   refine⟨_,rfl,_,rfl,kH,_,rfl,?_⟩
   rw [mY]
   refine dN (fun hd=>?_) (fun hd=>?_)
   ·have h2:hi=some n:=of_decide_eq_true hd
    refine⟨_,rfl,_,rfl,_,_,rfl,rfl,ln2,fun l hl=>?_⟩
    exact q _ _ (by simp only [gZ,if_neg h1,if_pos h2];exact⟨l,rfl,aa⟩) (ao.new hl)
   ·have h2:¬ hi=some n:=fun z=>hd (decide_eq_true z)
    refine⟨_,rfl,_,rfl,ln2,fun l hl=>?_⟩
    exact q _ _ (by simp only [gZ,if_neg h1,if_neg h2];exact⟨l,rfl,aa⟩) (ao.new hl)
theorem uo {f:Addr} {fd:FuncData} (F:bZ K "part_of" "part_of" gC f fd) (Z:Bl mg) (O_part_below:Own P w K mg base "part_below" 1 ["stretch", "number"] (j8 fY)) (O_part_from:Own P w K mg base "part_from" 1 ["stretch", "number"] (j8 gL)) (O_part_at:Own P w K mg base "part_at" 2 ["stretch", "number"] (j8 mX)) (O_part_beside:Own P w K mg base "part_beside" 1 ["stretch", "number"] (j8 gZ)):bg P w K mg base bS 3 f fd ["stretch", "word", "number", "side"] qd:=by
 refine F.ok (k:=2) ui (fun vs H Q E h=>?_) (fun cdv A outer s H vs Q E hr h=>?_)
 ·obtain⟨p,w,n,side,lo,hi,rfl,_⟩:=h
  rfl
 ·obtain⟨p,w,n,side,lo,hi,rfl,hp,q⟩:=h
  refine⟨_,(ah (bc (aC bE (pv 1) aJ (aK _))
   (ar (aI (eQ (jA (pv 3)) (aB O_part_below (hr.mono (by decide)) rfl (U (pv 0) (U (pv 2) ae))) (aB O_part_from (hr.mono (by decide)) rfl (U (pv 0) (U (pv 2) ae))))))
   aX)
   (ar (aI (eQ (jA (pv 3)) (aB O_part_at (hr.mono (by decide)) rfl (U (pv 0) (U (pv 2) ae))) (aB O_part_beside (hr.mono (by decide)) rfl (U (pv 0) (U (pv 2) ae))))))),?_⟩
  refine⟨_,rfl,rfl,_,rfl,?_⟩
  by_cases hw:w = "less"
  ·subst hw
   rw [uX]
   refine cM ⟨_,rfl,_,rfl,?_⟩
   cases side with
   | true=>exact cM ⟨_,rfl,_,rfl,p,n,lo,hi,rfl,hp,fun v H1 r s1=>q v H1 (by simp only [eU,je,if_true];exact r) s1⟩
   | false=>exact cb ⟨_,rfl,_,rfl,p,n,lo,hi,rfl,hp,fun v H1 r s1=>q v H1 (by simp only [eU,je,if_true,Bool.false_eq_true,if_false];exact r) s1⟩
  ·have e:decide (V.str w=V.str "less")=false:=decide_eq_false fun z=>hw (V.str.inj z)
   rw [e]
   refine cb ⟨_,rfl,_,rfl,?_⟩
   cases side with
   | true=>exact cM ⟨_,rfl,_,rfl,p,n,lo,hi,rfl,hp,fun v H1 r s1=>q v H1 (by simp only [eU,oG,if_neg hw,if_true];exact r) s1⟩
   | false=>exact cb ⟨_,rfl,_,rfl,p,n,lo,hi,rfl,hp,fun v H1 r s1=>q v H1 (by simp only [eU,oG,if_neg hw,Bool.false_eq_true,if_false];exact r) s1⟩
theorem qV {f:Addr} {fd:FuncData} (F:bZ K "answer_of" "answer_of" fb f fd) (Z:Bl mg) (O_part_of:Own P w K mg base "part_of" 3 ["stretch", "word", "number", "side"] qd):bg P w K mg base bS 4 f fd ["stretch", "word", "number"] tI:=by
  refine F.ok (k:=3) qR (fun vs H Q E h=>?_) (fun cdv A outer s H vs Q E hr h=>?_)
  · obtain⟨p,w,n,lo,hi,rfl,_⟩:=h
    rfl
  · obtain⟨p,w,n,lo,hi,rfl,hp,q⟩:=h
    refine⟨_,(ah (bc (gG (jy (aB O_part_of (hr.mono (by decide)) rfl (U (pv 0) (U (pv 1) (U (pv 2) (U fF ae)))))))
      (ar (aI aJ))
      aX)
      (ah (bc (gG (jy (aB O_part_of (hr.mono (by decide)) rfl (U (pv 0) (U (pv 1) (U (pv 2) (U fF ae)))))))
      (ar (aI aJ))
      aX)
      (ar (aI aJ)))),?_⟩
    refine⟨_,rfl,_,rfl,_,rfl,p,w,n,false,lo,hi,rfl,hp,fun v H1 r s1=>⟨_,rfl,?_⟩⟩
    cases e:eU w lo hi n false with
    | none =>
      rw [e] at r
      cases (show v=V.bx from r)
      exact cM (by have q':=q H1 s1;rw [e] at q';exact q')
    | some ab =>
      rw [e] at r
      obtain⟨a,b⟩:=ab
      obtain⟨l,rfl,hl⟩:=r
      refine cb ?_
      refine⟨_,rfl,_,rfl,_,rfl,p,w,n,true,lo,hi,rfl,s1 _ _ hp,fun v2 H2 r2 s2=>⟨_,rfl,?_⟩⟩
      cases e2:eU w lo hi n true with
      | none =>
        rw [e2] at r2
        cases (show v2=V.bx from r2)
        exact cM (by have q':=q H2 (s1.trans s2);rw [e,e2] at q';exact q')
      | some cd =>
        rw [e2] at r2
        obtain⟨c,d⟩:=cd
        obtain⟨l2,rfl,hl2⟩:=r2
        exact cb (by have q':=q H2 (s1.trans s2);rw [e,e2] at q';exact q')
theorem om {f:Addr} {fd:FuncData} (F:bZ K "worth" "Stand.worth" dU f fd) (Z:Bl mg) {C:Addr} (T:jF K C)  : bg P w K mg base bS 1 f fd ["self", "name"] (lp C):=by
 refine F.ok (k:=0) og (fun vs H Q E h=>?_) (fun cdv A outer s H vs Q E hr h=>?_)
 ·obtain⟨p,pl,d,nl,sl,plv,nums,S,m,x,rfl,_⟩:=h
  rfl
 ·obtain⟨p,pl,d,nl,sl,plv,nums,S,m,x,rfl,A,q⟩:=h
  refine⟨_,(ar (aI (eO (cQ hr) (cm (pv 0) rfl) (pv 1) ai ⟨rfl,rfl,rfl,rfl⟩))),?_⟩
  obtain⟨dx,hob⟩:=A.ob
  obtain⟨kvs,hd,dw,hk⟩:=A.dict
  exact⟨_,rfl,p,C,dx,_,_,rfl,hob,T.cl,T.fz,il,d,rfl,.inl ⟨kvs,.inl hd⟩,_,rfl,_,_,eT.k (k:=Sum.inr x) hd,dw x,q⟩
theorem nq {f:Addr} {fd:FuncData} (F:bZ K "coming" "Stand.coming" dr f fd) (Z:Bl mg) {C:Addr} (T:jF K C)  : bg P w K mg base bS 1 f fd ["self"] (mf C):=by
 refine F.ok (k:=0) gR (fun vs H Q E h=>?_) (fun cdv A outer s H vs Q E hr h=>?_)
 ·obtain⟨p,pl,d,nl,sl,plv,nums,S,m,ps,ds,e,rfl,_⟩:=h
  rfl
 ·obtain⟨p,pl,d,nl,sl,plv,nums,S,m,ps,ds,e,rfl,A,hp,hx,q⟩:=h
  refine⟨_,(ah (cB (dz (ay aF (cm (pv 0) rfl) (ay bF (cm (pv 0) rfl) (sV pK ai) (fun _ _=>rfl)) (fun _ _=>rfl)) (cI rfl (aL (aA (i:=1) gR.nd rfl (Or.inl rfl)) (aL (aA (i:=2) gR.nd rfl (Or.inl rfl)) cv)))))
   (ar (aI (eQ (aC iA (cm (pv 0) rfl) (bL bB rfl Z.len dc (U (pv 1) ae)) (aK _)) (ay aF (pv 1) (cm (pv 0) rfl) (fun _ _=>rfl)) (pv 2))))),?_⟩
  obtain⟨dx,hob⟩:=A.ob
  obtain⟨pp,xs,pc,da,ea,vs,rfl,e1,el,hx',e2,e3,r3,e4⟩:=fw hp hx
  have hvl:vs.length=ds.length:=by rw [r3.len,List.length_map]
  refine⟨fun σ' H'=>σ' = [some (.ref p),some (.ref da),some (.ref ea)]/\H=H',⟨_,rfl,p,C,dx,_,_,rfl,hob,T.cl,T.pieces,oH,_,rfl,p,C,dx,_,_,rfl,hob,T.cl,T.dE,kK,_,rfl,pl,_,_,_,rfl,rfl,aM.of A.dE,A.sg,pp,xs,_,_,rfl,rfl,av.of e1,bp hx',pc,_,rfl,av.of e2,rfl,_,_,rfl,_,_,rfl,rfl,rfl,rfl⟩,?_⟩
  rintro σ' H' ⟨rfl,rfl⟩
  refine⟨_,rfl,p,C,dx,_,_,rfl,hob,T.cl,T.place,eV,_,rfl,da,_,rfl,.inr (av.of e3),_,_,rfl,rfl,_,rfl,?_⟩
  refine dN (fun hc=>?_) (fun hc=>?_)
  ·have hlt:S.place < vs.length:=by have:=of_decide_eq_true hc;omega
   have hdd:ds[S.place]? = some (ds[S.place]'(by omega)):=by simp [show S.place < ds.length by omega]
   generalize hde:ds[S.place]'(by omega)=dd at hdd
   obtain⟨v,hv,rd⟩:=r3.get (i:=S.place) (d:=bH dd) (by rw [List.getElem?_map,hdd];rfl)
   obtain⟨dp,rfl,hdp⟩:=iI rd
   exact⟨_,rfl,_,rfl,p,C,dx,_,_,rfl,hob,T.cl,T.place,eV,da,_,_,_,rfl,rfl,av.of e3,bp hv,q _ (.zJ dd dp hdd rfl hdp)⟩
  ·have hge:¬ S.place < vs.length:=fun z=>hc (decide_eq_true (by omega))
   exact⟨_,rfl,q _ (.end_ ea (by simp;omega) rfl e4)⟩
theorem jN {f:Addr} {fd:FuncData} (F:bZ K "lacks_number" "Stand.lacks_number" cg f fd) (Z:Bl mg) {C:Addr} (T:jF K C) (O_Stand_coming:d7 P w K mg base C "coming" 1 ["self"] (mf C)):bg P w K mg base bS 2 f fd ["self"] (nM C):=by
 refine F.ok (k:=1) jM (fun vs H Q E h=>?_) (fun cdv A outer s H vs Q E hr h=>?_)
 ·obtain⟨p,pl,d,nl,sl,plv,nums,S,m,ps,rfl,_⟩:=h
  rfl
 ·obtain⟨p,pl,d,nl,sl,plv,nums,S,m,ps,rfl,A,hp,hpc,q⟩:=h
  refine⟨_,(ar (aI (uD (fG bE (ay aF (i6 O_Stand_coming (pv 0) (hr.mono (by decide))) ai (fun _ _=>rfl)) aJ (aK _)) (kh (fG bE (cm (pv 0) rfl) (bL bB rfl Z.len dc (U (cm (pv 0) rfl) ae)) (aK _)))))),?_⟩
  obtain⟨dx,hob⟩:=A.ob
  have hx:ps[S.aR]? = some ps[S.aR]:=by simp [hpc]
  generalize hpe:ps[S.aR] = pe at hx
  obtain⟨ds,e⟩:=pe
  unfold fI at q
  rw [hx] at q
  dsimp only at q
  refine⟨_,rfl,p,dx,_,rfl,hob,uY,p,pl,d,nl,sl,plv,nums,S,m,ps,ds,e,rfl,A,hp,hx,fun v hv=>?_⟩
  cases hv with
  | zJ dd w h hv hw =>
   subst hv
   rw [h] at q
   dsimp only at q
   cases dd
   case read x =>
    refine⟨w,_,0,_,rfl,rfl,av.of hw,bo,rfl,_,rfl,?_⟩
    refine bu (show decide (V.str "read" = V.str "read")=true by decide +kernel) ?_
    refine⟨_,rfl,p,C,dx,_,_,rfl,hob,T.cl,T.taken,me,_,rfl,p,C,dx,_,_,rfl,hob,T.cl,T.nL,mZ,nl,_,rfl,.inl (aM.of A.nums),rfl,?_⟩
    have ez:decide (V.int (S.taken:Int)=V.int ((nums.map V.int).length:Nat))=(jG (.read x) && decide (S.taken=nums.length)):=by
     rw [ny,List.length_map]
     show _=decide (S.taken=nums.length)
     by_cases hh:S.taken=nums.length
     ·rw [hh];simp
     ·rw [decide_eq_false hh]
      exact beq_false_of_ne fun z=>hh (by omega)
    rw [ez]
    exact q
   case put x n =>
    refine⟨w,_,0,_,rfl,rfl,av.of hw,bo,rfl,_,rfl,?_⟩
    exact ax (show decide (V.str "put" = V.str "read")=false by decide +kernel) q
   case copy x n =>
    refine⟨w,_,0,_,rfl,rfl,av.of hw,bo,rfl,_,rfl,?_⟩
    exact ax (show decide (V.str "copy" = V.str "read")=false by decide +kernel) q
   case add x n =>
    refine⟨w,_,0,_,rfl,rfl,av.of hw,bo,rfl,_,rfl,?_⟩
    exact ax (show decide (V.str "add" = V.str "read")=false by decide +kernel) q
   case tell x =>
    refine⟨w,_,0,_,rfl,rfl,av.of hw,bo,rfl,_,rfl,?_⟩
    exact ax (show decide (V.str "tell" = V.str "read")=false by decide +kernel) q
  | end_ w h hv hw =>
   subst hv
   rw [h] at q
   dsimp only at q
   cases e
   case stop =>
    refine⟨w,_,0,_,rfl,rfl,av.of hw,bo,rfl,_,rfl,?_⟩
    exact ax (show decide (V.str "stop" = V.str "read")=false by decide +kernel) q
   case go x =>
    refine⟨w,_,0,_,rfl,rfl,av.of hw,bo,rfl,_,rfl,?_⟩
    exact ax (show decide (V.str "go" = V.str "read")=false by decide +kernel) q
   case dD b x n u v =>
    refine⟨w,_,0,_,rfl,rfl,av.of hw,bo,rfl,_,rfl,?_⟩
    refine ax ?_ q
    cases b
    ·show decide (V.str "is" = V.str "read")=false
     decide +kernel
    ·show decide (V.str "less" = V.str "read")=false
     decide +kernel
theorem mF {f:Addr} {fd:FuncData} (F:bZ K "is_held" "Stand.is_held" cT f fd) (Z:Bl mg) {C:Addr} (T:jF K C) (O_Stand_lacks_number:d7 P w K mg base C "lacks_number" 2 ["self"] (nM C)):bg P w K mg base bS 3 f fd ["self"] (qg C):=by
 refine F.ok (k:=2) mz (fun vs H Q E h=>?_) (fun cdv A outer s H vs Q E hr h=>?_)
 ·obtain⟨p,pl,d,nl,sl,plv,nums,S,m,ps,rfl,_⟩:=h
  rfl
 ·obtain⟨p,pl,d,nl,sl,plv,nums,S,m,ps,rfl,A,hp,hpc,q⟩:=h
  refine⟨_,(ar (aI (sR (cm (pv 0) rfl) (kh (i6 O_Stand_lacks_number (pv 0) (hr.mono (by decide))))))),?_⟩
  obtain⟨dx,hob⟩:=A.ob
  unfold dI at q
  refine⟨_,rfl,p,C,dx,_,_,rfl,hob,T.cl,T.over,se,_,rfl,?_⟩
  cases ho:decide (S.word=("stop" : Str)) with
  | true =>
   refine bu rfl ?_
   rw [ho] at q
   exact q
  | false =>
   refine ax rfl ?_
   rw [ho] at q
   exact⟨_,rfl,p,dx,_,rfl,hob,m3,p,pl,d,nl,sl,plv,nums,S,m,ps,rfl,A,hp,hpc,q⟩
theorem j6 {f:Addr} {fd:FuncData} (F:bZ K "take_number" "Stand.take_number" cw f fd) (Z:Bl mg) {C:Addr} (T:jF K C)  : bg P w K mg base bS 1 f fd ["self"] (nN C):=by
 refine F.ok (k:=0) j4 (fun vs H Q E h=>?_) (fun cdv A outer s H vs Q E hr h=>?_)
 ·obtain⟨p,pl,d,nl,sl,plv,nums,S,m,n,rfl,_⟩:=h
  rfl
 ·obtain⟨p,pl,d,nl,sl,plv,nums,S,m,n,rfl,A,hn,q⟩:=h
  refine⟨_,(ah (ou (pv 0) ai uK)
   (ar (aI (ay bF (cm (pv 0) rfl) (bh gH (cm (pv 0) rfl) ai) (fun _ _=>rfl))))),?_⟩
  obtain⟨dx,hob⟩:=A.ob
  refine⟨_,rfl,p,C,dx,_,_,rfl,hob,T.cl,T.taken,me,_,_,rfl,rfl,dx,_,hob,(by show 8 < 1000;decide),?_⟩
  have A1:bC C (upd H p (.ins C dx (bX "taken" (.int ((S.taken:Int)+1)) (d4 plv (.ref pl) (.int S.place) (.ref d) (.ref nl) (.int S.taken) (.ref sl) (.bl (decide (S.word = "stop"))))))) p pl d nl sl plv nums { S with taken:=S.taken+1 } m :=
   A.obj (by rw [wG];rfl) rfl rfl rfl rfl
  have q1:=q _ A1 bO.jf
  clear q
  revert A1 q1
  generalize (upd H p (.ins C dx (bX "taken" (.int ((S.taken:Int)+1)) (d4 plv (.ref pl) (.int S.place) (.ref d) (.ref nl) (.int S.taken) (.ref sl) (.bl (decide (S.word = "stop")))))))=H1
  intro A1 q1
  obtain⟨dx1,hob1⟩:=A1.ob
  refine⟨_,rfl,p,C,dx1,_,_,rfl,hob1,T.cl,T.nL,mZ,_,rfl,p,C,dx1,_,_,rfl,hob1,T.cl,T.taken,me,_,_,rfl,rfl,nl,_,_,_,rfl,rfl,aM.of A1.nums,?_,q1⟩
  have e1:(((S.taken+1:Nat):Int) - 1)=(S.taken:Nat):=by omega
  show dY (nums.map V.int) (((S.taken+1:Nat):Int) - 1)=some (V.int n)
  rw [e1]
  exact bp (by rw [List.getElem?_map,hn];rfl)
theorem mG {f:Addr} {fd:FuncData} (F:bZ K "do_deed" "Stand.do_deed" cU f fd) (Z:Bl mg) {C:Addr} (T:jF K C) (O_Stand_worth:d7 P w K mg base C "worth" 1 ["self", "name"] (lp C)) (O_Stand_take_number:d7 P w K mg base C "take_number" 1 ["self"] (nN C)):bg P w K mg base bS 2 f fd ["self", "deed"] (mh C):=by
  refine F.ok (k:=1) jc (fun vs H Q E h=>?_) (fun cdv A outer s H vs Q E hr h=>?_)
  · obtain⟨p,pl,d,nl,sl,w,plv,nums,S,m,dd,rfl,_⟩:=h
    rfl
  · obtain⟨p,pl,d,nl,sl,w,plv,nums,S,m,dd,rfl,A,hw,hrd,hm,q⟩:=h
    refine⟨_,(ah (cB (pF (i:=2) (j:=3) rfl jc.nd rfl rfl (by decide) rfl rfl (U (ay aF (pv 1) ai (fun _ _=>rfl)) (U (ay aF (pv 1) ai (fun _ _=>rfl)) ae)) rfl))
      (ah (bc (aC bE (pv 2) aJ (aK _))
      (ar (eD (cQ hr) (cm (pv 0) rfl) (pv 3) (ay aF (pv 1) ai (fun _ _=>rfl)) rfl))
      (ar (bc (aC bE (pv 2) aJ (aK _))
      (ar (eD (cQ hr) (cm (pv 0) rfl) (pv 3) (gu O_Stand_worth (pv 0) (hr.mono (by decide)) (U (ay aF (pv 1) ai (fun _ _=>rfl)) ae)) rfl))
      (ar (bc (aC bE (pv 2) aJ (aK _))
      (ar (eD (cQ hr) (cm (pv 0) rfl) (pv 3) (bh dB (gu O_Stand_worth (pv 0) (hr.mono (by decide)) (U (pv 3) ae)) (ay aF (pv 1) ai (fun _ _=>rfl))) rfl))
      (ar (bc (aC bE (pv 2) aJ (aK _))
      (ar (eD (cQ hr) (cm (pv 0) rfl) (pv 3) (i6 O_Stand_take_number (pv 0) (hr.mono (by decide))) rfl))
      (ar (bT (eS PySem.F.plainAttrs_list PySem.F.slot_list_append PySem.F.type_list_append cA (cm (pv 0) rfl) (U (gu O_Stand_worth (pv 0) (hr.mono (by decide)) (U (pv 3) ae)) ae)))))))))))
      (ar (ou (pv 0) ai uK)))),?_⟩
    obtain⟨dx,hob⟩:=A.ob
    obtain⟨kvs,hd,dw,hk⟩:=A.dict
    cases dd
    case put x n =>
        refine⟨fun σ' H'=>σ' = [some (.ref p),some (.ref w),some (.str "put"),some (.str x)]/\H=H',⟨_,rfl,w,_,0,_,rfl,rfl,av.of hw,bo,_,rfl,w,_,1,_,rfl,rfl,av.of hw,cu,_,_,rfl,rfl,rfl⟩,?_⟩
        rintro σ' H' ⟨rfl,rfl⟩
        refine⟨_,rfl,rfl,_,rfl,?_⟩
        refine bu (show decide (V.str "put" = V.str "put")=true by decide +kernel) ?_
        refine⟨_,rfl,w,_,2,_,rfl,rfl,av.of hw,at2,_,rfl,p,C,dx,_,_,rfl,hob,T.cl,T.fz,il,_,rfl,d,_,rfl,fT.k (k:=Sum.inr x) hd (aH (by omega)),?_⟩
        have A1:=A.fz (x:=x) (n:=n) hd dw hk
        obtain⟨dx1,hob1⟩:=A1.ob
        refine⟨_,rfl,p,C,dx1,_,_,rfl,hob1,T.cl,T.place,eV,_,_,rfl,rfl,dx1,_,hob1,(by show 8 < 1000;decide),?_⟩
        exact q _ (A1.obj (by rw [g9];rfl) rfl rfl rfl rfl) (bO.iD.trans bO.jf)
    case copy x y =>
        refine⟨fun σ' H'=>σ' = [some (.ref p),some (.ref w),some (.str "copy"),some (.str x)]/\H=H',⟨_,rfl,w,_,0,_,rfl,rfl,av.of hw,bo,_,rfl,w,_,1,_,rfl,rfl,av.of hw,cu,_,_,rfl,rfl,rfl⟩,?_⟩
        rintro σ' H' ⟨rfl,rfl⟩
        refine⟨_,rfl,rfl,_,rfl,?_⟩
        refine ax (show decide (V.str "copy" = V.str "put")=false by decide +kernel) ?_
        refine⟨_,rfl,rfl,_,rfl,?_⟩
        refine bu (show decide (V.str "copy" = V.str "copy")=true by decide +kernel) ?_
        refine⟨_,rfl,p,dx,_,rfl,hob,jV,_,rfl,w,_,2,_,rfl,rfl,av.of hw,at2,p,pl,d,nl,sl,plv,nums,S,m,y,rfl,A,_,rfl,p,C,dx,_,_,rfl,hob,T.cl,T.fz,il,_,rfl,d,_,rfl,fT.k (k:=Sum.inr x) hd (aH (by omega)),?_⟩
        have A1:=A.fz (x:=x) (n:=S.w y) hd dw hk
        obtain⟨dx1,hob1⟩:=A1.ob
        refine⟨_,rfl,p,C,dx1,_,_,rfl,hob1,T.cl,T.place,eV,_,_,rfl,rfl,dx1,_,hob1,(by show 8 < 1000;decide),?_⟩
        exact q _ (A1.obj (by rw [g9];rfl) rfl rfl rfl rfl) (bO.iD.trans bO.jf)
    case add x n =>
        refine⟨fun σ' H'=>σ' = [some (.ref p),some (.ref w),some (.str "add"),some (.str x)]/\H=H',⟨_,rfl,w,_,0,_,rfl,rfl,av.of hw,bo,_,rfl,w,_,1,_,rfl,rfl,av.of hw,cu,_,_,rfl,rfl,rfl⟩,?_⟩
        rintro σ' H' ⟨rfl,rfl⟩
        refine⟨_,rfl,rfl,_,rfl,?_⟩
        refine ax (show decide (V.str "add" = V.str "put")=false by decide +kernel) ?_
        refine⟨_,rfl,rfl,_,rfl,?_⟩
        refine ax (show decide (V.str "add" = V.str "copy")=false by decide +kernel) ?_
        refine⟨_,rfl,rfl,_,rfl,?_⟩
        refine bu (show decide (V.str "add" = V.str "add")=true by decide +kernel) ?_
        refine⟨_,rfl,p,dx,_,rfl,hob,jV,_,rfl,p,pl,d,nl,sl,plv,nums,S,m,x,rfl,A,_,rfl,w,_,2,_,rfl,rfl,av.of hw,at2,_,_,rfl,rfl,_,rfl,p,C,dx,_,_,rfl,hob,T.cl,T.fz,il,_,rfl,d,_,rfl,fT.k (k:=Sum.inr x) hd (aH (by omega)),?_⟩
        have A1:=A.fz (x:=x) (n:=S.w x+n) hd dw hk
        obtain⟨dx1,hob1⟩:=A1.ob
        refine⟨_,rfl,p,C,dx1,_,_,rfl,hob1,T.cl,T.place,eV,_,_,rfl,rfl,dx1,_,hob1,(by show 8 < 1000;decide),?_⟩
        exact q _ (A1.obj (by rw [g9];rfl) rfl rfl rfl rfl) (bO.iD.trans bO.jf)
    case read x =>
        refine⟨fun σ' H'=>σ' = [some (.ref p),some (.ref w),some (.str "read"),some (.str x)]/\H=H',⟨_,rfl,w,_,0,_,rfl,rfl,av.of hw,bo,_,rfl,w,_,1,_,rfl,rfl,av.of hw,cu,_,_,rfl,rfl,rfl⟩,?_⟩
        rintro σ' H' ⟨rfl,rfl⟩
        have hlt:=hrd rfl
        have hn:nums[S.taken]? = some nums[S.taken]:=by simp [hlt]
        generalize nums[S.taken] = n at hn
        have es:cH nums S (.read x) = { S with w:=gm S.w x n,taken:=S.taken+1,place:=S.place+1 }:=by
          unfold cH
          rw [hn]
        rw [es] at q
        refine⟨_,rfl,rfl,_,rfl,?_⟩
        refine ax (show decide (V.str "read" = V.str "put")=false by decide +kernel) ?_
        refine⟨_,rfl,rfl,_,rfl,?_⟩
        refine ax (show decide (V.str "read" = V.str "copy")=false by decide +kernel) ?_
        refine⟨_,rfl,rfl,_,rfl,?_⟩
        refine ax (show decide (V.str "read" = V.str "add")=false by decide +kernel) ?_
        refine⟨_,rfl,rfl,_,rfl,?_⟩
        refine bu (show decide (V.str "read" = V.str "read")=true by decide +kernel) ?_
        refine⟨_,rfl,p,dx,_,rfl,hob,nK,p,pl,d,nl,sl,plv,nums,S,m,n,rfl,A,hn,fun H1 A1 b1=>?_⟩
        obtain⟨dx1,hob1⟩:=A1.ob
        obtain⟨kvs1,hd1,dw1,hk1⟩:=A1.dict
        refine⟨_,rfl,p,C,dx1,_,_,rfl,hob1,T.cl,T.fz,il,_,rfl,d,_,rfl,fT.k (k:=Sum.inr x) hd1 (aH (by omega)),?_⟩
        have A2:=A1.fz (x:=x) (n:=n) hd1 dw1 hk1
        obtain⟨dx2,hob2⟩:=A2.ob
        refine⟨_,rfl,p,C,dx2,_,_,rfl,hob2,T.cl,T.place,eV,_,_,rfl,rfl,dx2,_,hob2,(by show 8 < 1000;decide),?_⟩
        exact q _ (A2.obj (by rw [g9];rfl) rfl rfl rfl rfl) ((b1.trans bO.iD).trans bO.jf)
    case tell x =>
        refine⟨fun σ' H'=>σ' = [some (.ref p),some (.ref w),some (.str "tell"),some (.str x)]/\H=H',⟨_,rfl,w,_,0,_,rfl,rfl,av.of hw,bo,_,rfl,w,_,1,_,rfl,rfl,av.of hw,cu,_,_,rfl,rfl,rfl⟩,?_⟩
        rintro σ' H' ⟨rfl,rfl⟩
        refine⟨_,rfl,rfl,_,rfl,?_⟩
        refine ax (show decide (V.str "tell" = V.str "put")=false by decide +kernel) ?_
        refine⟨_,rfl,rfl,_,rfl,?_⟩
        refine ax (show decide (V.str "tell" = V.str "copy")=false by decide +kernel) ?_
        refine⟨_,rfl,rfl,_,rfl,?_⟩
        refine ax (show decide (V.str "tell" = V.str "add")=false by decide +kernel) ?_
        refine⟨_,rfl,rfl,_,rfl,?_⟩
        refine ax (show decide (V.str "tell" = V.str "read")=false by decide +kernel) ?_
        refine⟨_,rfl,p,C,dx,_,_,rfl,hob,T.cl,T.dG,kL,.inl ⟨rfl,_,aM.of A.dG⟩,_,rfl,p,dx,_,rfl,hob,jV,_,rfl,p,pl,d,nl,sl,plv,nums,S,m,x,rfl,A,sl,_,_,rfl,rfl,A.dG,(by rw [List.length_map];exact aH (by have:=A.bK.1;omega)),?_⟩
        have A1:=A.Ax (n:=S.w x)
        obtain⟨dx1,hob1⟩:=A1.ob
        refine⟨_,rfl,p,C,dx1,_,_,rfl,hob1,T.cl,T.place,eV,_,_,rfl,rfl,dx1,_,hob1,(by show 8 < 1000;decide),?_⟩
        exact q _ (A1.obj (by rw [g9];rfl) rfl rfl rfl rfl) (bO.zI.trans bO.jf)
theorem mH {f:Addr} {fd:FuncData} (F:bZ K "come_to" "Stand.come_to" cV f fd) (Z:Bl mg) {C:Addr} (T:jF K C)  : bg P w K mg base bS 1 f fd ["self", "piece"] (qf C):=by
 refine F.ok (k:=0) mB (fun vs H Q E h=>?_) (fun cdv A outer s H vs Q E hr h=>?_)
 ·obtain⟨p,pl,d,nl,sl,plv,nums,S,m,n,rfl,_⟩:=h
  rfl
 ·obtain⟨p,pl,d,nl,sl,plv,nums,S,m,n,rfl,A,hm,q⟩:=h
  refine⟨_,(ah (bT (eS PySem.F.plainAttrs_list PySem.F.slot_list_append PySem.F.type_list_append cA (cm (pv 0) rfl) (U (pv 1) ae)))
   (ar (fV (pv 0) ai rfl))),?_⟩
  obtain⟨dx,hob⟩:=A.ob
  refine⟨_,rfl,p,C,dx,_,_,rfl,hob,T.cl,T.dE,kK,.inl ⟨rfl,_,aM.of A.dE⟩,_,rfl,pl,_,_,rfl,rfl,A.dE,(by rw [List.length_map];exact aH (by have:=A.bK.2;omega)),?_⟩
  have A1:=A.Bu (q:=n)
  obtain⟨dx1,hob1⟩:=A1.ob
  refine⟨_,rfl,p,C,dx1,_,rfl,hob1,T.cl,T.place,(by show 8 < 1000;decide),?_⟩
  exact q _ (A1.obj (by rw [g9];rfl) rfl rfl rfl rfl) (bO.zH.trans bO.jf)
theorem nu {f:Addr} {fd:FuncData} (F:bZ K "do_end" "Stand.do_end" du f fd) (Z:Bl mg) {C:Addr} (T:jF K C) (O_Stand_worth:d7 P w K mg base C "worth" 1 ["self", "name"] (lp C)) (O_Stand_come_to:d7 P w K mg base C "come_to" 1 ["self", "piece"] (qf C)) (O_answer_of:Own P w K mg base "answer_of" 4 ["stretch", "word", "number"] tI):bg P w K mg base bS 5 f fd ["self", "end"] (nO C):=by
  refine F.ok (k:=4) cF (fun vs H Q E h=>?_) (fun cdv A outer s H vs Q E hr h=>?_)
  · obtain⟨p,pl,d,nl,sl,w,plv,nums,S,m,e,rfl,_⟩:=h
    rfl
  · obtain⟨p,pl,d,nl,sl,w,plv,nums,S,m,e,rfl,A,hw,hm,q⟩:=h
    refine⟨_,(ar (bc (aC bE (ay aF (pv 1) ai (fun _ _=>rfl)) aJ (aK _))
      (ar (fV (pv 0) fF rfl))
      (ar (bc (aC bE (ay aF (pv 1) ai (fun _ _=>rfl)) aJ (aK _))
      (ar (bT (gu O_Stand_come_to (pv 0) (hr.mono (by decide)) (U (ay aF (pv 1) ai (fun _ _=>rfl)) ae))))
      (ah (cB (dz (pv 1) (cI rfl (aL (aA (i:=2) cF.nd rfl (Or.inl rfl)) (aL (aA (i:=3) cF.nd rfl (Or.inl rfl)) (aL (aA (i:=4) cF.nd rfl (Or.inl rfl)) (aL (aA (i:=5) cF.nd rfl (Or.inl rfl)) (aL (aA (i:=6) cF.nd rfl (Or.inl rfl)) cv))))))))
      (ah (aT (i:=7) cF.nd rfl (Or.inl rfl) (gu O_Stand_worth (pv 0) (hr.mono (by decide)) (U (pv 3) ae)))
      (ar (bT (gu O_Stand_come_to (pv 0) (hr.mono (by decide)) (U (eQ (aC bE (aB O_answer_of (hr.mono (by decide)) rfl (U (bJ (U (pv 7) (U (pv 7) ae))) (U (pv 2) (U (pv 4) ae)))) aJ (aK _)) (pv 5) (pv 6)) ae)))))))))),?_⟩
    obtain⟨dx,hob⟩:=A.ob
    cases e
    case stop =>
      refine⟨_,rfl,w,_,0,_,rfl,rfl,av.of hw,bo,rfl,_,rfl,?_⟩
      refine bu (show decide (V.str "stop" = V.str "stop")=true by decide +kernel) ?_
      refine⟨_,rfl,p,C,dx,_,rfl,hob,T.cl,T.over,(by show 8 < 1000;decide),?_⟩
      refine q _ (bC.mono (m:=m) (A.obj ?_ rfl rfl rfl rfl) (Nat.le_succ m)) bO.jf
      rw [yr]
      exact congrArg (fun b=>d4 plv (.ref pl) (.int S.place) (.ref d) (.ref nl) (.int S.taken) (.ref sl) (V.bl b)) (show true=decide (("stop" : Str) = "stop") by decide +kernel)
    case go n =>
      refine⟨_,rfl,w,_,0,_,rfl,rfl,av.of hw,bo,rfl,_,rfl,?_⟩
      refine ax (show decide (V.str "go" = V.str "stop")=false by decide +kernel) ?_
      refine⟨_,rfl,w,_,0,_,rfl,rfl,av.of hw,bo,rfl,_,rfl,?_⟩
      refine bu (show decide (V.str "go" = V.str "go")=true by decide +kernel) ?_
      exact⟨_,rfl,p,dx,_,rfl,hob,m4,_,rfl,w,_,1,_,rfl,rfl,av.of hw,cu,p,pl,d,nl,sl,plv,nums,S,m,n,rfl,A,hm,fun H1 A1 b1=>q _ A1 b1⟩
    case dD b x n u v =>
      refine⟨_,rfl,w,_,0,_,rfl,rfl,av.of hw,bo,rfl,_,rfl,?_⟩
      refine ax (by cases b;(show decide (V.str "is" = V.str "stop")=false;decide +kernel);(show decide (V.str "less" = V.str "stop")=false;decide +kernel)) ?_
      refine⟨_,rfl,w,_,0,_,rfl,rfl,av.of hw,bo,rfl,_,rfl,?_⟩
      refine ax (by cases b;(show decide (V.str "is" = V.str "go")=false;decide +kernel);(show decide (V.str "less" = V.str "go")=false;decide +kernel)) ?_
      refine⟨fun σ' H'=>σ' = [some (.ref p),some (.ref w),some (.str (wT b)),some (.str x),some (.int n),some (.int u),some (.int v),none]/\H=H',⟨_,rfl,w,_,rfl,av.of hw,rfl,_,_,rfl,_,_,rfl,_,_,rfl,_,_,rfl,_,_,rfl,rfl,rfl,rfl⟩,?_⟩
      rintro σ' H' ⟨rfl,rfl⟩
      refine⟨_,rfl,p,dx,_,rfl,hob,jV,_,rfl,p,pl,d,nl,sl,plv,nums,S,m,x,rfl,A,?_⟩
      refine⟨_,rfl,p,dx,_,rfl,hob,m4,_,rfl,_,rfl,ln2,fun t ht=>⟨_,rfl,_,rfl,t,wT b,n,some (S.w x),some (S.w x),rfl,aa,fun H1 s1=>⟨rfl,_,rfl,?_⟩⟩⟩
      have s2:ao H H1:=(ao.new ht).trans s1
      have A1:=A.same s2
      cases hc:eE b (S.w x) n with
      | true =>
        refine bu (by rw [vd,if_pos hc];decide +kernel) ?_
        refine⟨_,rfl,p,pl,d,nl,sl,plv,nums,S,m,u,rfl,A1,hm,fun H2 A2 b2=>q _ ?_ ((bO.of_same s2).trans b2)⟩
        simp only [gK,hc,if_true]
        exact A2
      | false =>
        refine ax (by rw [vd,hc];decide +kernel) ?_
        refine⟨_,rfl,p,pl,d,nl,sl,plv,nums,S,m,v,rfl,A1,hm,fun H2 A2 b2=>q _ ?_ ((bO.of_same s2).trans b2)⟩
        simp only [gK,hc,Bool.false_eq_true,if_false]
        exact A2
theorem mI {f:Addr} {fd:FuncData} (F:bZ K "do_step" "Stand.do_step" cW f fd) (Z:Bl mg) {C:Addr} (T:jF K C) (O_Stand_do_deed:d7 P w K mg base C "do_deed" 2 ["self", "deed"] (mh C)) (O_Stand_do_end:d7 P w K mg base C "do_end" 5 ["self", "end"] (nO C)):bg P w K mg base bS 6 f fd ["self"] (mi C):=by
 refine F.ok (k:=5) gs (fun vs H Q E h=>?_) (fun cdv A outer s H vs Q E hr h=>?_)
 ·obtain⟨p,pl,d,nl,sl,plv,nums,S,m,ps,rfl,_⟩:=h
  rfl
 ·obtain⟨p,pl,d,nl,sl,plv,nums,S,m,ps,rfl,A,hp,hpc,htk,hlk,hm,q⟩:=h
  refine⟨_,(ah (cB (dz (ay aF (cm (pv 0) rfl) (ay bF (cm (pv 0) rfl) (sV pK ai) (fun _ _=>rfl)) (fun _ _=>rfl)) (cI rfl (aL (aA (i:=1) gs.nd rfl (Or.inl rfl)) (aL (aA (i:=2) gs.nd rfl (Or.inl rfl)) cv)))))
   (ar (bc (aC iA (cm (pv 0) rfl) (bL bB rfl Z.len dc (U (pv 1) ae)) (aK _))
   (ar (bT (gu O_Stand_do_deed (pv 0) (hr.mono (by decide)) (U (ay aF (pv 1) (cm (pv 0) rfl) (fun _ _=>rfl)) ae))))
   (ar (bT (gu O_Stand_do_end (pv 0) (hr.mono (by decide)) (U (pv 2) ae))))))),?_⟩
  obtain⟨dx,hob⟩:=A.ob
  have hx:ps[S.aR]? = some ps[S.aR]:=by simp [hpc]
  generalize hpe:ps[S.aR] = pe at hx
  obtain⟨ds,e⟩:=pe
  obtain⟨pp,xs,pc,da,ea,vs,rfl,e1,el,hx',e2,e3,r3,e4⟩:=fw hp hx
  have hvl:vs.length=ds.length:=by rw [r3.len,List.length_map]
  refine⟨fun σ' H'=>σ' = [some (.ref p),some (.ref da),some (.ref ea)]/\H=H',⟨_,rfl,p,C,dx,_,_,rfl,hob,T.cl,T.pieces,oH,_,rfl,p,C,dx,_,_,rfl,hob,T.cl,T.dE,kK,_,rfl,pl,_,_,_,rfl,rfl,aM.of A.dE,A.sg,pp,xs,_,_,rfl,rfl,av.of e1,bp hx',pc,_,rfl,av.of e2,rfl,_,_,rfl,_,_,rfl,rfl,rfl,rfl⟩,?_⟩
  rintro σ' H' ⟨rfl,rfl⟩
  refine⟨_,rfl,p,C,dx,_,_,rfl,hob,T.cl,T.place,eV,_,rfl,da,_,rfl,.inr (av.of e3),_,_,rfl,rfl,_,rfl,?_⟩
  refine dN (fun hc=>?_) (fun hc=>?_)
  ·have hlt:S.place < vs.length:=by have:=of_decide_eq_true hc;omega
   have hdd:ds[S.place]? = some (ds[S.place]'(by omega)):=by simp [show S.place < ds.length by omega]
   generalize hde:ds[S.place]'(by omega)=dd at hdd
   obtain⟨v,hv,rd⟩:=r3.get (i:=S.place) (d:=bH dd) (by rw [List.getElem?_map,hdd];rfl)
   obtain⟨dp,rfl,hdp⟩:=iI rd
   rw [oF hx hdd] at q
   have hrd:jG dd=true->S.taken < nums.length:=fun hr=>by
    unfold fI at hlk
    rw [hx] at hlk
    dsimp only at hlk
    rw [hdd] at hlk
    dsimp only at hlk
    rw [hr] at hlk
    have:¬ S.taken=nums.length:=of_decide_eq_false (by simpa using hlk)
    omega
   exact⟨_,rfl,p,dx,_,rfl,hob,tL,_,rfl,_,rfl,p,C,dx,_,_,rfl,hob,T.cl,T.place,eV,da,_,_,_,rfl,rfl,av.of e3,bp hv,p,pl,d,nl,sl,dp,_,nums,S,m,dd,rfl,A,hdp,hrd,hm,q⟩
  ·have hge:¬ S.place < vs.length:=fun z=>hc (decide_eq_true (by omega))
   rw [p9 hx (by simp;omega)] at q
   exact⟨_,rfl,p,dx,_,rfl,hob,uZ,_,rfl,p,pl,d,nl,sl,ea,_,nums,S,m,e,rfl,A,e4,hm,q⟩
theorem lD {f:Addr} {fd:FuncData} (F:bZ K "__init__" "Stand.__init__" cJ f fd) (Z:Bl mg) {C:Addr} (T:jF K C)  : bg P w K mg base bS 1 f fd ["self", "pieces", "begin", "worths", "numbers"] (nQ C):=by
 refine F.ok (k:=0) lC (fun vs H Q E h=>?_) (fun cdv A outer s H vs Q E hr h=>?_)
 ·obtain⟨p,dx,d0,np,plv,pc,kvs,w,nums,rfl,_⟩:=h
  rfl
 ·obtain⟨p,dx,d0,np,plv,pc,kvs,w,nums,rfl,hp,hd0,dw,hnp,q⟩:=h
  refine⟨_,(ah (cB (fV (pv 0) (pv 1) rfl))
   (ah (cB (fV (pv 0) (cq (U (pv 2) ae)) rfl))
   (ah (cB (fV (pv 0) ai rfl))
   (ah (cB (fV (pv 0) (bR qe rfl Z.dict yq (U (pv 3) ae)) rfl))
   (ah (cB (fV (pv 0) (bR kr rfl Z.list rX (U (pv 4) ae)) rfl))
   (ah (cB (fV (pv 0) ai rfl))
   (ah (cB (fV (pv 0) (cq ae) rfl))
   (ar (cB (fV (pv 0) fF rfl)))))))))),?_⟩
  have h0:=hp
  have k0:∀ c o,H c=some o->c ≠ p->H c=some o:=fun _ _ e _=>e
  refine⟨fun σ' H1=>σ' = [some (.ref p),some plv,some (.int pc),some (.ref d0),some (.ref np)]/\H1 p=some (.ins C dx [("pieces",plv)])/\(∀ c o,H c=some o->c ≠ p->H1 c=some o),⟨_,rfl,_,rfl,p,C,dx,_,rfl,h0,T.cl,T.pieces,(by show 0 < 1000;decide),rfl,(by rw [aa,u0]),fun c o e n=>by rw [af n];exact k0 c o e n⟩,?_⟩
  clear k0 h0
  rintro σ' H1 ⟨rfl,h0,k0⟩
  refine⟨fun σ' H1=>σ' = [some (.ref p),some plv,some (.int pc),some (.ref d0),some (.ref np)]/\∃ (pl:Addr),H1 p=some (.ins C dx [("pieces",plv),("passed",V.ref pl)])/\(∀ c o,H c=some o->c ≠ p->H1 c=some o)/\H pl=none/\pl ≠ p/\H1 pl=some (.lst [.int pc]),⟨_,rfl,xJ,fun pl hn=>⟨_,rfl,p,C,dx,_,rfl,(by rw [af (aw h0 hn)];exact h0),T.cl,T.dE,(by show 1 < 1000;decide),rfl,pl,(by rw [aa,u9]),fun c o e n=>d8 (k0 c o e n) n hn,(cZ k0 h0 hn).1,(cZ k0 h0 hn).2,(by rw [af (cZ k0 h0 hn).2,aa])⟩⟩,?_⟩
  clear k0 h0
  rintro σ' H1 ⟨rfl,pl,h0,k0,n_pl,m_pl,h_pl⟩
  refine⟨fun σ' H1=>σ' = [some (.ref p),some plv,some (.int pc),some (.ref d0),some (.ref np)]/\∃ (pl:Addr),H1 p=some (.ins C dx [("pieces",plv),("passed",V.ref pl),("place",V.int 0)])/\(∀ c o,H c=some o->c ≠ p->H1 c=some o)/\H pl=none/\pl ≠ p/\H1 pl=some (.lst [.int pc]),⟨_,rfl,p,C,dx,_,rfl,h0,T.cl,T.place,(by show 2 < 1000;decide),rfl,pl,(by rw [aa,wH]),fun c o e n=>by rw [af n];exact k0 c o e n,n_pl,m_pl,(by rw [af m_pl];exact h_pl)⟩,?_⟩
  clear k0 h0 n_pl m_pl h_pl
  rintro σ' H1 ⟨rfl,pl,h0,k0,n_pl,m_pl,h_pl⟩
  refine⟨fun σ' H1=>σ' = [some (.ref p),some plv,some (.int pc),some (.ref d0),some (.ref np)]/\∃ (pl d:Addr),H1 p=some (.ins C dx [("pieces",plv),("passed",V.ref pl),("place",V.int 0),("worths",V.ref d)])/\(∀ c o,H c=some o->c ≠ p->H1 c=some o)/\H pl=none/\pl ≠ p/\H1 pl=some (.lst [.int pc])/\H d=none/\d ≠ p/\H1 d=some (.dK kvs),⟨_,rfl,d0,kvs,rfl,k0 d0 _ hd0 (bI hd0 hp (by intro z;cases z)),fun d hn=>⟨_,rfl,p,C,dx,_,rfl,(by rw [af (aw h0 hn)];exact h0),T.cl,T.fz,(by show 3 < 1000;decide),rfl,pl,d,(by rw [aa,va]),fun c o e n=>d8 (k0 c o e n) n hn,n_pl,m_pl,d8 h_pl m_pl hn,(cZ k0 h0 hn).1,(cZ k0 h0 hn).2,(by rw [af (cZ k0 h0 hn).2,aa])⟩⟩,?_⟩
  clear k0 h0 n_pl m_pl h_pl
  rintro σ' H1 ⟨rfl,pl,d,h0,k0,n_pl,m_pl,h_pl,n_d,m_d,h_d⟩
  refine⟨fun σ' H1=>σ' = [some (.ref p),some plv,some (.int pc),some (.ref d0),some (.ref np)]/\∃ (pl d nl:Addr),H1 p=some (.ins C dx [("pieces",plv),("passed",V.ref pl),("place",V.int 0),("worths",V.ref d),("numbers",V.ref nl)])/\(∀ c o,H c=some o->c ≠ p->H1 c=some o)/\H pl=none/\pl ≠ p/\H1 pl=some (.lst [.int pc])/\H d=none/\d ≠ p/\H1 d=some (.dK kvs)/\H nl=none/\nl ≠ p/\H1 nl=some (.lst (nums.map V.int))/\pl ≠ nl,⟨_,rfl,np,_,rfl,.inr (av.of (k0 np _ hnp (bI hnp hp (by intro z;cases z)))),fun nl hn=>⟨_,rfl,p,C,dx,_,rfl,(by rw [af (aw h0 hn)];exact h0),T.cl,T.nL,(by show 4 < 1000;decide),rfl,pl,d,nl,(by rw [aa,tN]),fun c o e n=>d8 (k0 c o e n) n hn,n_pl,m_pl,d8 h_pl m_pl hn,n_d,m_d,d8 h_d m_d hn,(cZ k0 h0 hn).1,(cZ k0 h0 hn).2,(by rw [af (cZ k0 h0 hn).2,aa]),aw h_pl hn⟩⟩,?_⟩
  clear k0 h0 n_pl m_pl h_pl n_d m_d h_d
  rintro σ' H1 ⟨rfl,pl,d,nl,h0,k0,n_pl,m_pl,h_pl,n_d,m_d,h_d,n_nl,m_nl,h_nl,x1⟩
  refine⟨fun σ' H1=>σ' = [some (.ref p),some plv,some (.int pc),some (.ref d0),some (.ref np)]/\∃ (pl d nl:Addr),H1 p=some (.ins C dx [("pieces",plv),("passed",V.ref pl),("place",V.int 0),("worths",V.ref d),("numbers",V.ref nl),("taken",V.int 0)])/\(∀ c o,H c=some o->c ≠ p->H1 c=some o)/\H pl=none/\pl ≠ p/\H1 pl=some (.lst [.int pc])/\H d=none/\d ≠ p/\H1 d=some (.dK kvs)/\H nl=none/\nl ≠ p/\H1 nl=some (.lst (nums.map V.int))/\pl ≠ nl,⟨_,rfl,p,C,dx,_,rfl,h0,T.cl,T.taken,(by show 5 < 1000;decide),rfl,pl,d,nl,(by rw [aa,wI]),fun c o e n=>by rw [af n];exact k0 c o e n,n_pl,m_pl,(by rw [af m_pl];exact h_pl),n_d,m_d,(by rw [af m_d];exact h_d),n_nl,m_nl,(by rw [af m_nl];exact h_nl),x1⟩,?_⟩
  clear k0 h0 n_pl m_pl h_pl n_d m_d h_d n_nl m_nl h_nl x1
  rintro σ' H1 ⟨rfl,pl,d,nl,h0,k0,n_pl,m_pl,h_pl,n_d,m_d,h_d,n_nl,m_nl,h_nl,x1⟩
  refine⟨fun σ' H1=>σ' = [some (.ref p),some plv,some (.int pc),some (.ref d0),some (.ref np)]/\∃ (pl d nl sl:Addr),H1 p=some (.ins C dx [("pieces",plv),("passed",V.ref pl),("place",V.int 0),("worths",V.ref d),("numbers",V.ref nl),("taken",V.int 0),("spoken",V.ref sl)])/\(∀ c o,H c=some o->c ≠ p->H1 c=some o)/\H pl=none/\pl ≠ p/\H1 pl=some (.lst [.int pc])/\H d=none/\d ≠ p/\H1 d=some (.dK kvs)/\H nl=none/\nl ≠ p/\H1 nl=some (.lst (nums.map V.int))/\H sl=none/\sl ≠ p/\H1 sl=some (.lst [])/\pl ≠ nl/\pl ≠ sl/\nl ≠ sl,⟨(by show 0<=sizeLine;decide),fun sl hn=>⟨_,rfl,p,C,dx,_,rfl,(by rw [af (aw h0 hn)];exact h0),T.cl,T.dG,(by show 6 < 1000;decide),rfl,pl,d,nl,sl,(by rw [aa,vb]),fun c o e n=>d8 (k0 c o e n) n hn,n_pl,m_pl,d8 h_pl m_pl hn,n_d,m_d,d8 h_d m_d hn,n_nl,m_nl,d8 h_nl m_nl hn,(cZ k0 h0 hn).1,(cZ k0 h0 hn).2,(by rw [af (cZ k0 h0 hn).2,aa]),x1,aw h_pl hn,aw h_nl hn⟩⟩,?_⟩
  clear k0 h0 n_pl m_pl h_pl n_d m_d h_d n_nl m_nl h_nl x1
  rintro σ' H1 ⟨rfl,pl,d,nl,sl,h0,k0,n_pl,m_pl,h_pl,n_d,m_d,h_d,n_nl,m_nl,h_nl,n_sl,m_sl,h_sl,x1,x2,x3⟩
  refine⟨fun σ' H1=>σ' = [some (.ref p),some plv,some (.int pc),some (.ref d0),some (.ref np)]/\∃ (pl d nl sl:Addr),H1 p=some (.ins C dx [("pieces",plv),("passed",V.ref pl),("place",V.int 0),("worths",V.ref d),("numbers",V.ref nl),("taken",V.int 0),("spoken",V.ref sl),("over",V.bl false)])/\(∀ c o,H c=some o->c ≠ p->H1 c=some o)/\H pl=none/\pl ≠ p/\H1 pl=some (.lst [.int pc])/\H d=none/\d ≠ p/\H1 d=some (.dK kvs)/\H nl=none/\nl ≠ p/\H1 nl=some (.lst (nums.map V.int))/\H sl=none/\sl ≠ p/\H1 sl=some (.lst [])/\pl ≠ nl/\pl ≠ sl/\nl ≠ sl,⟨_,rfl,p,C,dx,_,rfl,h0,T.cl,T.over,(by show 7 < 1000;decide),rfl,pl,d,nl,sl,(by rw [aa,yt]),fun c o e n=>by rw [af n];exact k0 c o e n,n_pl,m_pl,(by rw [af m_pl];exact h_pl),n_d,m_d,(by rw [af m_d];exact h_d),n_nl,m_nl,(by rw [af m_nl];exact h_nl),n_sl,m_sl,(by rw [af m_sl];exact h_sl),x1,x2,x3⟩,?_⟩
  clear k0 h0 n_pl m_pl h_pl n_d m_d h_d n_nl m_nl h_nl n_sl m_sl h_sl x1 x2 x3
  rintro σ' H1 ⟨rfl,pl,d,nl,sl,h0,k0,n_pl,m_pl,h_pl,n_d,m_d,h_d,n_nl,m_nl,h_nl,n_sl,m_sl,h_sl,x1,x2,x3⟩
  refine q pl d nl sl H1 ⟨⟨dx,?_⟩,h_pl,⟨[],rfl⟩,⟨kvs,h_d,dw,Nat.le_refl _⟩,h_nl,h_sl,⟨x1,x2,x3⟩,⟨Nat.zero_le _,Nat.le_add_left _ _⟩⟩ k0 n_pl n_d n_nl n_sl
  rw [h0]
  exact congrArg (fun b=>some (HO.ins C dx (d4 plv (.ref pl) (.int 0) (.ref d) (.ref nl) (.int 0) (.ref sl) (V.bl b)))) (show false=decide (("on" : Str) = "stop") by decide +kernel)
theorem xu {f:Addr} {fd:FuncData} (F:bZ K "go_on" "go_on" iK f fd) (Z:Bl mg) {C:Addr} (T:jF K C) (O_Stand_is_held:d7 P w K mg base C "is_held" 3 ["self"] (qg C)) (O_Stand_do_step:d7 P w K mg base C "do_step" 6 ["self"] (mi C)):bg P w K mg base bS 7 f fd ["stand", "steps"] (qh C):=by
  refine F.ok (k:=6) mC (fun vs H Q E h=>?_) (fun cdv A outer s H vs Q E hr h=>?_)
  · obtain⟨p,pl,d,nl,sl,plv,nums,S,m,n,ps,rfl,_⟩:=h
    rfl
  · obtain⟨p,pl,d,nl,sl,plv,nums,S,m,n,ps,rfl,A,hp,hin,hpc,htk,hm,q⟩:=h
    refine⟨_,(ah (aT (i:=2) mC.nd rfl (Or.inl rfl) ai)
      (ah (pG PassesOwn.never (PW.pt (iP (aC iA (pv 2) (pv 1) (aK _)) (gU (uC (jA (i6 O_Stand_is_held (pv 0) (hr.mono (by decide))))))))
      (ah (bT (i6 O_Stand_do_step (pv 0) (hr.mono (by decide))))
      (ar (za (i:=2) mC.nd rfl (Or.inl rfl) ai zb))))
      (ar (aI (pv 2))))),?_⟩
    refine⟨fun μ σ' H'=>∃ i:Nat,i + μ = n/\σ' = [some (.ref p),some (.int n),some (.int i)]/\bC C H' p pl d nl sl plv nums (cO ps nums i S) (m+i)/\hG ps nums i S=i/\aY H' plv (cG ps)/\bO p pl d sl H H',⟨n,0,by omega,rfl,A,rfl,hp,bO.refl _ _ _ _ _⟩,?_⟩
    rintro μ σ' H1 ⟨i,hi,rfl,A1,c1,p1,b1⟩
    have wi:=tO (ps:=ps) (nums:=nums) (S:=S) hin hpc htk i
    refine⟨_,rfl,_,rfl,_,_,rfl,rfl,_,rfl,?_⟩
    refine dN (fun hc=>?_) (fun hc=>?_)
    · have hlt:i < n:=by have:=of_decide_eq_true hc;omega
      obtain⟨dx,hob⟩:=A1.ob
      refine⟨_,rfl,p,dx,_,rfl,hob,tK,p,pl,d,nl,sl,plv,nums,_,_,ps,rfl,A1,p1,wi.1,_,rfl,?_⟩
      cases hh:dI ps nums (cO ps nums i S) with
      | true =>
        refine ax rfl ?_
        have g:=jI hh (n - i)
        rw [show i+(n - i)=n by omega] at g
        have q':=q H1 (by rw [g.1,g.2,c1];exact A1) b1
        rw [g.2,c1] at q'
        exact⟨_,rfl,q'⟩
      | false =>
        refine bu rfl ?_
        have g:=vc hh
        have hl:fI ps nums (cO ps nums i S)=false:=by
          unfold dI at hh
          cases hz:fI ps nums (cO ps nums i S) with
          | false=>rfl
          | true=>rw [hz] at hh;simp at hh
        refine⟨_,fun σ2 H2 z=>⟨n - (i+1),by omega,z⟩,?_⟩
        refine⟨_,rfl,p,dx,_,rfl,hob,tM,p,pl,d,nl,sl,plv,nums,_,_,ps,rfl,A1,p1,wi.1,wi.2,hl,(by omega),fun H2 A2 b2=>?_⟩
        rw [<-g.1] at A2
        refine⟨_,rfl,_,_,rfl,rfl,?_⟩
        refine⟨i+1,by omega,rfl,A2,?_,A1.rd b2 p1 (cL ps),b1.trans b2⟩
        rw [g.2,c1]
    · have hge:i=n:=by
        have:¬ (i:Int) < (n:Int):=fun z=>hc (decide_eq_true z)
        omega
      subst hge
      refine ax rfl ?_
      have q':=q H1 (by rw [c1];exact A1) b1
      rw [c1] at q'
      exact⟨_,rfl,q'⟩
theorem vP {f:Addr} {fd:FuncData} (F:bZ K "run_at" "run_at" hV f fd) (Z:Bl mg) {C:Addr} (T:jF K C) (O_Stand___init__:wC P w K mg base C "Stand" 1 ["self", "pieces", "begin", "worths", "numbers"] (nQ C)) (O_go_on:Own P w K mg base "go_on" 7 ["stand", "steps"] (qh C)):bg P w K mg base bS 8 f fd ["plan", "piece", "worths", "numbers", "steps"] nR:=by
  refine F.ok (k:=7) jl (fun vs H Q E h=>?_) (fun cdv A outer s H vs Q E hr h=>?_)
  · obtain⟨d0,np,plv,pc,n,kvs,w,nums,ps,rfl,_⟩:=h
    rfl
  · obtain⟨d0,np,plv,pc,n,kvs,w,nums,ps,rfl,hp,hin,hpc,hd0,dw,hnp,hkl,hn,q⟩:=h
    refine⟨_,(ah (aT (i:=5) jl.nd rfl (Or.inl rfl) (yp O_Stand___init__ (hr.mono (by decide)) rfl (U (pv 0) (U (pv 1) (U (pv 2) (U (pv 3) ae))))))
      (ah (aT (i:=6) jl.nd rfl (Or.inl rfl) (aB O_go_on (hr.mono (by decide)) rfl (U (pv 5) (U (pv 4) ae))))
      (ah (cB (aT (i:=7) jl.nd rfl (Or.inl rfl) (eQ (aC iA (pv 6) (pv 4) (aK _)) aJ aJ)))
      (ar (aI (bJ (U (eQ (jA (cm (pv 5) rfl)) aJ (pv 7)) (U (bR cc rfl Z.tuple d6 (U (cm (pv 5) rfl) ae)) ae)))))))),?_⟩
    refine⟨_,rfl,_,rfl,_,rfl,_,rfl,fun p dx nx ndx nex=>?_⟩
    have s0:ao H (upd (upd H dx (.own p)) p (.ins C dx [])):=fun b o e=>by
      rw [af (aw e nx),af (aw e ndx)]
      exact e
    refine⟨p,dx,d0,np,plv,pc,kvs,w,nums,rfl,aa,s0 _ _ hd0,dw,s0 _ _ hnp,fun pl d nl sl H1 A1 k1 n1 n2 n3 n4=>⟨rfl,?_⟩⟩
    have s1:ao H H1:=fun b o e=>k1 b o (s0 b o e) (aw e nx)
    have f1:∀ a,(upd (upd H dx (.own p)) p (.ins C dx [])) a=none->H a=none:=fun a z=>by
      cases hz:H a with
      | none=>rfl
      | some o=>rw [s0 a o hz] at z;cases z
    refine⟨_,rfl,_,rfl,p,pl,d,nl,sl,plv,nums,ba pc w,kvs.length,n,ps,rfl,A1,hp.same s1 (cL ps),hin,hpc,Nat.zero_le _,(by omega),fun H2 A2 b2=>?_⟩
    have s2:ao H H2:=fun b o e=>b2 b o (s1 b o e) (aw e nx) (aw e (f1 _ n1)) (aw e (f1 _ n2)) (aw e (f1 _ n4))
    have gw:=sh (ps:=ps) (nums:=nums) (S:=ba pc w) hin hpc (Nat.zero_le _) rfl n
    have q2:∀ v H',aY H' v (.tuple [.str (if (cO ps nums n (ba pc w)).word = "stop" then "stop" else if hG ps nums n (ba pc w) < n then "dry" else "on"),.tuple ((cO ps nums n (ba pc w)).told.map PyData.int)])->ao H H'->Q v H':=by
      intro v H' r s
      refine q v H' ?_ s
      unfold fU
      rcases gw with ⟨g1,g2,g3⟩ | ⟨g1,g2⟩ | ⟨g1,g2,g3,g4⟩
      · rw [g2,g3,if_neg (by rw [g1];decide +kernel),if_neg (Nat.lt_irrefl _)] at r
        rw [g1]
        exact r
      · rw [g2,if_pos g1] at r
        rw [g1]
        exact r
      · rw [g2,if_neg (by decide +kernel),if_pos g4] at r
        rw [g1]
        exact r
    clear q gw
    generalize cO ps nums n (ba pc w)=G at A2 q2
    generalize hG ps nums n (ba pc w)=cn at A2 q2
    obtain⟨dx2,hob2⟩:=A2.ob
    refine⟨fun σ' H'=>σ' = [some plv,some (.int pc),some (.ref d0),some (.ref np),some (.int n),some (.ref p),some (.int cn),some (.str (if cn < n then "dry" else "on"))]/\H2=H',⟨_,rfl,_,rfl,_,_,rfl,rfl,_,rfl,dN (fun hc=>⟨?_,rfl⟩) (fun hc=>⟨?_,rfl⟩)⟩,?_⟩
    · have hlt:cn < n:=by have:=of_decide_eq_true hc;omega
      rw [if_pos hlt]
      rfl
    · have hge:¬ cn < n:=fun z=>hc (decide_eq_true (by omega))
      rw [if_neg hge]
      rfl
    rintro σ' H' ⟨rfl,rfl⟩
    refine⟨_,rfl,p,C,dx2,_,_,rfl,hob2,T.cl,T.over,se,_,rfl,?_⟩
    cases ho:decide (G.word=("stop" : Str)) with
    | true =>
      refine bu rfl ?_
      refine⟨_,rfl,p,C,dx2,_,_,rfl,hob2,T.cl,T.dG,kL,sl,_,rfl,.inl ⟨aM.of A2.dG,fun t ht=>⟨ln2,fun t2 ht2=>?_⟩⟩⟩
      rw [if_pos (of_decide_eq_true ho)] at q2
      exact q2 _ _ (.tup aa (.cons (.str _) (.cons (.tup (ao.new ht2 _ _ aa) (dn _)) .nil))) (s2.trans ((ao.new ht).trans (ao.new ht2)))
    | false =>
      refine ax rfl ?_
      refine⟨_,rfl,_,rfl,p,C,dx2,_,_,rfl,hob2,T.cl,T.dG,kL,sl,_,rfl,.inl ⟨aM.of A2.dG,fun t ht=>⟨ln2,fun t2 ht2=>?_⟩⟩⟩
      rw [if_neg (of_decide_eq_false ho)] at q2
      exact q2 _ _ (.tup aa (.cons (.str _) (.cons (.tup (ao.new ht2 _ _ aa) (dn _)) .nil))) (s2.trans ((ao.new ht).trans (ao.new ht2)))
theorem Ad {f:Addr} {fd:FuncData} (F:bZ K "run" "run" lu f fd) (Z:Bl mg) (O_run_at:Own P w K mg base "run_at" 8 ["plan", "piece", "worths", "numbers", "steps"] nR):bg P w K mg base bS 9 f fd ["plan", "numbers", "steps"] tP:=by
 refine F.ok (k:=8) Ac (fun vs H Q E h=>?_) (fun cdv A outer s H vs Q E hr h=>?_)
 ·obtain⟨np,plv,n,nums,ps,rfl,_⟩:=h
  rfl
 ·obtain⟨np,plv,n,nums,ps,rfl,hp,hin,hpc,hnp,hn,q⟩:=h
  refine⟨_,(ar (aI (aB O_run_at (hr.mono (by decide)) rfl (U (pv 0) (U ai (U md (U (pv 1) (U (pv 2) ae)))))))),?_⟩
  refine⟨_,rfl,fun d hd=>⟨_,rfl,_,rfl,d,np,plv,0,n,[],fun _=>0,nums,ps,rfl,hp.same (ao.new hd) (cL ps),hin,hpc,aa,(fun x=>rfl),ao.new hd _ _ hnp,Nat.zero_le _,hn,fun v H1 r s1=>?_⟩⟩
  exact q v H1 r ((ao.new hd).trans s1)
theorem uq {f:Addr} {fd:FuncData} (F:bZ K "_law_bag" "_law_bag" gD f fd) (Z:Bl mg)  : bg P w K mg base bS 1 f fd ["script", "k"] (tF K):=by
 refine F.ok (k:=0) j5 (fun vs H Q E h=>?_) (fun cdv A outer s H vs Q E hr h=>?_)
 ·obtain⟨a,ns,k,rfl,_⟩:=h
  rfl
 ·obtain⟨a,ns,k,rfl,hS,hk,q⟩:=h
  refine⟨_,(ah (aT (i:=2) j5.nd rfl (Or.inl rfl) ai)
   (ah (bc (aC iA (pv 1) (bL bB rfl Z.len dc (U (pv 0) ae)) (aK _))
   (ar (aT (i:=2) j5.nd rfl (Or.inl rfl) (bh iT (ay bF (pv 0) (pv 1) (fun _ _=>rfl)) (bh yk (bh mM ai ai) (bh mM ai ai)))))
   aX)
   (ah (bc (aC iA (pv 2) (bh mM ai ai) (aK _))
   (ar (aI (cq (U ai (U (bh dB ai (bh iT (bh dB (bh iS (pv 2) ai) (bh iS ai (pv 1))) ai)) ae)))))
   aX)
   (ar (aI (cq (U (pv 2) (U (bh dB ai (bh iT (bh dB (pv 2) (pv 1)) ai)) ae)))))))),?_⟩
  refine⟨_,rfl,_,rfl,_,_,rfl,.inl hS,_,_,rfl,rfl,_,rfl,?_⟩
  refine dN (fun hc=>?_) (fun hc=>?_)
  ·have hl:k < ((ns.map V.int).length:Nat):=of_decide_eq_true hc
   obtain⟨v,hv,hm⟩:=tE hk hl
   obtain⟨z,_,rfl⟩:=List.mem_map.mp hm
   refine⟨_,rfl,_,rfl,_,_,_,_,rfl,rfl,hS,hv,10,60,rfl,rfl,⟨by decide,by decide,by decide⟩,10,60,rfl,rfl,⟨by decide,by decide,by decide⟩,_,_,rfl,rfl,(by unfold IntMulOk;decide +kernel),_,_,rfl,rfl,(show (0:Int) < 10 ^ (60:Int).toNat * 10 ^ (60:Int).toNat by decide +kernel),?_⟩
   refine⟨_,rfl,10,18,rfl,rfl,⟨by decide,by decide,by decide⟩,_,_,rfl,rfl,_,rfl,?_⟩
   refine dN (fun hd=>?_) (fun hd=>?_)
   ·refine⟨_,rfl,_,_,rfl,rfl,.inr ⟨by decide,by decide⟩,_,rfl,_,_,rfl,rfl,.inl ⟨by decide,by decide⟩,_,_,rfl,rfl,_,_,rfl,rfl,(show (0:Int) < 2147483646 by decide),_,_,rfl,rfl,ln2,fun p hp=>?_⟩
    exact q p _ hp ⟨_,_,aa,by omega,by omega⟩ (ao.new hp)
   ·refine⟨_,rfl,_,rfl,_,rfl,_,_,rfl,rfl,_,_,rfl,rfl,(show (0:Int) < 2147483646 by decide),_,_,rfl,rfl,ln2,fun p hp=>?_⟩
    exact q p _ hp ⟨_,_,aa,by omega,by omega⟩ (ao.new hp)
  ·refine⟨_,rfl,10,18,rfl,rfl,⟨by decide,by decide,by decide⟩,_,_,rfl,rfl,_,rfl,?_⟩
   refine dN (fun hd=>?_) (fun hd=>?_)
   ·refine⟨_,rfl,_,_,rfl,rfl,.inr ⟨by decide,by decide⟩,_,rfl,_,_,rfl,rfl,.inl ⟨by decide,by decide⟩,_,_,rfl,rfl,_,_,rfl,rfl,(show (0:Int) < 2147483646 by decide),_,_,rfl,rfl,ln2,fun p hp=>?_⟩
    exact q p _ hp ⟨_,_,aa,by omega,by omega⟩ (ao.new hp)
   ·refine⟨_,rfl,_,rfl,_,rfl,_,_,rfl,rfl,_,_,rfl,rfl,(show (0:Int) < 2147483646 by decide),_,_,rfl,rfl,ln2,fun p hp=>?_⟩
    exact q p _ hp ⟨_,_,aa,by omega,by omega⟩ (ao.new hp)
theorem rF {f:Addr} {fd:FuncData} (F:bZ K "_law_take" "_law_take" fM f fd) (Z:Bl mg)  : bg P w K mg base bS 1 f fd ["bag", "many"] fW:=by
 refine F.ok (k:=0) lT (fun vs H Q E h=>?_) (fun cdv A outer s H vs Q E hr h=>?_)
 ·obtain⟨b,m,rfl,_⟩:=h
  rfl
 ·obtain⟨b,m,rfl,⟨x,y,hb,h0,h1⟩,hm,q⟩:=h
  refine⟨_,(ah (bc (aC sX (ay bF (pv 0) ai (fun _ _=>rfl)) ai (aK _))
   (ah (aT (i:=2) lT.nd rfl (Or.inl rfl) (bh iT (ay bF (pv 0) ai (fun _ _=>rfl)) (pv 1)))
   (ah (dz (bh wu (ay bF (pv 0) ai (fun _ _=>rfl)) (pv 1)) (pE (pv 0) ai set_list))
   (ar (aI (pv 2)))))
   aX)
   (ah (dz (bh iT (bh iS (ay bF (pv 0) ai (fun _ _=>rfl)) ai) ai) (pE (pv 0) ai set_list))
   (ar (aI (bh iT (bh rR (bh iT (bh iS (ay bF (pv 0) ai (fun _ _=>rfl)) (ay bF (pv 0) ai (fun _ _=>rfl))) ai) ai) (pv 1)))))),?_⟩
  refine⟨_,rfl,b,_,0,_,rfl,rfl,aM.of hb,bo,_,_,rfl,rfl,_,rfl,?_⟩
  refine dN (fun hc=>?_) (fun hc=>?_)
  ·refine⟨_,rfl,b,_,0,_,rfl,rfl,aM.of hb,bo,_,rfl,_,_,rfl,rfl,hm.1,?_⟩
   refine⟨_,rfl,b,_,0,_,rfl,rfl,aM.of hb,bo,_,rfl,_,_,rfl,rfl,hm,_,rfl,b,_,0,0,rfl,rfl,hb,rfl,?_⟩
   refine⟨_,rfl,?_⟩
   exact q _ _ (Int.emod_nonneg _ (by have:=hm.1;omega)) (Int.emod_lt_of_pos _ hm.1) ⟨_,_,aa,h0,h1⟩ Fix.xI
  ·refine⟨_,rfl,b,_,1,_,rfl,rfl,aM.of hb,cu,_,_,rfl,rfl,.inr ⟨by decide,by decide⟩,_,_,rfl,rfl,(show (0:Int) < 2147483647 by decide),_,rfl,b,_,1,1,rfl,rfl,hb,rfl,?_⟩
   refine⟨_,rfl,b,_,1,_,rfl,rfl,aM.of aa,cu,_,rfl,b,_,1,_,rfl,rfl,aM.of aa,cu,_,_,rfl,rfl,.inl ⟨by omega,by omega⟩,_,_,rfl,rfl,(show (0:Int) < 2147483629 by decide),_,_,rfl,rfl,⟨by decide,by decide⟩,_,rfl,_,_,rfl,rfl,hm.1,?_⟩
   exact q _ _ (Int.emod_nonneg _ (by have:=hm.1;omega)) (Int.emod_lt_of_pos _ hm.1) ⟨_,_,aa,by omega,by omega⟩ Fix.xI
theorem qW {f:Addr} {fd:FuncData} (F:bZ K "_law_names" "_law_names" fc f fd) (Z:Bl mg) (O_law_take:Own P w K mg base "_law_take" 1 ["bag", "many"] fW):bg P w K mg base bS 2 f fd ["bag"] nH:=by
  refine F.ok (k:=1) cP (fun vs H Q E h=>?_) (fun cdv A outer s H vs Q E hr h=>?_)
  · obtain⟨b,rfl,_⟩:=h
    rfl
  · obtain⟨b,rfl,hB,q⟩:=h
    refine⟨_,(ah (aT (i:=1) cP.nd rfl (Or.inr rfl) aJ)
      (ah (aT (i:=2) cP.nd rfl (Or.inl rfl) (bh dB ai (aB O_law_take (hr.mono (by decide)) rfl (U (pv 0) (U ai ae)))))
      (ah (jQ (i:=3) ["k"] ["letters", "bag"] [1,0] rfl cP.nd rfl rfl rfl (eN rfl Z.range (U (bh dB ai (aB O_law_take (hr.mono (by decide)) rfl (U (pv 0) (U ai ae)))) ae)) rfl (by decide +kernel) (by decide +kernel) (by decide +kernel) ⟨⟨rfl,.inl rfl,rfl⟩,⟨⟨rfl,.inl rfl,rfl⟩,True.intro⟩⟩ (fun _ _ _ _=>(aA (i:=0) (show ((["k"]:List Str)++(["letters", "bag"]:List Str)).Nodup by decide +kernel) rfl (Or.inl rfl) (hf:=Or.inr rfl))) (fun _ _ _ _=>eB) (fun _ _ _ _=>(ay uN (pv 1) (aB O_law_take (hr.mono (by decide)) rfl (U (pv 2) (U ai ae))) (fun _ _=>rfl))))
      (ah (aT (i:=4) cP.nd rfl (Or.inl rfl) (aB O_law_take (hr.mono (by decide)) rfl (U (pv 0) (U (bL bB rfl Z.len dc (U (pv 3) ae)) ae))))
      (ah (aT (i:=5) cP.nd rfl (Or.inl rfl) (cq ae))
      (ah (eX PassesOwn.never rfl (eN rfl Z.range (U (pv 2) ae)) (aA (i:=6) cP.nd rfl (Or.inl rfl))
      (ah (aT (i:=7) cP.nd rfl (Or.inl rfl) (bR kr rfl Z.list rX (U (pv 3) ae)))
      (ah (dz (ay uN (pv 1) (aB O_law_take (hr.mono (by decide)) rfl (U (pv 0) (U ai ae))) (fun _ _=>rfl)) (pE (pv 7) (pv 4) set_list))
      (ar (bc (aC pN (eS PySem.F.plainAttrs_str PySem.F.slot_str_join PySem.F.type_str_join r6 aJ (U (pv 7) ae)) (pv 5) (by with_unfolding_all rfl))
      (ar (bT (eS PySem.F.plainAttrs_list PySem.F.slot_list_append PySem.F.type_list_append cA (pv 5) (U (eS PySem.F.plainAttrs_str PySem.F.slot_str_join PySem.F.type_str_join r6 aJ (U (pv 7) ae)) ae))))
      aX)))))
      (ar (aI (pv 5))))))))),?_⟩
    refine⟨_,rfl,b,4,rfl,hB,⟨by decide,by decide +kernel⟩,fun m H1 m0 m1 B1 X1=>⟨_,_,rfl,rfl,?_⟩⟩
    refine⟨_,rfl,b,8,rfl,B1,⟨by decide,by decide +kernel⟩,fun k H2 k0 k1 B2 X2=>⟨_,_,rfl,rfl,_,rfl,(by omega),(by omega),fun acc na=>?_⟩⟩
    refine lZ (lo:=0) (fun i ys τ H'=>∃ (v:Option V) (cs:List Nat),τ = [v,some (.str mU),some (.ref b)]/\ys=(cs.map one).map V.str/\cs.length=i/\(∀ c ∈ cs,97<=c/\c<=122)/\H' acc=some (.lst ys)/\cN H' b/\Fix b H2 H') ?_ ?_ ?_ ?_
    · exact⟨none,[],rfl,rfl,rfl,(fun _ h=>nomatch h),aa,B2.new na,Fix.new na⟩
    · rintro i ys τ H' hi ⟨v,cs,rfl,rfl,hl,_,ha,_⟩
      refine⟨ha,?_⟩
      rw [List.length_map,List.length_map]
      exact ig (by omega)
    · rintro i ys τ H' hi ⟨v,cs,rfl,rfl,hl,hc,ha,B',X'⟩
      refine kC ?_
      refine wy ?_
      refine cM ?_
      refine⟨_,rfl,_,rfl,b,26,rfl,B',⟨by decide,by decide +kernel⟩,fun r H3 r0 r1 B3 X3=>?_⟩
      obtain⟨c,hat,c0,c1⟩:=uU r0 r1
      have hab:acc ≠ b:=B2.dZ na
      have ha3:=X3 acc _ ha hab
      refine⟨mU,r,c,rfl,rfl,sd,hat,ha3,_,cs ++ [c],rfl,?_,?_,?_,aa,?_,?_⟩
      · rw [List.map_append,List.map_append];rfl
      · rw [List.length_append,hl];rfl
      · intro d hd
        rcases List.mem_append.mp hd with hd | hd
        · exact hc d hd
        · rw [List.mem_singleton.mp hd];exact⟨c0,c1⟩
      · obtain⟨x,y,e,z⟩:=B3
        exact⟨x,y,by rw [af hab.symm];exact e,z⟩
      · intro d o hd nd
        rw [af (aw hd na)]
        exact (X'.trans X3) d o hd nd
    · rintro ys τ H3 ⟨v,cs,rfl,rfl,hl,hc,ha,B3,X3⟩
      have hab:acc ≠ b:=B2.dZ na
      have hl1:1<=cs.length:=by omega
      have hl8:cs.length<=8:=by omega
      have F3:Fix b H H3:=(X1.trans X2).trans X3
      have el:(((cs.map one).map V.str).length:Int)=cs.length:=by simp
      refine⟨_,rfl,_,rfl,acc,_,rfl,.inl (aM.of ha),b,_,rfl,B3,⟨by omega,gJ (by omega) (by omega)⟩,fun at_ H4 t0 t1 B4 X4=>?_⟩
      refine⟨(by show 0<=sizeLine;decide),fun nl nn=>?_⟩
      have hnb:nl ≠ b:=B4.dZ nn
      have ha4:H4 acc=some (.lst ((cs.map one).map V.str)):=X4 acc _ ha hab
      have hna:nl ≠ acc:=fun z=>by rw [z,ha4] at nn;cases nn
      have F4:Fix b H H4:=F3.trans X4
      refine⟨_,rfl,_,rfl,(by omega),(by omega),ie (lo:=0) (fun i σ H'=>∃ (u1 u2:Option V) (xs:List Str),σ = [some (.ref b),some (.str mU),some (.int (1+m)),some (.ref acc),some (.int at_),some (.ref nl),u1,u2] /\
        H' nl=some (.lst (xs.map V.str))/\xs.length<=i/\(0 < i->xs ≠ [])/\(∀ x ∈ xs,ik x)/\H' acc=some (.lst ((cs.map one).map V.str))/\cN H' b/\Fix b H H') ?_ ?_ ?_⟩
      · exact⟨_,_,[],rfl,aa,Nat.le_refl _,(fun h=>absurd h (Nat.lt_irrefl _)),(fun _ h=>nomatch h),(by rw [af hna.symm];exact ha4),B4.new nn,F4.trans (Fix.new nn)⟩
      · rintro i σ H' hi ⟨u1,u2,xs,rfl,hn,hx,hx0,aP,ha',B',X'⟩
        refine⟨_,rfl,acc,_,rfl,.inl (aM.of ha'),fun nm mm=>?_⟩
        have nmb:nm ≠ b:=B'.dZ mm
        have nma:nm ≠ acc:=fun z=>by rw [z,ha'] at mm;cases mm
        have nmn:nm ≠ nl:=fun z=>by rw [z,hn] at mm;cases mm
        refine⟨_,rfl,_,rfl,b,26,rfl,B'.new mm,⟨by decide,by decide +kernel⟩,fun r H5 r0 r1 B5 X5=>?_⟩
        obtain⟨c,hat,c0,c1⟩:=uU r0 r1
        have h5:H5 nm=some (.lst ((cs.map one).map V.str)):=X5 nm _ aa nmb
        have hn5:H5 nl=some (.lst (xs.map V.str)):=X5 nl _ (by rw [af nmn.symm];exact hn) hnb
        have ha5:H5 acc=some (.lst ((cs.map one).map V.str)):=X5 acc _ (by rw [af nma.symm];exact ha') hab
        obtain⟨j,rfl⟩:∃ j:Nat,at_=j:=⟨at_.toNat,by omega⟩
        have hj:j < cs.length:=by omega
        have hix:lJ ((cs.map one).map V.str).length (j:Int)=some j:=by
          unfold lJ
          rw [if_pos (by omega),if_pos (by rw [el];omega)]
          simp
        refine⟨mU,r,c,rfl,rfl,sd,hat,_,rfl,_,rfl,nm,_,(j:Int),j,rfl,rfl,h5,hix,?_⟩
        have eset:((cs.map one).map V.str).set j (.str ⟨#[c]⟩)=((cs.set j c).map one).map V.str:=by
          rw [List.map_set,List.map_set];rfl
        rw [eset]
        have hc':∀ d ∈ cs.set j c,97<=d/\d<=122:=fun d hd=>by
          rcases List.mem_or_eq_of_mem_set hd with hd | hd
          · exact hc d hd
          · rw [hd];exact⟨c0,c1⟩
        have hjl:(((cs.set j c).map one).map (·.length)).sum+((cs.set j c).map one).length * (Str.ofString "").length<=16777216:=by
          have e1:(Str.ofString "").length=0:=by decide +kernel
          have e2:∀ l:List Nat,((l.map one).map (·.length)).sum=l.length:=by
            intro l
            induction l with
            | nil=>rfl
            | cons a l ih=>simp only [List.map_cons,List.sum_cons,ih,List.length_cons];show 1+l.length=_;omega
          rw [e1,e2,List.length_set]
          omega
        have nk:ik (Txt.join (Str.ofString "") ((cs.set j c).map one)):=by
          rw [wx]
          have ej:=L2.join_ones (cs.set j c)
          have eL:(Txt.join Str.empty ((cs.set j c).map one)).length=(cs.set j c).length:=by
            have:=congrArg List.length ej
            rw [Array.length_toList] at this
            exact this
          refine⟨?_,?_,?_⟩
          · rw [eL,List.length_set];exact hl1
          · rw [eL,List.length_set];exact hl8
          · rw [ej];exact hc'
        have n6:upd H5 nm (.lst (((cs.set j c).map one).map V.str)) nl=some (.lst (xs.map V.str)):=by rw [af nmn.symm];exact hn5
        have a6:upd H5 nm (.lst (((cs.set j c).map one).map V.str)) acc=some (.lst ((cs.map one).map V.str)):=by rw [af nma.symm];exact ha5
        have B6:cN (upd H5 nm (.lst (((cs.set j c).map one).map V.str))) b:=by
          obtain⟨x,y,e,z⟩:=B5
          exact⟨x,y,by rw [af nmb.symm];exact e,z⟩
        have F6:Fix b H (upd H5 nm (.lst (((cs.set j c).map one).map V.str))):=fun d o hd nd=>by
          have h1:=X' d o hd nd
          have nd':d ≠ nm:=fun z=>by rw [z,mm] at h1;cases h1
          rw [af nd']
          exact X5 d o (by rw [af nd'];exact h1) nd
        have flat:(xs.map V.str).all iB=true:=by
          rw [List.all_eq_true]
          intro v hv
          obtain⟨x,_,rfl⟩:=List.mem_map.mp hv
          rfl
        refine⟨rfl,_,rfl,_,nm,_,rfl,rfl,aM.of aa,hjl,_,rfl,nl,_,rfl,.inl (aM.of n6),rfl,flat,_,rfl,?_⟩
        refine dN (fun hin=>?_) (fun hin=>?_)
        · refine⟨_,rfl,.inl ⟨rfl,_,aM.of n6⟩,rfl,_,rfl,_,nm,_,rfl,rfl,aM.of aa,hjl,nl,_,_,rfl,rfl,n6,?_,?_⟩
          · rw [List.length_map]
            have:i < 4:=by omega
            exact ig (by omega)
          · refine⟨_,_,xs ++ [_],rfl,(by rw [aa,List.map_append];rfl),(by rw [List.length_append];exact Nat.succ_le_succ hx),(fun _=>by simp),?_,(by rw [af hna.symm];exact a6),?_,?_⟩
            · intro x hxm
              rcases List.mem_append.mp hxm with hxm | hxm
              · exact aP x hxm
              · rw [List.mem_singleton.mp hxm];exact nk
            · obtain⟨x,y,e,z⟩:=B6
              exact⟨x,y,by rw [af hnb.symm];exact e,z⟩
            · intro d o hd nd
              have h1:=F6 d o hd nd
              have nd':d ≠ nl:=fun z=>by
                have h2:=F4 d o hd nd
                rw [z,nn] at h2
                cases h2
              rw [af nd']
              exact h1
        · have hx':xs ≠ []:=by
            intro e
            subst e
            exact hin rfl
          exact⟨_,_,xs,rfl,n6,Nat.le_succ_of_le hx,fun _=>hx',aP,a6,B6,F6⟩
      · rintro σ H' ⟨u1,u2,xs,rfl,hn,hx,hx0,aP,ha',B',X'⟩
        refine⟨_,rfl,?_⟩
        have hm:(1+m).toNat<=4:=by omega
        have hm0:0 < (1+m).toNat:=by omega
        exact q nl xs H' ⟨hn,hnb,hx0 hm0,by omega,aP⟩ (Nat.le_trans hx hm) B' X'
theorem oX {f:Addr} {fd:FuncData} (F:bZ K "_law_number" "_law_number" eM f fd) (Z:Bl mg) (O_law_take:Own P w K mg base "_law_take" 1 ["bag", "many"] fW):bg P w K mg base bS 2 f fd ["bag"] i4:=by
  refine F.ok (k:=1) oV (fun vs H Q E h=>?_) (fun cdv A outer s H vs Q E hr h=>?_)
  · obtain⟨b,rfl,_⟩:=h
    rfl
  · obtain⟨b,rfl,hB,q⟩:=h
    refine⟨_,(ah (bc (aC bE (aB O_law_take (hr.mono (by decide)) rfl (U (pv 0) (U ai ae))) ai (aK _))
      (ar (aI (bh iS (bh gH (bh gH (bh mM ai ai) ai) (aB O_law_take (hr.mono (by decide)) rfl (U (pv 0) (U ai ae)))) (bh gH ai (bh iS ai (aB O_law_take (hr.mono (by decide)) rfl (U (pv 0) (U ai ae))))))))
      aX)
      (ar (aI (bh gH (aB O_law_take (hr.mono (by decide)) rfl (U (pv 0) (U ai ae))) ai)))),?_⟩
    refine⟨_,rfl,b,8,rfl,hB,⟨by decide,by decide +kernel⟩,fun r H1 r0 r1 B1 X1=>⟨rfl,_,rfl,?_⟩⟩
    refine dN (fun hc=>?_) (fun hc=>?_)
    · refine⟨10,40,rfl,rfl,⟨by decide,by decide,by decide⟩,_,_,rfl,rfl,?_⟩
      refine⟨_,rfl,b,3,rfl,B1,⟨by decide,by decide +kernel⟩,fun r2 H2 r20 r21 B2 X2=>⟨_,_,rfl,rfl,?_⟩⟩
      refine⟨_,rfl,b,2,rfl,B2,⟨by decide,by decide +kernel⟩,fun r3 H3 r30 r31 B3 X3=>?_⟩
      refine⟨_,_,rfl,rfl,.inl ⟨by decide,by decide⟩,_,_,rfl,rfl,_,_,rfl,rfl,.inr ⟨by omega,by omega⟩,?_⟩
      refine q _ H3 ?_ B3 ((X1.trans X2).trans X3)
      have e:(10:Int) ^ (40:Int).toNat=10 ^ 40:=by decide +kernel
      rw [e]
      obtain rfl | rfl:r3=0\/r3=1:=by omega
      · rw [show (1:Int) - 2 * 0=1 by decide,Int.mul_one];unfold jR;omega
      · rw [show (1:Int) - 2 * 1 = -1 by decide,Int.mul_neg,Int.mul_one];unfold jR;omega
    · refine⟨_,rfl,b,8,rfl,B1,⟨by decide,by decide +kernel⟩,fun r2 H2 r20 r21 B2 X2=>⟨_,_,rfl,rfl,?_⟩⟩
      exact q _ H2 (by unfold jR;omega) B2 (X1.trans X2)
theorem rG {f:Addr} {fd:FuncData} (F:bZ K "_law_deed" "_law_deed" fN f fd) (Z:Bl mg) (O_law_take:Own P w K mg base "_law_take" 1 ["bag", "many"] fW) (O_law_number:Own P w K mg base "_law_number" 2 ["bag"] i4):bg P w K mg base bS 3 f fd ["bag", "names"] pX:=by
  refine F.ok (k:=2) ju (fun vs H Q E h=>?_) (fun cdv A outer s H vs Q E hr h=>?_)
  · obtain⟨b,l,xs,rfl,_⟩:=h
    rfl
  · obtain⟨b,l,xs,rfl,hB,hN,q⟩:=h
    refine⟨_,(ah (aT (i:=2) ju.nd rfl (Or.inl rfl) (ay bF (cq (U aJ (U aJ (U aJ (U aJ (U aJ (U aJ (U aJ ae)))))))) (aB O_law_take (hr.mono (by decide)) rfl (U (pv 0) (U ai ae))) (fun _ _=>rfl)))
      (ah (aT (i:=3) ju.nd rfl (Or.inl rfl) (ay bF (pv 1) (aB O_law_take (hr.mono (by decide)) rfl (U (pv 0) (U (bL bB rfl Z.len dc (U (pv 1) ae)) ae))) (fun _ _=>rfl)))
      (ah (bc (aC bE (pv 2) aJ (aK _))
      (ar (aI (bJ (U (pv 2) (U (pv 3) (U (ay bF (pv 1) (aB O_law_take (hr.mono (by decide)) rfl (U (pv 0) (U (bL bB rfl Z.len dc (U (pv 1) ae)) ae))) (fun _ _=>rfl)) ae))))))
      aX)
      (ah (bc (PW.pt (sQ (aC bE (pv 2) aJ (aK _)) (pC (aC bE (pv 2) aJ (aK _)))))
      (ar (aI (bJ (U (pv 2) (U (pv 3) (U (aB O_law_number (hr.mono (by decide)) rfl (U (pv 0) ae)) ae))))))
      aX)
      (ar (aI (bJ (U (pv 2) (U (pv 3) ae))))))))),?_⟩
    refine⟨ku,fun l0 m0=>?_⟩
    refine⟨_,rfl,b,7,rfl,hB.new m0,⟨by decide,by decide +kernel⟩,fun r H1 r0 r1 B1 X1=>?_⟩
    have h0:H1 l0=some (.lst [.str "put",.str "copy",.str "add",.str "read",.str "tell",.str "tell",.str "add"]):=X1 l0 _ aa (hB.dZ m0)
    have F1:Fix b H H1:=(Fix.new m0).trans X1
    have N1:=hN.fix F1
    have hw:∃ w:Str,(w = "put" \/ w = "copy" \/ w = "add" \/ w = "read" \/ w = "tell")/\dY [V.str "put",.str "copy",.str "add",.str "read",.str "tell",.str "tell",.str "add"] r=some (V.str w):=by
      obtain rfl | rfl | rfl | rfl | rfl | rfl | rfl:r=0\/r=1\/r=2\/r=3\/r=4\/r=5\/r=6:=by omega
      · exact⟨_,.inl rfl,bp (j:=0) rfl⟩
      · exact⟨_,.inr (.inl rfl),bp (j:=1) rfl⟩
      · exact⟨_,.inr (.inr (.inl rfl)),bp (j:=2) rfl⟩
      · exact⟨_,.inr (.inr (.inr (.inl rfl))),bp (j:=3) rfl⟩
      · exact⟨_,.inr (.inr (.inr (.inr rfl))),bp (j:=4) rfl⟩
      · exact⟨_,.inr (.inr (.inr (.inr rfl))),bp (j:=5) rfl⟩
      · exact⟨_,.inr (.inr (.inl rfl)),bp (j:=6) rfl⟩
    obtain⟨w,hw,hat⟩:=hw
    refine⟨l0,_,r,_,rfl,rfl,aM.of h0,hat,?_⟩
    obtain⟨p0,p1⟩:=N1.pos
    refine⟨_,rfl,_,rfl,_,rfl,l,_,rfl,.inl (aM.of N1.at_),b,_,rfl,B1,⟨p0,gJ p0 p1⟩,fun r2 H2 r20 r21 B2 X2=>?_⟩
    have N2:=N1.fix X2
    obtain⟨x,hx,hxm⟩:=ma r20 r21
    refine⟨l,_,r2,_,rfl,rfl,aM.of N2.at_,hx,?_⟩
    refine⟨_,rfl,rfl,_,rfl,?_⟩
    rcases hw with rfl | rfl | rfl | rfl | rfl
    ·
      rw [show decide (V.str "put" = V.str "copy")=false by decide +kernel]
      refine cb ⟨_,rfl,rfl,_,rfl,?_⟩
      rw [show decide (V.str "put" = V.str "put")=true by decide +kernel]
      refine cM (cM ⟨_,rfl,_,rfl,_,rfl,b,rfl,B2,fun n H3 nk B3 X3=>⟨iX,fun t mt=>?_⟩⟩)
      exact q _ (.put x n) _ (.tup aa (.cons (.str _) (.cons (.str _) (.cons (.int _) .nil)))) ⟨hxm,nk⟩ (B3.new mt) (((F1.trans X2).trans X3).trans (Fix.new mt))
    ·
      rw [show decide (V.str "copy" = V.str "copy")=true by decide +kernel]
      obtain⟨p0,p1⟩:=N2.pos
      refine cM ⟨_,rfl,_,rfl,_,rfl,_,rfl,_,rfl,l,_,rfl,.inl (aM.of N2.at_),b,_,rfl,B2,⟨p0,gJ p0 p1⟩,fun r3 H3 r30 r31 B3 X3=>?_⟩
      have N3:=N2.fix X3
      obtain⟨y,hy,hym⟩:=ma r30 r31
      refine⟨l,_,r3,_,rfl,rfl,aM.of N3.at_,hy,iX,fun t mt=>?_⟩
      exact q _ (.copy x y) _ (.tup aa (.cons (.str _) (.cons (.str _) (.cons (.str _) .nil)))) ⟨hxm,hym⟩ (B3.new mt) (((F1.trans X2).trans X3).trans (Fix.new mt))
    ·
      rw [show decide (V.str "add" = V.str "copy")=false by decide +kernel]
      refine cb ⟨_,rfl,rfl,_,rfl,?_⟩
      rw [show decide (V.str "add" = V.str "put")=false by decide +kernel]
      refine cb ⟨_,rfl,rfl,_,rfl,?_⟩
      rw [show decide (V.str "add" = V.str "add")=true by decide +kernel]
      refine cM ⟨_,rfl,_,rfl,_,rfl,b,rfl,B2,fun n H3 nk B3 X3=>⟨iX,fun t mt=>?_⟩⟩
      exact q _ (.add x n) _ (.tup aa (.cons (.str _) (.cons (.str _) (.cons (.int _) .nil)))) ⟨hxm,nk⟩ (B3.new mt) (((F1.trans X2).trans X3).trans (Fix.new mt))
    ·
      rw [show decide (V.str "read" = V.str "copy")=false by decide +kernel]
      refine cb ⟨_,rfl,rfl,_,rfl,?_⟩
      rw [show decide (V.str "read" = V.str "put")=false by decide +kernel]
      refine cb ⟨_,rfl,rfl,_,rfl,?_⟩
      rw [show decide (V.str "read" = V.str "add")=false by decide +kernel]
      refine cb ⟨_,rfl,_,rfl,ln2,fun t mt=>?_⟩
      exact q _ (.read x) _ (.tup aa (.cons (.str _) (.cons (.str _) .nil))) hxm (B2.new mt) ((F1.trans X2).trans (Fix.new mt))
    ·
      rw [show decide (V.str "tell" = V.str "copy")=false by decide +kernel]
      refine cb ⟨_,rfl,rfl,_,rfl,?_⟩
      rw [show decide (V.str "tell" = V.str "put")=false by decide +kernel]
      refine cb ⟨_,rfl,rfl,_,rfl,?_⟩
      rw [show decide (V.str "tell" = V.str "add")=false by decide +kernel]
      refine cb ⟨_,rfl,_,rfl,ln2,fun t mt=>?_⟩
      exact q _ (.tell x) _ (.tup aa (.cons (.str _) (.cons (.str _) .nil))) hxm (B2.new mt) ((F1.trans X2).trans (Fix.new mt))
theorem ur {f:Addr} {fd:FuncData} (F:bZ K "_law_end" "_law_end" gF f fd) (Z:Bl mg) (O_law_take:Own P w K mg base "_law_take" 1 ["bag", "many"] fW) (O_law_number:Own P w K mg base "_law_number" 2 ["bag"] i4):bg P w K mg base bS 3 f fd ["bag", "names", "count"] pY:=by
  refine F.ok (k:=2) iF (fun vs H Q E h=>?_) (fun cdv A outer s H vs Q E hr h=>?_)
  · obtain⟨b,l,xs,c,rfl,_⟩:=h
    rfl
  · obtain⟨b,l,xs,c,rfl,hB,hN,c0,c1,q⟩:=h
    refine⟨_,(ah (aT (i:=3) iF.nd rfl (Or.inl rfl) (aB O_law_take (hr.mono (by decide)) rfl (U (pv 0) (U ai ae))))
      (ah (bc (aC bE (pv 3) ai (aK _))
      (ar (aI (bJ (U aJ ae))))
      aX)
      (ah (bc (aC iA (pv 3) ai (aK _))
      (ar (aI (bJ (U aJ (U (aB O_law_take (hr.mono (by decide)) rfl (U (pv 0) (U (pv 2) ae))) ae)))))
      aX)
      (ah (aT (i:=4) iF.nd rfl (Or.inl rfl) (ay bF (cq (U aJ (U aJ ae))) (bh rR (aB O_law_take (hr.mono (by decide)) rfl (U (pv 0) (U ai ae))) ai) (fun _ _=>rfl)))
      (ah (aT (i:=5) iF.nd rfl (Or.inl rfl) (ay bF (pv 1) (aB O_law_take (hr.mono (by decide)) rfl (U (pv 0) (U (bL bB rfl Z.len dc (U (pv 1) ae)) ae))) (fun _ _=>rfl)))
      (ar (aI (bJ (U (pv 4) (U (pv 5) (U (aB O_law_number (hr.mono (by decide)) rfl (U (pv 0) ae)) (U (aB O_law_take (hr.mono (by decide)) rfl (U (pv 0) (U (pv 2) ae))) (U (aB O_law_take (hr.mono (by decide)) rfl (U (pv 0) (U (pv 2) ae))) ae))))))))))))),?_⟩
    have ck:(0:Int) < (c:Int)/\(c:Int).natAbs.log2 < 9000:=⟨by omega,gJ (by omega) (by omega)⟩
    refine⟨_,rfl,b,9,rfl,hB,⟨by decide,by decide +kernel⟩,fun r H1 r0 r1 B1 X1=>?_⟩
    refine⟨_,rfl,rfl,_,rfl,?_⟩
    refine dN (fun hc=>?_) (fun hc=>?_)
    · refine⟨xJ,fun t mt=>?_⟩
      exact q _ .stop _ (.tup aa (.cons (.str _) .nil)) True.intro (B1.new mt) (X1.trans (Fix.new mt))
    refine⟨_,rfl,_,_,rfl,rfl,_,rfl,?_⟩
    refine dN (fun hd=>?_) (fun hd=>?_)
    · refine⟨_,rfl,_,rfl,b,_,rfl,B1,ck,fun p H2 p0 p1 B2 X2=>⟨ln2,fun t mt=>?_⟩⟩
      obtain⟨k,rfl⟩:∃ k:Nat,p=k:=⟨p.toNat,by omega⟩
      exact q _ (.go k) _ (.tup aa (.cons (.str _) (.cons (.int _) .nil))) (show k < c by omega) (B2.new mt) ((X1.trans X2).trans (Fix.new mt))
    · refine⟨ln2,fun l0 m0=>?_⟩
      refine⟨_,rfl,b,3,rfl,B1.new m0,⟨by decide,by decide +kernel⟩,fun z H2 z0 z1 B2 X2=>⟨_,_,rfl,rfl,⟨by decide,by decide⟩,?_⟩⟩
      have h0:H2 l0=some (.lst [.str "less",.str "is"]):=X2 l0 _ aa (B1.dZ m0)
      have hw:∃ w:Bool,dY [V.str "less",V.str "is"] (z / 2)=some (V.str (wT w)):=by
        obtain h | h:z / 2=0\/z / 2=1:=by omega
        · rw [h];exact⟨true,bo⟩
        · rw [h];exact⟨false,cu⟩
      obtain⟨w,hat⟩:=hw
      refine⟨l0,_,_,_,rfl,rfl,aM.of h0,hat,?_⟩
      have F2:Fix b H H2:=(X1.trans (Fix.new m0)).trans X2
      have N2:=hN.fix F2
      obtain⟨p0,p1⟩:=N2.pos
      refine⟨_,rfl,_,rfl,_,rfl,l,_,rfl,.inl (aM.of N2.at_),b,_,rfl,B2,⟨p0,gJ p0 p1⟩,fun r3 H3 r30 r31 B3 X3=>?_⟩
      have N3:=N2.fix X3
      obtain⟨x,hx,hxm⟩:=ma r30 r31
      refine⟨l,_,r3,_,rfl,rfl,aM.of N3.at_,hx,?_⟩
      refine⟨_,rfl,_,rfl,_,rfl,b,rfl,B3,fun n H4 nk B4 X4=>?_⟩
      refine⟨_,rfl,_,rfl,b,_,rfl,B4,ck,fun p H5 p0 p1 B5 X5=>?_⟩
      refine⟨_,rfl,_,rfl,b,_,rfl,B5,ck,fun p' H6 p0' p1' B6 X6=>⟨BL,fun t mt=>?_⟩⟩
      obtain⟨k,rfl⟩:∃ k:Nat,p=k:=⟨p.toNat,by omega⟩
      obtain⟨k',rfl⟩:∃ k:Nat,p' = k:=⟨p'.toNat,by omega⟩
      exact q _ (.dD w x n k k') _ (.tup aa (.cons (.str _) (.cons (.str _) (.cons (.int _) (.cons (.int _) (.cons (.int _) .nil)))))) ⟨hxm,nk,by omega,by omega⟩ (B6.new mt) ((((F2.trans X3).trans X4).trans (X5.trans X6)).trans (Fix.new mt))
theorem rH {f:Addr} {fd:FuncData} (F:bZ K "_law_plan" "_law_plan" fO f fd) (Z:Bl mg) (O_law_take:Own P w K mg base "_law_take" 1 ["bag", "many"] fW) (O_law_names:Own P w K mg base "_law_names" 2 ["bag"] nH) (O_law_deed:Own P w K mg base "_law_deed" 3 ["bag", "names"] pX) (O_law_end:Own P w K mg base "_law_end" 3 ["bag", "names", "count"] pY):bg P w K mg base bS 4 f fd ["bag", "count", "most"] pZ:=by
  refine F.ok (k:=3) fe (fun vs H Q E h=>?_) (fun cdv A outer s H vs Q E hr h=>?_)
  · obtain⟨b,c,m,rfl,_⟩:=h
    rfl
  · obtain⟨b,c,m,rfl,hB,c0,c1,hm,q⟩:=h
    refine⟨_,(ah (aT (i:=3) fe.nd rfl (Or.inr rfl) (aB O_law_names (hr.mono (by decide)) rfl (U (pv 0) ae)))
      (ah (aT (i:=4) fe.nd rfl (Or.inl rfl) (cq ae))
      (ah (eX PassesOwn.never rfl (eN rfl Z.range (U (pv 1) ae)) (aA (i:=5) fe.nd rfl (Or.inl rfl))
      (ah (aT (i:=6) fe.nd rfl (Or.inl rfl) (aB O_law_take (hr.mono (by decide)) rfl (U (pv 0) (U (bh dB (pv 2) ai) ae))))
      (ah (aT (i:=7) fe.nd rfl (Or.inl rfl) (aB O_law_end (hr.mono (by decide)) rfl (U (pv 0) (U (pv 3) (U (pv 1) ae)))))
      (ar (bT (eS PySem.F.plainAttrs_list PySem.F.slot_list_append PySem.F.type_list_append cA (pv 4) (U (bJ (U (bR cc rfl Z.tuple d6 (U (gh ["j"] ["bag", "names"] [0,3] rfl (eN rfl Z.range (U (pv 6) ae)) rfl (by decide +kernel) (by decide +kernel) (by decide +kernel) ⟨⟨rfl,.inl rfl,rfl⟩,⟨⟨rfl,.inl rfl,rfl⟩,True.intro⟩⟩ (fun _ _ _ _=>(aA (i:=0) (show ((["j"]:List Str)++(["bag", "names"]:List Str)).Nodup by decide +kernel) rfl (Or.inl rfl) (hf:=Or.inr rfl))) (fun _ _ _ _=>eB) (fun _ _ _ _=>(aB O_law_deed (hr.mono (by decide)) rfl (U (pv 1) (U (pv 2) ae))))) ae)) (U (pv 7) ae))) ae)))))))
      (ar (aI (bR cc rfl Z.tuple d6 (U (pv 4) ae))))))),?_⟩
    refine⟨_,rfl,b,rfl,hB,fun l xs H1 N1 x4 B1 X1=>?_⟩
    refine⟨(by show 0<=sizeLine;decide),fun pl pn=>?_⟩
    have hpb:pl ≠ b:=B1.dZ pn
    refine⟨_,rfl,_,rfl,(by omega),(by omega),ie (lo:=0) (fun i σ H'=>∃ (u1 u2 u3:Option V) (ps:List Piece) (vs:List V),σ = [some (.ref b),some (.int c),some (.int m),some (.ref l),some (.ref pl),u1,u2,u3] /\
      H' pl=some (.lst vs)/\aV H' vs (ps.map eY)/\ps.length=i/\(∀ p ∈ ps,(p.1.length<=m/\∀ d ∈ p.1,iZ xs d)/\o4 xs c p.2)/\fH H' b l xs/\cN H' b/\Fix b H H'/\(∀ d o,H1 d=some o->d ≠ b->H' d=some o)) ?_ ?_ ?_⟩
    · exact⟨_,_,_,[],[],rfl,aa,.nil,rfl,(fun _ h=>nomatch h),N1.fix (Fix.new pn),B1.new pn,X1.trans (Fix.new pn),Fix.new pn⟩
    · rintro i σ H' hi ⟨u1,u2,u3,ps,vs,rfl,hp,hr,hl,aP,N',B',X',Y'⟩
      refine⟨_,rfl,_,rfl,_,_,rfl,rfl,b,_,rfl,B',⟨by omega,gJ (by omega) (by omega)⟩,fun k H2 k0 k1 B2 X2=>?_⟩
      have N2:=N'.fix X2
      refine⟨_,rfl,_,rfl,_,rfl,b,l,xs,c,rfl,B2,N2,c0,(by omega),fun ev e H3 re ek B3 X3=>?_⟩
      have N3:=N2.fix X3
      have hp3:H3 pl=some (.lst vs):=(X2.trans X3) pl _ hp hpb
      have hr3:aV H3 vs (ps.map eY):=hr.fix B' (X2.trans X3) (bt ps)
      refine⟨_,rfl,.inl ⟨rfl,_,aM.of hp3⟩,_,rfl,_,rfl,(by omega),(by omega),fun acc na=>?_⟩
      have hab:acc ≠ b:=B3.dZ na
      refine lZ (lo:=0) (fun i ys τ H'=>∃ (v:Option V) (ds:List aW),τ = [v,some (.ref b),some (.ref l)]/\aV H' ys (ds.map bH)/\ds.length=i/\(∀ d ∈ ds,iZ xs d)/\H' acc=some (.lst ys)/\cN H' b/\Fix b H3 H') ?_ ?_ ?_ ?_
      · exact⟨none,[],rfl,.nil,rfl,(fun _ h=>nomatch h),aa,B3.new na,Fix.new na⟩
      · rintro i' ys τ H4 hi' ⟨v,ds,rfl,rds,hl',_,ha,_⟩
        refine⟨ha,?_⟩
        rw [rds.len,List.length_map]
        exact ig (by omega)
      · rintro i' ys τ H4 hi' ⟨v,ds,rfl,rds,hl',hdk,ha,B4,X4⟩
        refine kC ?_
        refine wy ?_
        refine cM ?_
        refine⟨_,rfl,_,rfl,b,l,xs,rfl,B4,N3.fix X4,fun dv d H5 rd dk B5 X5=>?_⟩
        have ha5:=X5 acc _ ha hab
        refine⟨ha5,_,ds ++ [d],rfl,?_,(by rw [List.length_append,hl'];rfl),?_,aa,?_,?_⟩
        · rw [List.map_append]
          refine aV.app ((rds.fix B4 X5 (bP ds)).put ha5 (bP ds)) ?_
          exact rd.df (fun p zs e=>by rw [af (bI e ha5 (by intro z;cases z))];exact e) (lK d)
        · intro d' hd
          rcases List.mem_append.mp hd with hd | hd
          · exact hdk d' hd
          · rw [List.mem_singleton.mp hd];exact dk
        · obtain⟨x,y,e,z⟩:=B5
          exact⟨x,y,by rw [af hab.symm];exact e,z⟩
        · intro d' o hd nd
          rw [af (aw hd na)]
          exact (X4.trans X5) d' o hd nd
      · rintro ys τ H4 ⟨v,ds,rfl,rds,hl',hdk,ha,B4,X4⟩
        refine⟨acc,ys,rfl,.inl ⟨aM.of ha,fun tp tn=>?_⟩⟩
        refine⟨_,rfl,ln2,fun pc pcn=>?_⟩
        have S6:ao H4 (upd (upd H4 tp (.tup ys)) pc (.tup [.ref tp,ev])):=(ao.new tn).trans (ao.new pcn)
        have hp6:(upd (upd H4 tp (.tup ys)) pc (.tup [.ref tp,ev])) pl=some (.lst vs):=S6 _ _ (X4 pl _ hp3 hpb)
        refine⟨pl,_,_,rfl,rfl,hp6,?_,?_⟩
        · rw [hr.len,List.length_map,hl]
          exact ig (by omega)
        have hpiece:aY (upd (upd H4 tp (.tup ys)) pc (.tup [.ref tp,ev])) (.ref pc) (eY (ds,e)):=by
          refine .tup aa (.cons (.tup (ao.new pcn _ _ aa) (rds.same S6 (bP ds))) (.cons ?_ .nil))
          exact (re.fix B3 X4 (jS e)).same S6 (jS e)
        have F6:Fix b H (upd (upd H4 tp (.tup ys)) pc (.tup [.ref tp,ev])):=((X'.trans (X2.trans X3)).trans X4).trans (Fix.of_same S6)
        have plH:∀ d o,H1 d=some o->d ≠ b->d ≠ pl:=fun d o hd nd z=>by rw [z,pn] at hd;cases hd
        refine⟨_,_,_,ps ++ [(ds,e)],vs ++ [.ref pc],rfl,aa,?_,(by rw [List.length_append,hl];rfl),?_,?_,?_,?_,?_⟩
        · rw [List.map_append]
          refine aV.app (((hr3.fix B3 X4 (bt ps)).same S6 (bt ps)).put hp6 (bt ps)) ?_
          exact hpiece.df (fun p zs e=>by rw [af (bI e hp6 (by intro z;cases z))];exact e) (kB (ds,e))
        · intro p hpm
          rcases List.mem_append.mp hpm with hpm | hpm
          · exact aP p hpm
          · rw [List.mem_singleton.mp hpm]
            exact⟨⟨by show ds.length<=m;omega,hdk⟩,ek⟩
        · have hll:l ≠ pl:=fun z=>by
            have:=N1.at_
            rw [z,pn] at this
            cases this
          have N6:=(N3.fix X4).fix (Fix.of_same (b:=b) S6)
          exact⟨by rw [af hll];exact N6.at_,N6.ne,N6.tH,N6.bK,N6.ok⟩
        · obtain⟨x,y,e',z⟩:=B4.same S6
          exact⟨x,y,by rw [af hpb.symm];exact e',z⟩
        · intro d o hd nd
          have h1:=X1 d o hd nd
          rw [af (plH d o h1 nd)]
          exact F6 d o hd nd
        · intro d o hd nd
          rw [af (plH d o hd nd)]
          exact S6 d o (X4 d o ((X2.trans X3) d o (Y' d o hd nd) nd) nd)
    · rintro σ H' ⟨u1,u2,u3,ps,vs,rfl,hp,hr,hl,aP,N',B',X',Y'⟩
      have hl':ps.length=c:=by rw [hl];omega
      refine⟨_,rfl,pl,_,rfl,.inl ⟨aM.of hp,fun tp tn=>?_⟩⟩
      refine q (.ref tp) xs ps _ (.tup aa (hr.same (ao.new tn) (bt ps))) hl' ⟨fun p hpm=>(aP p hpm).1,fun p hpm=>?_⟩ ⟨N'.ok,x4⟩ (B'.new tn) (X'.trans (Fix.new tn))
      rw [hl']
      exact (aP p hpm).2
theorem qX {f:Addr} {fd:FuncData} (F:bZ K "_law_count" "_law_count" ff f fd) (Z:Bl mg) (O_law_take:Own P w K mg base "_law_take" 1 ["bag", "many"] fW):bg P w K mg base bS 2 f fd ["bag", "most"] nI:=by
 refine F.ok (k:=1) qS (fun vs H Q E h=>?_) (fun cdv A outer s H vs Q E hr h=>?_)
 ·obtain⟨b,m,rfl,_⟩:=h
  rfl
 ·obtain⟨b,m,rfl,hB,m0,m1,q⟩:=h
  refine⟨_,(ar (aI (ay bF (cq (U (bh dB ai (aB O_law_take (hr.mono (by decide)) rfl (U (pv 0) (U (pv 1) ae)))) (U (bh dB ai (aB O_law_take (hr.mono (by decide)) rfl (U (pv 0) (U (bL (kj rfl) rfl Z.min pR (U ai (U (pv 1) ae))) ae)))) (U (pv 1) ae)))) (aB O_law_take (hr.mono (by decide)) rfl (U (pv 0) (U ai ae))) (fun _ _=>rfl)))),?_⟩
  refine⟨_,rfl,_,rfl,b,_,rfl,hB,⟨by omega,gJ (by omega) (by omega)⟩,fun r H1 r0 r1 B1 X1=>⟨_,_,rfl,rfl,?_⟩⟩
  refine⟨_,rfl,_,rfl,_,_,rfl,b,_,rfl,B1,⟨(by split <;> omega),gJ (by split <;> omega) (by split <;> omega)⟩,fun r2 H2 r20 r21 B2 X2=>⟨_,_,rfl,rfl,?_⟩⟩
  refine⟨_,rfl,iX,fun l0 n0=>?_⟩
  refine⟨_,rfl,b,3,rfl,B2.new n0,⟨by decide,by decide +kernel⟩,fun z H3 z0 z1 B3 X3=>?_⟩
  have h0:H3 l0=some (.lst [.int (1+r),.int (1+r2),.int m]):=X3 l0 _ aa (B2.dZ n0)
  have hr2:r2 < 4:=by
   have:=r21
   split at this <;> omega
  have F3:Fix b H H3:=((X1.trans X2).trans (Fix.new n0)).trans X3
  obtain rfl | rfl | rfl:z=0\/z=1\/z=2:=by omega
  ·refine⟨l0,_,0,_,rfl,rfl,aM.of h0,bo,?_⟩
   have e:(1+r)=(((1+r).toNat:Nat):Int):=by omega
   rw [e]
   exact q _ H3 (by omega) (by omega) B3 F3
  ·refine⟨l0,_,1,_,rfl,rfl,aM.of h0,cu,?_⟩
   have e:(1+r2)=(((1+r2).toNat:Nat):Int):=by omega
   rw [e]
   exact q _ H3 (by omega) (by omega) B3 F3
  ·refine⟨l0,_,2,_,rfl,rfl,aM.of h0,at2,?_⟩
   exact q _ H3 m0 (by omega) B3 F3
theorem rJ {f:Addr} {fd:FuncData} (F:bZ K "_law_step" "_law_step" fP f fd) (Z:Bl mg)  : bg P w K mg base bS 1 f fd ["plan", "state", "numbers"] p7:=by
 refine F.ok (k:=0) bD (fun vs H Q E h=>?_) (fun cdv A outer s H vs Q E hr h=>?_)
 ·obtain⟨plv,st,np,d,tl,bl,ps,nums,S,m,rfl,_⟩:=h
  rfl
 ·obtain⟨plv,st,np,d,tl,bl,ps,nums,S,m,rfl,hp,hin,hnp,A,hpc,htk,hm,q⟩:=h
  refine⟨_,(ah (cB (dz (pv 1) (cI rfl (aL (aA (i:=3) bD.nd rfl (Or.inl rfl)) (aL (aA (i:=4) bD.nd rfl (Or.inl rfl)) (aL (aA (i:=5) bD.nd rfl (Or.inl rfl)) (aL (aA (i:=6) bD.nd rfl (Or.inl rfl)) (aL (aA (i:=7) bD.nd rfl (Or.inl rfl)) (aL (aA (i:=8) bD.nd rfl (Or.inl rfl)) (aL (aA (i:=9) bD.nd rfl (Or.inl rfl)) cv))))))))))
   (ah (cB (dz (ay aF (pv 0) (pv 3) (fun _ _=>rfl)) (cI rfl (aL (aA (i:=10) bD.nd rfl (Or.inl rfl)) (aL (aA (i:=11) bD.nd rfl (Or.inl rfl)) cv)))))
   (ah (bc (aC iA (pv 4) (bL bB rfl Z.len dc (U (pv 10) ae)) (aK _))
   (ah (aT (i:=12) bD.nd rfl (Or.inl rfl) (ay aF (pv 10) (pv 4) (fun _ _=>rfl)))
   (ah (cB (aT (i:=13) bD.nd rfl (Or.inl rfl) (eO (cQ hr) (pv 5) (ay aF (pv 12) ai (fun _ _=>rfl)) ai ⟨rfl,rfl,rfl,rfl⟩)))
   (ah (bc (aC bE (ay aF (pv 12) ai (fun _ _=>rfl)) aJ (aK _))
   (ar (eD (cQ hr) (pv 5) (ay aF (pv 12) ai (fun _ _=>rfl)) (ay aF (pv 12) ai (fun _ _=>rfl)) rfl))
   aX)
   (ah (bc (aC bE (ay aF (pv 12) ai (fun _ _=>rfl)) aJ (aK _))
   (ar (eD (cQ hr) (pv 5) (ay aF (pv 12) ai (fun _ _=>rfl)) (eO (cQ hr) (pv 5) (ay aF (pv 12) ai (fun _ _=>rfl)) ai ⟨rfl,rfl,rfl,rfl⟩) rfl))
   aX)
   (ah (bc (aC bE (ay aF (pv 12) ai (fun _ _=>rfl)) aJ (aK _))
   (ar (eD (cQ hr) (pv 5) (ay aF (pv 12) ai (fun _ _=>rfl)) (bh dB (pv 13) (ay aF (pv 12) ai (fun _ _=>rfl))) rfl))
   aX)
   (ah (bc (aC bE (ay aF (pv 12) ai (fun _ _=>rfl)) aJ (aK _))
   (ar (bT (eS PySem.F.plainAttrs_list PySem.F.slot_list_append PySem.F.type_list_append cA (pv 7) (U (pv 13) ae))))
   aX)
   (ah (bc (aC bE (ay aF (pv 12) ai (fun _ _=>rfl)) aJ (aK _))
   (ah (bc (aC bE (pv 6) (bL bB rfl Z.len dc (U (pv 2) ae)) (aK _))
   (ar (aI (bJ (U (pv 3) (U (pv 4) (U (pv 5) (U (pv 6) (U (pv 7) (U aJ (U (pv 9) ae))))))))))
   aX)
   (ah (eD (cQ hr) (pv 5) (ay aF (pv 12) ai (fun _ _=>rfl)) (ay aF (pv 2) (pv 6) (fun _ _=>rfl)) rfl)
   (ar (aT (i:=6) bD.nd rfl (Or.inl rfl) (bh dB (pv 6) ai)))))
   aX)
   (ar (aI (bJ (U (pv 3) (U (bh dB (pv 4) ai) (U (pv 5) (U (pv 6) (U (pv 7) (U (pv 8) (U (pv 9) ae)))))))))))))))))
   aX)
   (ah (bc (aC bE (ay aF (pv 11) ai (fun _ _=>rfl)) aJ (aK _))
   (ar (aI (bJ (U (pv 3) (U (pv 4) (U (pv 5) (U (pv 6) (U (pv 7) (U aJ (U (pv 9) ae))))))))))
   aX)
   (ah (bc (aC bE (ay aF (pv 11) ai (fun _ _=>rfl)) aJ (aK _))
   (ar (aT (i:=14) bD.nd rfl (Or.inl rfl) (ay aF (pv 11) ai (fun _ _=>rfl))))
   (ah (cB (aT (i:=13) bD.nd rfl (Or.inl rfl) (eO (cQ hr) (pv 5) (ay aF (pv 11) ai (fun _ _=>rfl)) ai ⟨rfl,rfl,rfl,rfl⟩)))
   (ah (aT (i:=15) bD.nd rfl (Or.inl rfl) (ay bF (cq (U (fG iA (pv 13) (ay aF (pv 11) ai (fun _ _=>rfl)) (aK _)) (U (fG bE (pv 13) (ay aF (pv 11) ai (fun _ _=>rfl)) (aK _)) ae))) (bR km rfl Z.int pS (U (fG bE (ay aF (pv 11) ai (fun _ _=>rfl)) aJ (aK _)) ae)) (fun _ _=>rfl)))
   (ar (aT (i:=14) bD.nd rfl (Or.inl rfl) (ay aF (pv 11) (bh gH ai (bR km rfl Z.int pS (U (pv 15) ae))) (fun _ _=>rfl)))))))
   (ah (bT (eS PySem.F.plainAttrs_list PySem.F.slot_list_append PySem.F.type_list_append cA (pv 9) (U (pv 14) ae)))
   (ar (aI (bJ (U (pv 14) (U ai (U (pv 5) (U (pv 6) (U (pv 7) (U (pv 8) (U (pv 9) ae)))))))))))))))),?_⟩
  obtain⟨kvs,hd,dw,hk⟩:=A.dict
  have hx:ps[S.aR]? = some ps[S.aR]:=by simp [hpc]
  generalize hpe:ps[S.aR] = pe at hx
  obtain⟨ds,e⟩:=pe
  obtain⟨p,xs,pc,da,ea,vs,rfl,e1,el,hx',e2,e3,r3,e4⟩:=fw hp hx
  have hvl:vs.length=ds.length:=by rw [r3.len,List.length_map]
  have ndt:d ≠ tl:=bI hd A.told (by intro z;cases z)
  have ndb:d ≠ bl:=bI hd A.bQ (by intro z;cases z)
  refine⟨fun σ' H'=>σ' = [some (.ref p),some (.ref st),some (.ref np),some (.int S.aR),some (.int S.place),some (.ref d),some (.int S.taken),some (.ref tl),some (.str S.word),some (.ref bl),none,none,none,none,none,none]/\H=H',⟨_,rfl,st,_,rfl,av.of A.at_,rfl,_,_,rfl,_,_,rfl,_,_,rfl,_,_,rfl,_,_,rfl,_,_,rfl,_,_,rfl,rfl,rfl,rfl⟩,?_⟩
  rintro σ' H' ⟨rfl,rfl⟩
  refine⟨fun σ' H''=>σ' = [some (.ref p),some (.ref st),some (.ref np),some (.int S.aR),some (.int S.place),some (.ref d),some (.int S.taken),some (.ref tl),some (.str S.word),some (.ref bl),some (.ref da),some (.ref ea),none,none,none,none]/\H=H'',⟨_,rfl,_,rfl,p,xs,_,_,rfl,rfl,av.of e1,bp hx',pc,_,rfl,av.of e2,rfl,_,_,rfl,_,_,rfl,rfl,rfl,rfl⟩,?_⟩
  rintro σ' H'' ⟨rfl,rfl⟩
  refine⟨_,rfl,_,rfl,da,_,rfl,.inr (av.of e3),_,_,rfl,rfl,_,rfl,?_⟩
  refine dN (fun hc=>?_) (fun hc=>?_)
  ·have hlt:S.place < vs.length:=by have:=of_decide_eq_true hc;omega
   have hdd:ds[S.place]? = some (ds[S.place]'(by omega)):=by simp [show S.place < ds.length by omega]
   generalize hde:ds[S.place]'(by omega)=dd at hdd
   have hs:=oF (nums:=nums) hx hdd
   obtain⟨v,hv,rd⟩:=r3.get (i:=S.place) (d:=bH dd) (by rw [List.getElem?_map,hdd];rfl)
   obtain⟨dp,rfl,hdp⟩:=iI rd
   have nd:dp ≠ d:=bI hdp hd (by intro z;cases z)
   refine⟨_,rfl,_,rfl,da,_,_,_,rfl,rfl,av.of e3,bp hv,?_⟩
   clear hde
   cases dd
   case put x n =>
    refine⟨fun σ' H1=>σ' = [some (.ref p),some (.ref st),some (.ref np),some (.int S.aR),some (.int S.place),some (.ref d),some (.int S.taken),some (.ref tl),some (.str S.word),some (.ref bl),some (.ref da),some (.ref ea),some (.ref dp),some (.int (S.w x)),none,none]/\H=H1,⟨_,rfl,d,rfl,.inl ⟨kvs,.inl hd⟩,_,rfl,dp,_,1,_,rfl,rfl,av.of hdp,cu,_,_,eT.k (k:=Sum.inr x) hd,dw x,rfl,rfl⟩,?_⟩
    rintro σ' H1 ⟨rfl,rfl⟩
    refine⟨_,rfl,dp,_,0,_,rfl,rfl,av.of hdp,bo,rfl,_,rfl,?_⟩
    refine bu (show decide (V.str "put" = V.str "put")=true by decide +kernel) ?_
    refine⟨_,rfl,dp,_,2,_,rfl,rfl,av.of hdp,at2,_,rfl,_,rfl,dp,_,1,_,rfl,rfl,av.of hdp,cu,d,_,rfl,fT.k (k:=Sum.inr x) hd (aH (by omega)),?_⟩
    have hdp1:(upd H d (.dK (putK kvs (Sum.inr x) (.int (n))))) dp=some (.tup (jd (.put x n))):=by rw [af nd];exact hdp
    refine⟨_,rfl,dp,_,0,_,rfl,rfl,av.of hdp1,bo,rfl,_,rfl,?_⟩
    refine ax (show decide (V.str "put" = V.str "copy")=false by decide +kernel) ?_
    refine⟨_,rfl,dp,_,0,_,rfl,rfl,av.of hdp1,bo,rfl,_,rfl,?_⟩
    refine ax (show decide (V.str "put" = V.str "add")=false by decide +kernel) ?_
    refine⟨_,rfl,dp,_,0,_,rfl,rfl,av.of hdp1,bo,rfl,_,rfl,?_⟩
    refine ax (show decide (V.str "put" = V.str "tell")=false by decide +kernel) ?_
    refine⟨_,rfl,dp,_,0,_,rfl,rfl,av.of hdp1,bo,rfl,_,rfl,?_⟩
    refine ax (show decide (V.str "put" = V.str "read")=false by decide +kernel) ?_
    refine⟨_,rfl,_,rfl,_,_,rfl,rfl,_,rfl,_,rfl,_,rfl,_,rfl,_,rfl,ku,fun st' hn=>?_⟩
    refine q st' _ (eF.lL (kvs:=putK kvs (Sum.inr x) (.int (n))) aa ?_ ?_ ?_ ?_ A.ne ?_ hn ?_) (dM.iD.trans (dM.new hn))
    ·rw [hs];exact dw.put x (n)
    ·have:=cx kvs (Sum.inr x:Key) (V.int (n));omega
    ·rw [hs,af ndt.symm];exact A.told
    ·rw [hs,af ndb.symm];exact A.bQ
    ·rw [hs];exact⟨Nat.le_succ_of_le A.bK.1,Nat.le_succ_of_le A.bK.2⟩
    ·rw [hs];rfl
   case copy x y =>
    refine⟨fun σ' H1=>σ' = [some (.ref p),some (.ref st),some (.ref np),some (.int S.aR),some (.int S.place),some (.ref d),some (.int S.taken),some (.ref tl),some (.str S.word),some (.ref bl),some (.ref da),some (.ref ea),some (.ref dp),some (.int (S.w x)),none,none]/\H=H1,⟨_,rfl,d,rfl,.inl ⟨kvs,.inl hd⟩,_,rfl,dp,_,1,_,rfl,rfl,av.of hdp,cu,_,_,eT.k (k:=Sum.inr x) hd,dw x,rfl,rfl⟩,?_⟩
    rintro σ' H1 ⟨rfl,rfl⟩
    refine⟨_,rfl,dp,_,0,_,rfl,rfl,av.of hdp,bo,rfl,_,rfl,?_⟩
    refine ax (show decide (V.str "copy" = V.str "put")=false by decide +kernel) ?_
    refine⟨_,rfl,dp,_,0,_,rfl,rfl,av.of hdp,bo,rfl,_,rfl,?_⟩
    refine bu (show decide (V.str "copy" = V.str "copy")=true by decide +kernel) ?_
    refine⟨_,rfl,d,rfl,.inl ⟨kvs,.inl hd⟩,_,rfl,dp,_,2,_,rfl,rfl,av.of hdp,at2,_,_,eT.k (k:=Sum.inr y) hd,dw y,_,rfl,_,rfl,dp,_,1,_,rfl,rfl,av.of hdp,cu,d,_,rfl,fT.k (k:=Sum.inr x) hd (aH (by omega)),?_⟩
    have hdp1:(upd H d (.dK (putK kvs (Sum.inr x) (.int (S.w y))))) dp=some (.tup (jd (.copy x y))):=by rw [af nd];exact hdp
    refine⟨_,rfl,dp,_,0,_,rfl,rfl,av.of hdp1,bo,rfl,_,rfl,?_⟩
    refine ax (show decide (V.str "copy" = V.str "add")=false by decide +kernel) ?_
    refine⟨_,rfl,dp,_,0,_,rfl,rfl,av.of hdp1,bo,rfl,_,rfl,?_⟩
    refine ax (show decide (V.str "copy" = V.str "tell")=false by decide +kernel) ?_
    refine⟨_,rfl,dp,_,0,_,rfl,rfl,av.of hdp1,bo,rfl,_,rfl,?_⟩
    refine ax (show decide (V.str "copy" = V.str "read")=false by decide +kernel) ?_
    refine⟨_,rfl,_,rfl,_,_,rfl,rfl,_,rfl,_,rfl,_,rfl,_,rfl,_,rfl,ku,fun st' hn=>?_⟩
    refine q st' _ (eF.lL (kvs:=putK kvs (Sum.inr x) (.int (S.w y))) aa ?_ ?_ ?_ ?_ A.ne ?_ hn ?_) (dM.iD.trans (dM.new hn))
    ·rw [hs];exact dw.put x (S.w y)
    ·have:=cx kvs (Sum.inr x:Key) (V.int (S.w y));omega
    ·rw [hs,af ndt.symm];exact A.told
    ·rw [hs,af ndb.symm];exact A.bQ
    ·rw [hs];exact⟨Nat.le_succ_of_le A.bK.1,Nat.le_succ_of_le A.bK.2⟩
    ·rw [hs];rfl
   case add x n =>
    refine⟨fun σ' H1=>σ' = [some (.ref p),some (.ref st),some (.ref np),some (.int S.aR),some (.int S.place),some (.ref d),some (.int S.taken),some (.ref tl),some (.str S.word),some (.ref bl),some (.ref da),some (.ref ea),some (.ref dp),some (.int (S.w x)),none,none]/\H=H1,⟨_,rfl,d,rfl,.inl ⟨kvs,.inl hd⟩,_,rfl,dp,_,1,_,rfl,rfl,av.of hdp,cu,_,_,eT.k (k:=Sum.inr x) hd,dw x,rfl,rfl⟩,?_⟩
    rintro σ' H1 ⟨rfl,rfl⟩
    refine⟨_,rfl,dp,_,0,_,rfl,rfl,av.of hdp,bo,rfl,_,rfl,?_⟩
    refine ax (show decide (V.str "add" = V.str "put")=false by decide +kernel) ?_
    refine⟨_,rfl,dp,_,0,_,rfl,rfl,av.of hdp,bo,rfl,_,rfl,?_⟩
    refine ax (show decide (V.str "add" = V.str "copy")=false by decide +kernel) ?_
    refine⟨_,rfl,dp,_,0,_,rfl,rfl,av.of hdp,bo,rfl,_,rfl,?_⟩
    refine bu (show decide (V.str "add" = V.str "add")=true by decide +kernel) ?_
    refine⟨_,rfl,_,rfl,dp,_,2,_,rfl,rfl,av.of hdp,at2,_,_,rfl,rfl,_,rfl,_,rfl,dp,_,1,_,rfl,rfl,av.of hdp,cu,d,_,rfl,fT.k (k:=Sum.inr x) hd (aH (by omega)),?_⟩
    have hdp1:(upd H d (.dK (putK kvs (Sum.inr x) (.int (S.w x+n))))) dp=some (.tup (jd (.add x n))):=by rw [af nd];exact hdp
    refine⟨_,rfl,dp,_,0,_,rfl,rfl,av.of hdp1,bo,rfl,_,rfl,?_⟩
    refine ax (show decide (V.str "add" = V.str "tell")=false by decide +kernel) ?_
    refine⟨_,rfl,dp,_,0,_,rfl,rfl,av.of hdp1,bo,rfl,_,rfl,?_⟩
    refine ax (show decide (V.str "add" = V.str "read")=false by decide +kernel) ?_
    refine⟨_,rfl,_,rfl,_,_,rfl,rfl,_,rfl,_,rfl,_,rfl,_,rfl,_,rfl,ku,fun st' hn=>?_⟩
    refine q st' _ (eF.lL (kvs:=putK kvs (Sum.inr x) (.int (S.w x+n))) aa ?_ ?_ ?_ ?_ A.ne ?_ hn ?_) (dM.iD.trans (dM.new hn))
    ·rw [hs];exact dw.put x (S.w x+n)
    ·have:=cx kvs (Sum.inr x:Key) (V.int (S.w x+n));omega
    ·rw [hs,af ndt.symm];exact A.told
    ·rw [hs,af ndb.symm];exact A.bQ
    ·rw [hs];exact⟨Nat.le_succ_of_le A.bK.1,Nat.le_succ_of_le A.bK.2⟩
    ·rw [hs];rfl
   case read x =>
    refine⟨fun σ' H1=>σ' = [some (.ref p),some (.ref st),some (.ref np),some (.int S.aR),some (.int S.place),some (.ref d),some (.int S.taken),some (.ref tl),some (.str S.word),some (.ref bl),some (.ref da),some (.ref ea),some (.ref dp),some (.int (S.w x)),none,none]/\H=H1,⟨_,rfl,d,rfl,.inl ⟨kvs,.inl hd⟩,_,rfl,dp,_,1,_,rfl,rfl,av.of hdp,cu,_,_,eT.k (k:=Sum.inr x) hd,dw x,rfl,rfl⟩,?_⟩
    rintro σ' H1 ⟨rfl,rfl⟩
    refine⟨_,rfl,dp,_,0,_,rfl,rfl,av.of hdp,bo,rfl,_,rfl,?_⟩
    refine ax (show decide (V.str "read" = V.str "put")=false by decide +kernel) ?_
    refine⟨_,rfl,dp,_,0,_,rfl,rfl,av.of hdp,bo,rfl,_,rfl,?_⟩
    refine ax (show decide (V.str "read" = V.str "copy")=false by decide +kernel) ?_
    refine⟨_,rfl,dp,_,0,_,rfl,rfl,av.of hdp,bo,rfl,_,rfl,?_⟩
    refine ax (show decide (V.str "read" = V.str "add")=false by decide +kernel) ?_
    refine⟨_,rfl,dp,_,0,_,rfl,rfl,av.of hdp,bo,rfl,_,rfl,?_⟩
    refine ax (show decide (V.str "read" = V.str "tell")=false by decide +kernel) ?_
    refine⟨_,rfl,dp,_,0,_,rfl,rfl,av.of hdp,bo,rfl,_,rfl,?_⟩
    refine bu (show decide (V.str "read" = V.str "read")=true by decide +kernel) ?_
    refine⟨_,rfl,_,rfl,np,_,rfl,.inr (av.of hnp),rfl,_,rfl,?_⟩
    refine dN (fun ht=>?_) (fun ht=>?_)
    ·have he:S.taken=nums.length:=by
      have:=V.int.inj (of_decide_eq_true ht)
      rw [List.length_map] at this
      omega
     have hnn:nums[S.taken]? = none:=by rw [he];simp
     have hs':bf ps nums S = { S with word := "dry" }:=by rw [hs];show (match nums[S.taken]? with | none=>_ | some n=>_)=_;rw [hnn]
     refine⟨_,rfl,_,rfl,_,rfl,_,rfl,_,rfl,_,rfl,ku,fun st' hn=>?_⟩
     rw [hs'] at q
     exact q st' _ (eF.lL (S':={ S with word := "dry" }) hd dw (Nat.le_succ_of_le hk) A.told A.bQ A.ne ⟨Nat.le_succ_of_le A.bK.1,Nat.le_succ_of_le A.bK.2⟩ hn rfl) (dM.new hn)
    ·have hlt2:S.taken < nums.length:=by
      refine Nat.lt_of_le_of_ne htk fun z=>ht (decide_eq_true ?_)
      rw [List.length_map,z]
     have hnn:nums[S.taken]? = some nums[S.taken]:=by simp [hlt2]
     generalize hne:nums[S.taken] = n at hnn
     have hnv:(nums.map V.int)[S.taken]? = some (V.int n):=by rw [List.getElem?_map,hnn];rfl
     have hs':bf ps nums S = { S with w:=gm S.w x n,taken:=S.taken+1,place:=S.place+1 }:=by rw [hs];show (match nums[S.taken]? with | none=>_ | some n=>_)=_;rw [hnn]
     refine⟨_,rfl,_,rfl,np,_,_,_,rfl,rfl,av.of hnp,bp hnv,_,rfl,_,rfl,dp,_,1,_,rfl,rfl,av.of hdp,cu,d,_,rfl,fT.k (k:=Sum.inr x) hd (aH (by omega)),?_⟩
     refine⟨_,rfl,_,_,rfl,rfl,?_⟩
     refine⟨_,rfl,_,rfl,_,_,rfl,rfl,_,rfl,_,rfl,_,rfl,_,rfl,_,rfl,ku,fun st' hn=>?_⟩
     rw [hs'] at q
     refine q st' _ (eF.lL (S':={ S with w:=gm S.w x n,taken:=S.taken+1,place:=S.place+1 }) (kvs:=putK kvs (Sum.inr x) (.int n)) aa (dw.put x n) ?_ ?_ ?_ A.ne ⟨Nat.le_succ_of_le A.bK.1,Nat.le_succ_of_le A.bK.2⟩ hn rfl) (dM.iD.trans (dM.new hn))
     ·have:=cx kvs (Sum.inr x:Key) (V.int n);omega
     ·rw [af ndt.symm];exact A.told
     ·rw [af ndb.symm];exact A.bQ
   case tell x =>
    refine⟨fun σ' H1=>σ' = [some (.ref p),some (.ref st),some (.ref np),some (.int S.aR),some (.int S.place),some (.ref d),some (.int S.taken),some (.ref tl),some (.str S.word),some (.ref bl),some (.ref da),some (.ref ea),some (.ref dp),some (.int (S.w x)),none,none]/\H=H1,⟨_,rfl,d,rfl,.inl ⟨kvs,.inl hd⟩,_,rfl,dp,_,1,_,rfl,rfl,av.of hdp,cu,_,_,eT.k (k:=Sum.inr x) hd,dw x,rfl,rfl⟩,?_⟩
    rintro σ' H1 ⟨rfl,rfl⟩
    refine⟨_,rfl,dp,_,0,_,rfl,rfl,av.of hdp,bo,rfl,_,rfl,?_⟩
    refine ax (show decide (V.str "tell" = V.str "put")=false by decide +kernel) ?_
    refine⟨_,rfl,dp,_,0,_,rfl,rfl,av.of hdp,bo,rfl,_,rfl,?_⟩
    refine ax (show decide (V.str "tell" = V.str "copy")=false by decide +kernel) ?_
    refine⟨_,rfl,dp,_,0,_,rfl,rfl,av.of hdp,bo,rfl,_,rfl,?_⟩
    refine ax (show decide (V.str "tell" = V.str "add")=false by decide +kernel) ?_
    refine⟨_,rfl,dp,_,0,_,rfl,rfl,av.of hdp,bo,rfl,_,rfl,?_⟩
    refine bu (show decide (V.str "tell" = V.str "tell")=true by decide +kernel) ?_
    refine⟨_,rfl,.inl ⟨rfl,_,aM.of A.told⟩,_,rfl,tl,_,_,rfl,rfl,A.told,(by rw [List.length_map];exact aH (by have:=A.bK.1;omega)),?_⟩
    have hdp1:(upd H tl (.lst (S.told.map V.int ++ [.int (S.w x)]))) dp=some (.tup (jd (.tell x))):=by rw [af (bI hdp A.told (by intro z;cases z))];exact hdp
    refine⟨_,rfl,dp,_,0,_,rfl,rfl,av.of hdp1,bo,rfl,_,rfl,?_⟩
    refine ax (show decide (V.str "tell" = V.str "read")=false by decide +kernel) ?_
    refine⟨_,rfl,_,rfl,_,_,rfl,rfl,_,rfl,_,rfl,_,rfl,_,rfl,_,rfl,ku,fun st' hn=>?_⟩
    refine q st' _ (eF.lL (kvs:=kvs) ?_ ?_ ?_ ?_ ?_ A.ne ?_ hn ?_) (dM.Aw.trans (dM.new hn))
    ·rw [af ndt];exact hd
    ·rw [hs];exact dw
    ·omega
    ·rw [hs,aa]
     show _=some (HO.lst ((S.told ++ [S.w x]).map V.int))
     rw [List.map_append]
     rfl
    ·rw [hs,af A.ne.symm];exact A.bQ
    ·rw [hs]
     refine⟨?_,Nat.le_succ_of_le A.bK.2⟩
     show (S.told ++ [S.w x]).length<=m+1
     rw [List.length_append]
     exact Nat.succ_le_succ A.bK.1
    ·rw [hs];rfl
  ·have hnone:ds[S.place]? = none:=by
    rw [List.getElem?_eq_none_iff]
    have:¬ ((S.place:Int) < (vs.length:Nat)):=fun z=>hc (decide_eq_true z)
    omega
   have hs:=p9 (nums:=nums) hx hnone
   have few1:S.bQ.length < 1000000:=by have:=A.bK.2;omega
   cases e with
   | stop =>
    refine⟨_,rfl,ea,_,0,_,rfl,rfl,av.of e4,bo,rfl,_,rfl,?_⟩
    refine bu (show decide (V.str "stop" = V.str "stop")=true by decide +kernel) ⟨_,rfl,_,rfl,_,rfl,_,rfl,_,rfl,_,rfl,ku,fun st' hn=>?_⟩
    rw [hs] at q
    exact q st' _ (eF.lL (S':={ S with word := "stop" }) hd dw (Nat.le_succ_of_le hk) A.told A.bQ A.ne ⟨Nat.le_succ_of_le A.bK.1,Nat.le_succ_of_le A.bK.2⟩ hn rfl) (dM.new hn)
   | go t =>
    refine⟨_,rfl,ea,_,0,_,rfl,rfl,av.of e4,bo,rfl,_,rfl,?_⟩
    refine ax (show decide (V.str "go" = V.str "stop")=false by decide +kernel) ⟨_,rfl,ea,_,0,_,rfl,rfl,av.of e4,bo,rfl,_,rfl,?_⟩
    refine bu (show decide (V.str "go" = V.str "go")=true by decide +kernel) ⟨_,rfl,ea,_,1,_,rfl,rfl,av.of e4,cu,?_⟩
    refine⟨_,rfl,.inl ⟨rfl,_,aM.of A.bQ⟩,_,rfl,bl,_,_,rfl,rfl,A.bQ,(by rw [List.length_map];exact aH (by have:=A.bK.2;omega)),?_⟩
    refine⟨_,rfl,_,rfl,_,rfl,_,rfl,_,rfl,_,rfl,ku,fun st' hn=>?_⟩
    rw [hs] at q
    refine q st' _ (eF.lL (S':=gK S (.go t)) (kvs:=kvs) ?_ dw (Nat.le_succ_of_le hk) ?_ ?_ A.ne ?_ hn rfl) (dM.xM.trans (dM.new hn))
    ·rw [af ndb];exact hd
    ·rw [af A.ne];exact A.told
    ·rw [aa]
     show _=some (HO.lst ((S.bQ ++ [t]).map fun k=>V.int (k:Nat)))
     rw [List.map_append]
     rfl
    ·refine⟨Nat.le_succ_of_le A.bK.1,?_⟩
     show (S.bQ ++ [t]).length<=m+1+1
     rw [List.length_append]
     exact Nat.succ_le_succ A.bK.2
   | dD b x n t t' =>
    have hw1:decide (V.str (wT b)=V.str "stop")=false:=by cases b <;> decide +kernel
    have hw2:decide (V.str (wT b)=V.str "go")=false:=by cases b <;> decide +kernel
    have hw3:decide (V.str (wT b)=V.str "is") = !b:=by cases b <;> decide +kernel
    refine⟨_,rfl,ea,_,0,_,rfl,rfl,av.of e4,bo,rfl,_,rfl,?_⟩
    refine ax hw1 ⟨_,rfl,ea,_,0,_,rfl,rfl,av.of e4,bo,rfl,_,rfl,?_⟩
    refine ax hw2 ?_
    refine⟨fun σ' H1=>σ' = [some (.ref p),some (.ref st),some (.ref np),some (.int S.aR),some (.int S.place),some (.ref d),some (.int S.taken),some (.ref tl),some (.str S.word),some (.ref bl),some (.ref da),some (.ref ea),none,some (.int (S.w x)),none,none]/\H=H1,⟨_,rfl,d,rfl,.inl ⟨kvs,.inl hd⟩,_,rfl,ea,_,1,_,rfl,rfl,av.of e4,cu,_,_,eT.k (k:=Sum.inr x) hd,dw x,rfl,rfl⟩,?_⟩
    rintro σ' H1 ⟨rfl,rfl⟩
    refine⟨_,rfl,_,rfl,ea,_,2,_,rfl,rfl,av.of e4,at2,_,_,rfl,rfl,_,rfl,_,rfl,ea,_,2,_,rfl,rfl,av.of e4,at2,rfl,ln2,fun l0 n0=>?_⟩
    have e5:upd H l0 (.lst [.bl (decide (S.w x < n)),.bl (decide (V.int (S.w x)=V.int n))]) ea=some (.tup (i5 (.dD b x n t t'))):=by rw [af (aw e4 n0)];exact e4
    refine⟨_,rfl,ea,_,0,_,rfl,rfl,av.of e5,bo,rfl,.inr ⟨_,rfl,?_⟩⟩
    have hyes:dY [V.bl (decide (S.w x < n)),V.bl (decide (V.int (S.w x)=V.int n))] (if decide (V.str (wT b)=V.str "is")=true then 1 else 0)=some (V.bl (eE b (S.w x) n)):=by
     rw [hw3]
     cases b with
     | true=>exact bo
     | false =>
      have ed:decide (V.int (S.w x)=V.int n)=decide (S.w x=n):=by
       by_cases hh:S.w x=n
       ·rw [decide_eq_true hh,decide_eq_true (congrArg V.int hh)]
       ·rw [decide_eq_false hh,decide_eq_false fun z=>hh (V.int.inj z)]
      rw [ed]
      exact cu
    refine⟨l0,_,_,_,rfl,rfl,aM.of aa,hyes,?_⟩
    have hthere:dY (i5 (.dD b x n t t')) (4 - (if eE b (S.w x) n=true then 1 else 0))=some (V.int ((if eE b (S.w x) n=true then t else t':Nat):Nat)):=by
     cases eE b (S.w x) n with
     | true=>exact bp (j:=3) rfl
     | false=>exact bp (j:=4) rfl
    refine⟨_,rfl,_,rfl,.inr ⟨_,rfl,_,_,rfl,rfl,ea,_,_,_,rfl,rfl,av.of e5,hthere,?_⟩⟩
    have b6:upd H l0 (.lst [.bl (decide (S.w x < n)),.bl (decide (V.int (S.w x)=V.int n))]) bl=some (.lst (S.bQ.map fun k=>V.int (k:Nat))):=by rw [af (aw A.bQ n0)];exact A.bQ
    refine⟨_,rfl,.inl ⟨rfl,_,aM.of b6⟩,_,rfl,bl,_,_,rfl,rfl,b6,(by rw [List.length_map];exact aH (by have:=A.bK.2;omega)),?_⟩
    refine⟨_,rfl,_,rfl,_,rfl,_,rfl,_,rfl,_,rfl,ku,fun st' hn=>?_⟩
    rw [hs] at q
    refine q st' _ (eF.lL (S':=gK S (.dD b x n t t')) (kvs:=kvs) ?_ dw (Nat.le_succ_of_le hk) ?_ ?_ A.ne ?_ hn rfl) (((dM.new n0).trans dM.xM).trans (dM.new hn))
    ·rw [af ndb,af (aw hd n0)];exact hd
    ·rw [af A.ne,af (aw A.told n0)];exact A.told
    ·rw [aa]
     show _=some (HO.lst ((S.bQ ++ [if eE b (S.w x) n=true then t else t']).map fun k=>V.int (k:Nat)))
     rw [List.map_append]
     rfl
    ·refine⟨Nat.le_succ_of_le A.bK.1,?_⟩
     show (S.bQ ++ [_]).length<=m+1+1
     rw [List.length_append]
     exact Nat.succ_le_succ A.bK.2
theorem rK {f:Addr} {fd:FuncData} (F:bZ K "_law_walk" "_law_walk" fQ f fd) (Z:Bl mg) (O_law_step:Own P w K mg base "_law_step" 1 ["plan", "state", "numbers"] p7):bg P w K mg base bS 2 f fd ["plan", "numbers", "steps"] nT:=by
 refine F.ok (k:=1) hZ (fun vs H Q E h=>?_) (fun cdv A outer s H vs Q E hr h=>?_)
 ·obtain⟨np,plv,n,nums,ps,rfl,_⟩:=h
  rfl
 ·obtain⟨np,plv,n,nums,ps,rfl,hp,hin,hpc,hnp,hn,q⟩:=h
  refine⟨_,(ah (cB (aT (i:=3) hZ.nd rfl (Or.inl rfl) (bJ (U ai (U ai (U md (U ai (U (cq ae) (U aJ (U (cq (U ai ae)) ae))))))))))
   (ah (eX PassesOwn.never rfl (eN rfl Z.range (U (pv 2) ae)) (aA (i:=4) hZ.nd rfl (Or.inl rfl))
   (ar (bc (aC bE (ay aF (pv 3) ai (fun _ _=>rfl)) aJ (aK _))
   (ar (aT (i:=3) hZ.nd rfl (Or.inl rfl) (aB O_law_step (hr.mono (by decide)) rfl (U (pv 0) (U (pv 3) (U (pv 1) ae))))))
   aX)))
   (ar (aI (pv 3))))),?_⟩
  refine⟨fun σ' H'=>∃ d tl bl st:Addr,σ' = [some plv,some (.ref np),some (.int n),some (.ref st),none]/\eF H' st d tl bl (ba 0 fun _=>0) 0/\ao H H'/\H d=none/\H tl=none/\H bl=none,
   fun d hd=>⟨(by show 0<=sizeLine;decide),fun tl htl=>⟨xJ,fun bl hbl=>⟨ku,fun st hst=>⟨d,tl,bl,st,rfl,?_,?_,hd,?_,?_⟩⟩⟩⟩,?_⟩
  ·refine eF.lL (H1:=upd (upd (upd H d (.dK [])) tl (.lst [])) bl (.lst [.int 0])) (S':=ba 0 fun _=>0) (kvs:=[]) ?_ (fun x=>rfl) (Nat.le_refl _) ?_ (by rw [aa];rfl) ?_ ⟨Nat.le_refl _,Nat.le_refl _⟩ hst rfl
   ·exact ao.new hbl _ _ (ao.new htl _ _ aa)
   ·exact ao.new hbl _ _ aa
   ·exact aw aa hbl
  ·exact (((ao.new hd).trans (ao.new htl)).trans (ao.new hbl)).trans (ao.new hst)
  ·exact (ao.new hd).free htl
  ·exact ((ao.new hd).trans (ao.new htl)).free hbl
  rintro σ' H0 ⟨d,tl,bl,st,rfl,A0,s0,hd,ntl,nbl⟩
  refine⟨_,rfl,_,rfl,(by omega),(by omega),ie (lo:=0) (fun i σ H'=>∃ (c:Option V) (st':Addr),σ = [some plv,some (.ref np),some (.int n),some (.ref st'),c]/\eF H' st' d tl bl (aG ps nums i (ba 0 fun _=>0)) i/\ao H H') ?_ ?_ ?_⟩
  ·exact⟨none,st,rfl,A0,s0⟩
  ·rintro i σ H1 hi ⟨c,st',rfl,A1,s1⟩
   have hi':i < n:=by omega
   have wi:=nP (ps:=ps) (nums:=nums) (S:=ba 0 fun _=>0) hin hpc (Nat.zero_le _) i
   have won:=jH (ps:=ps) (nums:=nums) (n:=i) (S:=ba 0 fun _=>0)
   have woff:¬ (aG ps nums i (ba 0 fun _=>0)).word = "on" -> aG ps nums (i+1) (ba 0 fun _=>0)=aG ps nums i (ba 0 fun _=>0):=fun h=>i7 h 1
   generalize aG ps nums (i+1) (ba 0 fun _=>0)=W1 at won woff ⊢
   generalize aG ps nums i (ba 0 fun _=>0)=W at A1 wi won woff ⊢
   refine⟨_,rfl,st',_,5,_,rfl,rfl,av.of A1.at_,AO,rfl,_,rfl,?_⟩
   by_cases hw:W.word = "on"
   ·refine bu (by rw [hw];decide +kernel) ?_
    refine⟨_,rfl,_,rfl,_,rfl,plv,st',np,d,tl,bl,ps,nums,W,i,rfl,hp.same s1 (cL ps),hin,s1 _ _ hnp,A1,wi.1,wi.2,(by omega),fun st2 H2 A2 b2=>?_⟩
    exact⟨_,st2,rfl,by rw [won hw];exact A2,fun c o e=>b2 c o (s1 c o e) (aw e hd) (aw e ntl) (aw e nbl)⟩
   ·refine ax (decide_eq_false fun z=>hw (V.str.inj z)) ?_
    exact⟨_,st',rfl,by rw [woff hw];exact A1.mono (Nat.le_succ i),s1⟩
  ·rintro σ H1 ⟨c,st',rfl,A1,s1⟩
   have e1:((n:Int)).toNat=n:=by omega
   rw [e1] at A1
   exact⟨_,rfl,q st' d tl bl H1 A1 s1⟩
theorem qY {f:Addr} {fd:FuncData} (F:bZ K "_law_input" "_law_input" fg f fd) (Z:Bl mg) (O_law_take:Own P w K mg base "_law_take" 1 ["bag", "many"] fW) (O_law_number:Own P w K mg base "_law_number" 2 ["bag"] i4):bg P w K mg base bS 3 f fd ["bag"] mj:=by
  refine F.ok (k:=2) kY (fun vs H Q E h=>?_) (fun cdv A outer s H vs Q E hr h=>?_)
  · obtain⟨b,rfl,_⟩:=h
    rfl
  · obtain⟨b,rfl,hB,q⟩:=h
    refine⟨_,(ah (aT (i:=1) kY.nd rfl (Or.inl rfl) (aB O_law_take (hr.mono (by decide)) rfl (U (pv 0) (U (ay bF (cq (U ai (U ai (U ai ae)))) (aB O_law_take (hr.mono (by decide)) rfl (U (pv 0) (U ai ae))) (fun _ _=>rfl)) ae))))
      (ar (aI (bR cc rfl Z.tuple d6 (U (gh ["k"] ["bag"] [0] rfl (eN rfl Z.range (U (pv 1) ae)) rfl (by decide +kernel) (by decide +kernel) (by decide +kernel) ⟨⟨rfl,.inl rfl,rfl⟩,True.intro⟩ (fun _ _ _ _=>(aA (i:=0) (show ((["k"]:List Str)++(["bag"]:List Str)).Nodup by decide +kernel) rfl (Or.inl rfl) (hf:=Or.inr rfl))) (fun _ _ _ _=>eB) (fun _ _ _ _=>(aB O_law_number (hr.mono (by decide)) rfl (U (pv 1) ae)))) ae))))),?_⟩
    refine⟨_,rfl,iX,fun l0 n0=>?_⟩
    refine⟨_,rfl,b,3,rfl,hB.new n0,⟨by decide,by decide⟩,fun z H1 z0 z1 B1 X1=>?_⟩
    have h0:H1 l0=some (.lst [.int 9,.int 60,.int 201]):=X1 l0 _ aa (hB.dZ n0)
    obtain⟨g,hg,hg3⟩:=zK (x:=9) (y:=60) (z:=201) z0 z1
    have g0:0 < g/\g < 1000:=by omega
    refine⟨l0,_,_,_,rfl,rfl,aM.of h0,hg,b,g,rfl,B1,⟨g0.1,gJ g0.1 (by omega)⟩,fun m H2 m0 m1 B2 X2=>?_⟩
    have F2:Fix b H H2:=((Fix.new n0).trans X1).trans X2
    refine⟨_,rfl,_,rfl,(by omega),(by omega),fun acc na=>?_⟩
    have hab:acc ≠ b:=B2.dZ na
    refine lZ (lo:=0) (fun i ys τ H'=>∃ (v:Option V) (ns:List Int),τ = [v,some (.ref b)]/\ys=ns.map V.int/\ns.length=i/\H' acc=some (.lst ys)/\cN H' b/\Fix b H2 H') ?_ ?_ ?_ ?_
    · exact⟨none,[],rfl,rfl,rfl,aa,B2.new na,Fix.new na⟩
    · rintro i ys τ H4 hi ⟨v,ns,rfl,rfl,hl,ha,_⟩
      exact⟨ha,by rw [List.length_map];exact ig (by omega)⟩
    · rintro i ys τ H4 hi ⟨v,ns,rfl,rfl,hl,ha,B4,X4⟩
      refine kC ?_
      refine wy ?_
      refine cM ?_
      refine⟨_,rfl,b,rfl,B4,fun n H5 nk B5 X5=>?_⟩
      have ha5:=X5 acc _ ha hab
      refine⟨ha5,_,ns ++ [n],rfl,(by rw [List.map_append];rfl),(by rw [List.length_append,hl];rfl),aa,?_,?_⟩
      · obtain⟨x,y,e,z⟩:=B5
        exact⟨x,y,by rw [af hab.symm];exact e,z⟩
      · intro d' o hd nd
        rw [af (aw hd na)]
        exact (X4.trans X5) d' o hd nd
    · rintro ys τ H4 ⟨v,ns,rfl,rfl,hl,ha,B4,X4⟩
      refine⟨acc,_,rfl,.inl ⟨aM.of ha,fun t tn=>?_⟩⟩
      exact q t ns _ aa (B4.new tn) ((F2.trans X4).trans (Fix.new tn))
theorem rM {f:Addr} {fd:FuncData} (F:bZ K "_law_told" "_law_told" fR f fd) (Z:Bl mg) (O_law_walk:Own P w K mg base "_law_walk" 2 ["plan", "numbers", "steps"] nT):bg P w K mg base bS 3 f fd ["plan", "numbers", "steps"] mx:=by
  refine F.ok (k:=2) lU (fun vs H Q E h=>?_) (fun cdv A outer s H vs Q E hr h=>?_)
  · obtain⟨np,plv,n,nums,ps,rfl,_⟩:=h
    rfl
  · obtain⟨np,plv,n,nums,ps,rfl,hp,hin,hpc,hnp,hn,q⟩:=h
    refine⟨_,(ah (aT (i:=3) lU.nd rfl (Or.inl rfl) (aB O_law_walk (hr.mono (by decide)) rfl (U (pv 0) (U (pv 1) (U (pv 2) ae)))))
      (ar (aI (bJ (U (ay aF (pv 3) ai (fun _ _=>rfl)) (U (bR cc rfl Z.tuple d6 (U (ay aF (pv 3) ai (fun _ _=>rfl)) ae)) ae)))))),?_⟩
    refine⟨_,rfl,_,rfl,_,rfl,np,plv,n,nums,ps,rfl,hp,hin,hpc,hnp,hn,fun st d tl bl H1 A1 s1=>?_⟩
    generalize aG ps nums n (ba 0 fun _=>0)=W at A1 q
    refine⟨_,rfl,st,_,5,_,rfl,rfl,av.of A1.at_,AO,_,rfl,st,_,4,_,rfl,rfl,av.of A1.at_,BM,tl,_,rfl,.inl ⟨aM.of A1.told,fun t1 n1=>⟨ln2,fun t2 n2=>?_⟩⟩⟩
    have q1:=ao.new (o:=.tup (W.told.map V.int)) n1
    have q2:=ao.new (o:=.tup [.str W.word,.ref t1]) n2
    exact q (.ref t2) _ (.tup aa (.cons (.str _) (.cons (.tup (q2 _ _ aa) (dn _)) .nil))) ((s1.trans q1).trans q2)
theorem qZ {f:Addr} {fd:FuncData} (F:bZ K "_law_right" "_law_right" fh f fd) (Z:Bl mg) (O_law_told:Own P w K mg base "_law_told" 3 ["plan", "numbers", "steps"] mx) (O_run:Own P w K mg base "run" 9 ["plan", "numbers", "steps"] tP):bg P w K mg base bS 10 f fd ["plan", "less", "numbers", "steps"] kW:=by
  refine F.ok (k:=9) fE (fun vs H Q E h=>?_) (fun cdv A outer s H vs Q E hr h=>?_)
  · obtain⟨np,pp,lv,n,nums,ps,qs,pvs,rfl,_⟩:=h
    rfl
  · obtain⟨np,pp,lv,n,nums,ps,qs,pvs,rfl,hpp,rpv,hlv,hin,hinL,h0,hL0,hQ,h12,hnp,hn,q⟩:=h
    refine⟨_,(ah (dz (aB O_law_told (hr.mono (by decide)) rfl (U (pv 0) (U (pv 2) (U (pv 3) ae)))) (cI rfl (aL (aA (i:=4) fE.nd rfl (Or.inl rfl)) (aL (aA (i:=5) fE.nd rfl (Or.inl rfl)) cv))))
      (ah (aT (i:=6) fE.nd rfl (Or.inl rfl) (aB O_run (hr.mono (by decide)) rfl (U (pv 1) (U (pv 2) (U (pv 3) ae)))))
      (ah (bc (aC (kA hr.units) (pv 6) (aB O_law_told (hr.mono (by decide)) rfl (U (pv 1) (U (pv 2) (U (pv 3) ae)))) (aK _))
      (ar (aI fF))
      aX)
      (ah (cB (bc (PW.pt (iP (aC sW (pv 4) aJ (aK _)) (gU (aC (kA hr.units) (pv 6) (bJ (U (pv 4) (U (pv 5) ae))) (aK _)))))
      (ar (aI fF))
      aX))
      (ah (cB (bc (aC (kA hr.units) (lY nS (ay aF (pv 6) ai (fun _ _=>rfl)) nB (lh (bL bB rfl Z.len dc (U (pv 5) ae)))) (pv 5) (aK _))
      (ar (aI fF))
      aX))
      (ah (aT (i:=7) fE.nd rfl (Or.inl rfl) (ay aF (aB O_law_told (hr.mono (by decide)) rfl (U (pv 0) (U (pv 2) (U (bh iS ai (pv 3)) ae)))) ai (fun _ _=>rfl)))
      (ar (aI (fG (zA hr.units) (lY nS (pv 7) nB (lh (bL bB rfl Z.len dc (U (ay aF (pv 6) ai (fun _ _=>rfl)) ae)))) (ay aF (pv 6) ai (fun _ _=>rfl)) (aK _)))))))))),?_⟩
    have hp:aY H (.ref pp) (cG ps):=.tup hpp rpv
    have hpl:pvs.length=ps.length:=by have:=rpv.len;rw [List.length_map] at this;exact this
    obtain⟨t1,⟨m1,t2⟩,⟨m2,t3⟩⟩:=rC hQ hin h0 h12 nums n
    have layW:PySem.PyData.canLay0 (.str (aG ps nums n (ba 0 fun _=>0)).word)=true:=qi rfl n
    have layL:PySem.PyData.canLay0 (.str (aG qs nums n (ba 0 fun _=>0)).word)=true:=qi rfl n
    refine⟨_,rfl,_,rfl,_,rfl,np,.ref pp,n,nums,ps,rfl,hp,hin,h0,hnp,(by omega),fun v1 H1 r1 s1=>?_⟩
    generalize hW:aG ps nums n (ba 0 fun _=>0)=W at t1 t2 layW r1
    generalize hL:aG qs nums n (ba 0 fun _=>0)=L at t1 t2 t3 layL
    obtain⟨u,uvs,rfl,hu,ru⟩:=aY.bU (show aY H1 v1 (.tuple [.str W.word,.tuple (W.told.map PyData.int)]) from r1)
    obtain⟨u1,ut1,rfl,uq1,ru⟩:=ru.cons_inv
    obtain⟨u2,ut2,rfl,uq2,ru⟩:=ru.cons_inv
    have z:=ru.nil_inv
    subst z
    rw [uq1.str_inv] at hu
    obtain⟨ua,uas,rfl,hua,rua⟩:=aY.bU uq2
    have eu:=rua.ints
    subst eu
    refine⟨u,_,rfl,av.of hu,rfl,_,_,rfl,_,_,rfl,rfl,?_⟩
    have lrL:(fU L).canLay0=true:=sj L layL
    have lrW:(fU W).canLay0=true:=sj W layW
    have dL:=si L
    have dW:=si W
    have hlv1:=hlv.same s1 (cL _)
    refine⟨_,rfl,_,rfl,_,rfl,np,lv,n,nums,qs,rfl,hlv1,hinL,hL0,s1 _ _ hnp,(by omega),fun v2 H2 r2 s2=>?_⟩
    rw [hL] at r2
    have s12:=s1.trans s2
    refine⟨_,rfl,_,rfl,_,rfl,_,rfl,np,lv,n,nums,qs,rfl,hlv.same s12 (cL _),hinL,hL0,s12 _ _ hnp,(by omega),fun v3 H3 r3 s3=>?_⟩
    rw [hL] at r3
    have r23:=r2.same s3 (nU L)
    refine⟨fU L,fU L,r23,r3,lrL,lrL,(by omega),_,rfl,?_⟩
    refine ax (by rw [PySem.SeqAt.eqv_refl _ lrL];rfl) ?_
    have s23:=s2.trans s3
    have hua3:=s23 _ _ hua
    have s13:=s12.trans s3
    refine⟨fun σ' H'=>∃ u5:Option V,σ' = [some (.ref pp),some lv,some (.ref np),some (.int n),some (.str W.word),some (.ref ua),some v2,u5]/\ao H3 H',?_,?_⟩
    · refine⟨_,rfl,rfl,_,rfl,?_⟩
      by_cases hw:W.word = "on"
      · refine ax (by rw [hw];decide +kernel) (cb ?_)
        exact⟨_,rfl,ao.refl _⟩
      · refine bu (by rw [decide_eq_false (fun z=>hw (V.str.inj z))];rfl) ?_
        obtain⟨w1,w2⟩:=t1 hw
        have eR:fU L=fU W:=by unfold fU;rw [w1,w2]
        refine⟨_,rfl,_,rfl,_,rfl,ln2,fun t nt=>?_⟩
        have qn:=ao.new (o:=.tup [.str W.word,.ref ua]) nt
        refine⟨fU W,fU W,(eR ▸ r23).same qn (nU W),.tup aa (.cons (.str _) (.cons (.tup (qn _ _ hua3) (dn _)) .nil)),lrW,lrW,(by omega),_,rfl,?_⟩
        refine ax (by rw [PySem.SeqAt.eqv_refl _ lrW];rfl) ?_
        exact⟨_,rfl,qn⟩
    rintro σ' H4 ⟨u5,rfl,s4⟩
    have r24:=r23.same s4 (nU L)
    obtain⟨f,fvs,rfl,hf,rf⟩:=aY.bU (show aY H4 v2 (.tuple [.str L.word,.tuple (L.told.map PyData.int)]) from r24)
    obtain⟨f1,ft1,rfl,fq1,rf⟩:=rf.cons_inv
    obtain⟨f2,ft2,rfl,fq2,rf⟩:=rf.cons_inv
    have z:=rf.nil_inv
    subst z
    rw [fq1.str_inv] at hf
    obtain⟨fa,fas,rfl,hfa,rfa⟩:=aY.bU fq2
    have ef:=rfa.ints
    subst ef
    have hua4:=s4 _ _ hua3
    have layT:∀ ns:List Int,(PyData.tuple (ns.map PyData.int)).canLay0=true:=fun ns=>dP _ fun d hd=>by obtain⟨x,_,rfl⟩:=List.mem_map.mp hd;rfl
    have depT:∀ ns:List Int,(PyData.tuple (ns.map PyData.int)).depth<=60:=wM
    have etake:L.told.take (W.told.map V.int).length=W.told:=by rw [List.length_map,t2,List.take_left]
    have wul:(W.told.map V.int).length=W.told.length:=List.length_map ..
    have ec:gW (L.told.map V.int) none (some (((W.told.map V.int).length:Nat):Int))=W.told.map V.int:=by rw [oQ,etake]
    have hfa4:=hfa
    refine⟨fun σ' H'=>σ' = [some (.ref pp),some lv,some (.ref np),some (.int n),some (.str W.word),some (.ref ua),some (.ref f),u5]/\ao H4 H',?_,?_⟩
    · refine⟨_,rfl,f,_,1,_,rfl,rfl,av.of hf,cu,_,rfl,ua,_,rfl,.inr (av.of hua4),_,rfl,fa,_,rfl,av.of hfa4,fun hw=>?_,fun _ p hp=>?_⟩
      · unfold gW at ec
        rw [hw.1,hw.2] at ec
        have ec2:L.told.map V.int=W.told.map V.int:=by rw [List.drop_zero,Nat.sub_zero,List.take_length] at ec;exact ec
        rw [ec2] at hfa4
        refine⟨_,rfl,.tuple (W.told.map PyData.int),.tuple (W.told.map PyData.int),.tup hfa4 (dn _),.tup hua4 (dn _),layT _,layT _,(by have:=depT W.told;omega),_,rfl,?_⟩
        refine ax (by rw [PySem.SeqAt.eqv_refl _ (layT _)];rfl) ?_
        exact⟨rfl,ao.refl _⟩
      · rw [ec]
        have qn:=ao.new (o:=.tup (W.told.map V.int)) hp
        refine⟨_,rfl,.tuple (W.told.map PyData.int),.tuple (W.told.map PyData.int),.tup aa (dn _),.tup (qn _ _ hua4) (dn _),layT _,layT _,(by have:=depT W.told;omega),_,rfl,?_⟩
        refine ax (by rw [PySem.SeqAt.eqv_refl _ (layT _)];rfl) ?_
        exact⟨rfl,qn⟩
    rintro σ' H5 ⟨rfl,s5⟩
    have s15:=(s13.trans s4).trans s5
    have hmul:(13:Int) * (n:Int)=((13 * n:Nat):Int):=by omega
    refine⟨_,rfl,_,rfl,_,rfl,_,_,rfl,rfl,.inl ⟨by omega,by omega⟩,np,.ref pp,13 * n,nums,ps,congrArg (fun z=>[V.ref pp,V.ref np,V.int z]) hmul,hp.same s15 (cL ps),hin,h0,s15 _ _ hnp,(by omega),fun v4 H6 r4 s6=>?_⟩
    generalize aG ps nums (13 * n) (ba 0 fun _=>0)=X at t3 r4
    obtain⟨g,gvs,rfl,hg,rg⟩:=aY.bU (show aY H6 v4 (.tuple [.str X.word,.tuple (X.told.map PyData.int)]) from r4)
    obtain⟨g1,gt1,rfl,gq1,rg⟩:=rg.cons_inv
    obtain⟨g2,gt2,rfl,gq2,rg⟩:=rg.cons_inv
    have z:=rg.nil_inv
    subst z
    rw [gq1.str_inv] at hg
    obtain⟨ga,gas,rfl,hga,rga⟩:=aY.bU gq2
    have eg:=rga.ints
    subst eg
    refine⟨g,_,1,_,rfl,rfl,av.of hg,cu,?_⟩
    have hf6:=s6 _ _ (s5 _ _ hf)
    have hfa6:=s6 _ _ (s5 _ _ hfa)
    have etake2:X.told.take (L.told.map V.int).length=L.told:=by rw [List.length_map,t3,List.take_left]
    have ec2:gW (X.told.map V.int) none (some (((L.told.map V.int).length:Nat):Int))=L.told.map V.int:=by rw [oQ,etake2]
    refine⟨_,rfl,_,rfl,f,_,1,_,rfl,rfl,av.of hf6,cu,fa,_,rfl,.inr (av.of hfa6),_,rfl,ga,_,rfl,av.of hga,fun hw=>?_,fun _ p hp=>?_⟩
    · unfold gW at ec2
      rw [hw.1,hw.2] at ec2
      have ec3:X.told.map V.int=L.told.map V.int:=by rw [List.drop_zero,Nat.sub_zero,List.take_length] at ec2;exact ec2
      rw [ec3] at hga
      refine⟨_,rfl,f,_,1,_,rfl,rfl,av.of hf6,cu,.tuple (L.told.map PyData.int),.tuple (L.told.map PyData.int),.tup hga (dn _),.tup hfa6 (dn _),layT _,layT _,(by have:=depT L.told;omega),?_⟩
      rw [PySem.SeqAt.eqv_refl _ (layT _)]
      exact q _ (s15.trans s6)
    · rw [ec2]
      have qn:=ao.new (o:=.tup (L.told.map V.int)) hp
      refine⟨_,rfl,f,_,1,_,rfl,rfl,av.of (qn _ _ hf6),cu,.tuple (L.told.map PyData.int),.tuple (L.told.map PyData.int),.tup aa (dn _),.tup (qn _ _ hfa6) (dn _),layT _,layT _,(by have:=depT L.told;omega),?_⟩
      rw [PySem.SeqAt.eqv_refl _ (layT _)]
      exact q _ ((s15.trans s6).trans qn)
theorem oo {f:Addr} {fd:FuncData} (F:bZ K "_law_lasting" "_law_lasting" dX f fd) (Z:Bl mg)  : bg P w K mg base bS 1 f fd ["deeds"] kX:=by
 refine F.ok (k:=0) oh (fun vs H Q E h=>?_) (fun cdv A outer s H vs Q E hr h=>?_)
 ·obtain⟨v,ds,rfl,_⟩:=h
  rfl
 ·obtain⟨v,ds,rfl,hv,hl,q⟩:=h
  refine⟨_,(ar (aI (gh ["deed"] [] [] rfl (iR (pv 0)) rfl (by decide +kernel) (by decide +kernel) (by decide +kernel) True.intro (fun _ _ _ _=>(aA (i:=0) (show ((["deed"]:List Str)++([]:List Str)).Nodup by decide +kernel) rfl (Or.inl rfl) (hf:=Or.inr rfl))) (fun _ _ _ _=>(nF (PW.pt (sQ (aC bE (ay (sM (K:=K) rfl) (pv 0) ai (fun _ _=>rfl)) aJ (aK _)) (pC (aC bE (ay (sM (K:=K) rfl) (pv 0) ai (fun _ _=>rfl)) aJ (aK _))))))) (fun _ _ _ _=>(pv 0))))),?_⟩
  obtain⟨da,ws,rfl,hda,hws⟩:=aY.bU hv
  have hwl:ws.length=ds.length:=by rw [hws.len,List.length_map]
  refine⟨_,rfl,da,rfl,⟨_,av.of hda⟩,fun acc na=>?_⟩
  have sl:=ao.new (o:=.lst []) na
  refine pV (K:=K) (a:=da) (xs:=ws) (fun i ys τ H'=>∃ (c1:Option V),τ = [c1]/\H' acc=some (.lst ys)/\ys.length<=i/\aV H ys (((ds.take i).filter d5).map bH)/\ao H H') ?_ ?_ ?_ ?_
  ·exact⟨none,rfl,aa,Nat.le_refl _,.nil,sl⟩
  ·rintro i ys τ H2 hi ⟨c1,rfl,h1,h2,h3,h4⟩
   exact⟨av.of (h4 _ _ hda),h1,aH (by omega)⟩
  ·rintro i x ys τ H2 hx ⟨c1,rfl,h1,h2,h3,h4⟩
   have hi:i < ds.length:=by
    have:=(List.getElem?_eq_some_iff.mp hx).1
    omega
   have hdd:ds[i]? = some ds[i]:=by simp [hi]
   generalize ds[i] = dd at hdd
   obtain⟨v,hv',rd⟩:=hws.get (i:=i) (d:=bH dd) (by rw [List.getElem?_map,hdd];rfl)
   rw [hx] at hv'
   cases hv'
   obtain⟨dp,rfl,hdp0⟩:=iI rd
   have hdp:=h4 _ _ hdp0
   have ht:((ds.take (i+1)).filter d5)=((ds.take i).filter d5)++(if d5 dd=true then [dd] else []):=by
    rw [List.take_add_one,hdd,List.filter_append]
    show _++List.filter d5 [dd] = _
    rw [xr]
   refine kC ?_
   have yes:d5 dd=true->H2 acc=some (HO.lst ys)/\∃ c1_1,([c1]:List (Option V)).set 0 (some (V.ref dp)) = [c1_1]/\(upd H2 acc (HO.lst (ys ++ [.ref dp]))) acc=some (HO.lst (ys ++ [.ref dp]))/\(ys ++ [V.ref dp]).length<=i+1/\aV H (ys ++ [.ref dp]) (List.map bH (List.filter d5 (List.take (i+1) ds)))/\ao H (upd H2 acc (HO.lst (ys ++ [.ref dp]))):=fun hc=>by
    refine⟨h1,_,rfl,aa,(by simp;omega),?_,h4.put na⟩
    rw [ht,if_pos hc,List.map_append]
    exact h3.app rd
   have nope:d5 dd=false->∃ c1_1,([c1]:List (Option V)).set 0 (some (V.ref dp)) = [c1_1]/\H2 acc=some (HO.lst ys)/\ys.length<=i+1/\aV H ys (List.map bH (List.filter d5 (List.take (i+1) ds)))/\ao H H2:=fun hc=>by
    refine⟨_,rfl,h1,by omega,?_,h4⟩
    rw [ht,hc]
    simpa using h3
   have e0:dY (jd dd) 0=some (V.str (wD dd)):=by cases dd <;> exact bo
   refine⟨_,rfl,dp,_,0,_,rfl,rfl,av.of hdp,e0,rfl,_,rfl,?_⟩
   cases dd with
   | read x =>
    refine bu (show decide (V.str "read" = V.str "read")=true by decide +kernel) (cM ?_)
    exact⟨_,rfl,yes rfl⟩
   | tell x =>
    refine ax (show decide (V.str "tell" = V.str "read")=false by decide +kernel) ?_
    refine⟨_,rfl,dp,_,0,_,rfl,rfl,av.of hdp,e0,rfl,_,rfl,bu (show decide (V.str "tell" = V.str "tell")=true by decide +kernel) ?_⟩
    exact⟨_,rfl,yes rfl⟩
   | put x n =>
    refine ax (show decide (V.str "put" = V.str "read")=false by decide +kernel) ?_
    refine⟨_,rfl,dp,_,0,_,rfl,rfl,av.of hdp,e0,rfl,_,rfl,ax (show decide (V.str "put" = V.str "tell")=false by decide +kernel) ?_⟩
    exact nope rfl
   | copy x y =>
    refine ax (show decide (V.str "copy" = V.str "read")=false by decide +kernel) ?_
    refine⟨_,rfl,dp,_,0,_,rfl,rfl,av.of hdp,e0,rfl,_,rfl,ax (show decide (V.str "copy" = V.str "tell")=false by decide +kernel) ?_⟩
    exact nope rfl
   | add x n =>
    refine ax (show decide (V.str "add" = V.str "read")=false by decide +kernel) ?_
    refine⟨_,rfl,dp,_,0,_,rfl,rfl,av.of hdp,e0,rfl,_,rfl,ax (show decide (V.str "add" = V.str "tell")=false by decide +kernel) ?_⟩
    exact nope rfl
  ·rintro ys τ H2 ⟨c1,rfl,h1,h2,h3,h4⟩
   rw [List.take_of_length_le (by omega)] at h3
   exact q acc ys H2 h1 (h3.same h4 (bP _)) na h4
theorem Ae {f:Addr} {fd:FuncData} (F:bZ K "law" "law" iG f fd) (Z:Bl mg) (O_law_bag:Own P w K mg base "_law_bag" 1 ["script", "k"] (tF K)) (O_law_take:Own P w K mg base "_law_take" 1 ["bag", "many"] fW) (O_law_count:Own P w K mg base "_law_count" 2 ["bag", "most"] nI) (O_law_plan:Own P w K mg base "_law_plan" 4 ["bag", "count", "most"] pZ) (O_spare:Own P w K mg base "spare" 7 ["plan"] oa) (O_law_lasting:Own P w K mg base "_law_lasting" 1 ["deeds"] kX) (O_law_input:Own P w K mg base "_law_input" 3 ["bag"] mj) (O_law_right:Own P w K mg base "_law_right" 10 ["plan", "less", "numbers", "steps"] kW):bg P w K mg base bS 11 f fd ["script"] (o3 K):=by
  refine F.ok (k:=10) ir (fun vs H Q E h=>?_) (fun cdv A outer s H vs Q E hr h=>?_)
  · obtain⟨a,ns,rfl,_⟩:=h
    rfl
  · obtain⟨a,ns,rfl,hS,hlen,q⟩:=h
    refine⟨_,(ah (aT (i:=1) ir.nd rfl (Or.inl rfl) (aB O_law_bag (hr.mono (by decide)) rfl (U (pv 0) (U ai ae))))
      (ah (aT (i:=2) ir.nd rfl (Or.inl rfl) (aB O_law_plan (hr.mono (by decide)) rfl (U (pv 1) (U (aB O_law_count (hr.mono (by decide)) rfl (U (pv 1) (U (ay bF (cq (U ai (U ai ae))) (bR km rfl Z.int pS (U (fG bE (aB O_law_take (hr.mono (by decide)) rfl (U (pv 1) (U ai ae))) ai (aK _)) ae)) (fun _ _=>rfl)) ae))) (U (ay bF (cq (U ai (U ai ae))) (aB O_law_take (hr.mono (by decide)) rfl (U (pv 1) (U ai ae))) (fun _ _=>rfl)) ae)))))
      (ah (aT (i:=3) ir.nd rfl (Or.inl rfl) (aB O_spare (hr.mono (by decide)) rfl (U (pv 2) ae)))
      (ah (bc (aC sW (bL bB rfl Z.len dc (U (pv 3) ae)) (bL bB rfl Z.len dc (U (pv 2) ae)) (aK _))
      (ar (aI fF))
      aX)
      (ah (eX PassesOwn.never rfl (eN rfl Z.range (U (bL bB rfl Z.len dc (U (pv 2) ae)) ae)) (aA (i:=4) ir.nd rfl (Or.inl rfl))
      (ar (bc (PW.pt (sQ (aC (kA hr.units) (ay aF (ay aF (pv 3) (pv 4) (fun _ _=>rfl)) ai (fun _ _=>rfl)) (ay aF (ay aF (pv 2) (pv 4) (fun _ _=>rfl)) ai (fun _ _=>rfl)) (aK _)) (pC (aC (kA hr.units) (aB O_law_lasting (hr.mono (by decide)) rfl (U (ay aF (ay aF (pv 3) (pv 4) (fun _ _=>rfl)) ai (fun _ _=>rfl)) ae)) (aB O_law_lasting (hr.mono (by decide)) rfl (U (ay aF (ay aF (pv 2) (pv 4) (fun _ _=>rfl)) ai (fun _ _=>rfl)) ae)) (aK _)))))
      (ar (aI fF))
      aX)))
      (ah (eX PassesOwn.never rfl (eN rfl Z.range (U (bh dB ai (bL (kj rfl) rfl Z.min pR (U (bL bB rfl Z.len dc (U (pv 0) ae)) (U ai ae)))) ae)) (aA (i:=4) ir.nd rfl (Or.inl rfl))
      (ah (aT (i:=5) ir.nd rfl (Or.inl rfl) (aB O_law_bag (hr.mono (by decide)) rfl (U (pv 0) (U (pv 4) ae))))
      (ah (aT (i:=6) ir.nd rfl (Or.inl rfl) (aB O_law_input (hr.mono (by decide)) rfl (U (pv 5) ae)))
      (ar (bc (uC (jA (aB O_law_right (hr.mono (by decide)) rfl (U (pv 2) (U (pv 3) (U (pv 6) (U (ay bF (cq (U (aB O_law_take (hr.mono (by decide)) rfl (U (pv 5) (U ai ae))) (U (aB O_law_take (hr.mono (by decide)) rfl (U (pv 5) (U ai ae))) ae))) (aB O_law_take (hr.mono (by decide)) rfl (U (pv 5) (U ai ae))) (fun _ _=>rfl)) ae)))))))
      (ar (aI fF))
      aX)))))
      (ar (aI fF)))))))),?_⟩
    refine⟨_,rfl,a,ns,0,rfl,hS,(by decide),fun b H1 nb B1 s1=>?_⟩
    refine⟨_,rfl,_,rfl,ln2,fun l0 n0=>?_⟩
    refine⟨_,rfl,b,3,rfl,B1.new n0,⟨by decide,by decide +kernel⟩,fun z H2 z0 z1 B2 X2=>?_⟩
    have h0:H2 l0=some (.lst [.int 12,.int 60]):=X2 l0 _ aa (B1.dZ n0)
    have F2:Fix b H1 H2:=(Fix.new n0).trans X2
    refine⟨rfl,.inr ⟨_,rfl,?_⟩⟩
    have pk:∃ g:Nat,dY [V.int 12,V.int 60] (if decide (V.int z=V.int 0)=true then 1 else 0)=some (V.int g)/\(g=12\/g=60):=by
      cases decide (V.int z=V.int 0)
      · exact⟨12,bo,.inl rfl⟩
      · exact⟨60,cu,.inr rfl⟩
    obtain⟨g,hg,hg2⟩:=pk
    refine⟨l0,_,_,_,rfl,rfl,aM.of h0,hg,b,g,rfl,B2,(by omega),(by omega),fun c H3 c0 c1 B3 X3=>?_⟩
    refine⟨ln2,fun l2 n2=>?_⟩
    refine⟨_,rfl,b,2,rfl,B3.new n2,⟨by decide,by decide +kernel⟩,fun z2 Hd z20 z21 Bd Xd=>?_⟩
    have h2:Hd l2=some (.lst [.int 4,.int 12]):=Xd l2 _ aa (B3.dZ n2)
    obtain⟨g2,hgg,hg12⟩:∃ g:Nat,dY [V.int 4,V.int 12] z2=some (V.int g)/\g<=12:=by
      obtain rfl | rfl:z2=0\/z2=1:=by omega
      · exact⟨4,bo,by omega⟩
      · exact⟨12,cu,by omega⟩
    refine⟨l2,_,_,_,rfl,rfl,aM.of h2,hgg,?_⟩
    refine⟨b,c,g2,rfl,Bd,c0,(by omega),(by omega),fun plv xs ps H4 r4 hc4 pok xok B4 X4=>?_⟩
    have hin:cy ps:=pok.kG
    have hpc:0 < ps.length:=by omega
    have s4:ao H H4:=ao.uT s1 nb (((F2.trans X3).trans ((Fix.new n2).trans Xd)).trans X4)
    refine⟨_,rfl,plv,ps,xs,g2,rfl,r4,pok,(by omega),(by omega),(by omega),fun qv qs H6 rq hql hQ s6=>?_⟩
    have s60:ao H H6:=s4.trans s6
    have rp6:=r4.same s6 (cL ps)
    have hinq:cy qs:=jt.kG hQ hql hin
    obtain⟨pp,vs,rfl,e1p,rp⟩:=aY.bU rp6
    have hvl:vs.length=ps.length:=by rw [rp.len,List.length_map]
    obtain⟨qp,qvs,rfl,e1q,rqv⟩:=aY.bU rq
    have hqvl:qvs.length=qs.length:=by rw [rqv.len,List.length_map]
    refine⟨_,rfl,qp,_,rfl,.inr (av.of e1q),_,rfl,pp,_,rfl,.inr (av.of e1p),rfl,_,rfl,?_⟩
    refine ax (by rw [hvl,hqvl,hql];simp) ?_
    have layS:=w9 xok.1 pok
    refine⟨_,rfl,pp,_,rfl,.inr (av.of e1p),_,rfl,(by omega),(by omega),ie (lo:=0) (fun i σ H'=>∃ u3 u4 u5:Option V,σ = [some (.ref a),some (.ref b),some (.ref pp),some (.ref qp),u3,u4,u5]/\ao H6 H') ?_ ?_ ?_⟩
    · exact⟨_,_,_,rfl,ao.refl _⟩
    · rintro i σ H7 hi ⟨v3,v4,v5,rfl,s7⟩
      have hil:i < ps.length:=by omega
      have hpi:ps[i]? = some ps[i]:=by simp [hil]
      generalize ps[i] = pce at hpi
      obtain⟨ds,e⟩:=pce
      obtain⟨f,hqi,hf⟩:=hQ i _ hpi
      have rp7:aY H7 (.ref pp) (cG ps):=.tup (s7 _ _ e1p) (rp.same s7 (bt _))
      have rq7:aY H7 (.ref qp) (cG qs):=.tup (s7 _ _ e1q) (rqv.same s7 (bt _))
      obtain⟨p',xs',pc,da,ea,ws,ep,e1',el',hx',e2,e3,r3,e4⟩:=fw rp7 hpi
      cases ep
      rw [s7 _ _ e1p] at e1'
      cases e1'
      have hx2:dY vs (0+(i:Int))=some (V.ref pc):=by rw [Int.zero_add];exact bp hx'
      obtain⟨p'',xs'',pcq,dq,eq_,wq,epq,e1'',el'',hxq',e2q,e3q,r3q,e4q⟩:=fw rq7 hqi
      cases epq
      rw [s7 _ _ e1q] at e1''
      cases e1''
      have hxq2:dY qvs (0+(i:Int))=some (V.ref pcq):=by rw [Int.zero_add];exact bp hxq'
      have lays:=layS _ (List.mem_of_getElem? hpi)
      have hdl:=(pok.hX _ (List.mem_of_getElem? hpi)).1
      have hdl:ds.length<=g2:=hdl
      refine kC ?_
      have layE:(gX e).canLay0=true:=lays.2
      have depE:(gX e).depth<=60:=by have:=yB e;omega
      refine⟨_,rfl,_,rfl,qp,_,_,_,rfl,rfl,av.of (s7 _ _ e1q),hxq2,pcq,_,1,_,rfl,rfl,av.of e2q,cu,?_⟩
      refine⟨_,rfl,_,rfl,pp,_,_,_,rfl,rfl,av.of (s7 _ _ e1p),hx2,pc,_,1,_,rfl,rfl,av.of e2,cu,?_⟩
      refine⟨gX e,gX e,qy e4q,qy e4,layE,layE,(by omega),_,rfl,?_⟩
      refine ax (by rw [PySem.SeqAt.eqv_refl _ layE];rfl) ?_
      have layL:(PyData.list ((ds.filter d5).map bH)).canLay0=true:=by
        have h:=dP ((ds.filter d5).map bH) fun d hd=>by
          obtain⟨x,hx',rfl⟩:=List.mem_map.mp hd
          exact qA xok.1 ((pok.hX _ (List.mem_of_getElem? hpi)).2 x (List.mem_filter.mp hx').1)
        exact h
      have depL:(PyData.list ((ds.filter d5).map bH)).depth<=60:=by
        have h:PyData.depthAll ((ds.filter d5).map bH)<=1:=sA _ fun d hd=>by obtain⟨x,_,rfl⟩:=List.mem_map.mp hd;exact w6 x
        show PyData.depthAll ((ds.filter d5).map bH)+1<=60
        omega
      have hspl:(bw f ds).length<=500:=by have:=uf f ds;omega
      refine⟨_,rfl,_,rfl,qp,_,_,_,rfl,rfl,av.of (s7 _ _ e1q),hxq2,pcq,_,0,_,rfl,rfl,av.of e2q,bo,.ref dq,bw f ds,rfl,.tup e3q r3q,hspl,fun la wa Ha ha ra nla sa=>?_⟩
      rw [ue] at ra
      have rpA:H7 pp=some (.tup vs):=s7 _ _ e1p
      refine⟨_,rfl,_,rfl,pp,_,_,_,rfl,rfl,av.of (sa _ _ rpA),hx2,pc,_,0,_,rfl,rfl,av.of (sa _ _ e2),bo,.ref da,ds,rfl,.tup (sa _ _ e3) (r3.same sa (bP ds)),(by omega),fun lb wb Hb hb rb nlb sb=>?_⟩
      refine⟨_,_,.lst (sb _ _ ha) (ra.same sb (bP _)),.lst hb rb,layL,layL,(by omega),_,rfl,?_⟩
      refine ax (by rw [PySem.SeqAt.eqv_refl _ layL];rfl) ?_
      exact⟨_,_,_,rfl,s7.trans (sa.trans sb)⟩
    rintro σ H7 ⟨v3,v4,v5,rfl,s7⟩
    have s67:=s60.trans s7
    refine⟨_,rfl,a,_,rfl,.inl (s67.seq hS),_,_,rfl,_,_,rfl,rfl,_,rfl,(by split <;> (try rw [List.length_map]) <;> omega),(by split <;> (try rw [List.length_map]) <;> omega),ie (lo:=0) (fun i σ H'=>∃ u3 u4 u5:Option V,σ = [some (.ref a),some (.ref b),some (.ref pp),some (.ref qp),u3,u4,u5]/\ao H7 H') ?_ ?_ ?_⟩
    · exact⟨_,_,_,rfl,ao.refl _⟩
    · rintro i σ H9 hi ⟨w3,w4,w5,rfl,s9⟩
      refine⟨_,rfl,_,rfl,a,ns,_,rfl,(s67.trans s9).seq hS,(by omega),fun b8 H8 nb8 B8 s8=>?_⟩
      refine⟨_,rfl,b8,rfl,B8,fun np nums H10 hnp B10 X10=>?_⟩
      refine⟨_,rfl,_,rfl,_,rfl,_,rfl,b8,40,rfl,B10,⟨by decide,by decide +kernel⟩,fun d1 H11 d10 d11 B11 X11=>?_⟩
      refine⟨_,rfl,b8,151,rfl,B11,⟨by decide,by decide +kernel⟩,fun d2 H12 d20 d21 B12 X12=>⟨ln2,fun l1 n1=>?_⟩⟩
      refine⟨_,rfl,b8,2,rfl,B12.new n1,⟨by decide,by decide +kernel⟩,fun d3 H13 d30 d31 B13 X13=>?_⟩
      have h1:H13 l1=some (.lst [.int d1,.int d2]):=X13 l1 _ aa (B12.dZ n1)
      obtain⟨mm,hm,hm3⟩:∃ g:Nat,dY [V.int d1,V.int d2] d3=some (V.int g)/\g<=150:=by
        obtain⟨k1,rfl⟩:∃ k:Nat,d1=k:=⟨d1.toNat,by omega⟩
        obtain⟨k2,rfl⟩:∃ k:Nat,d2=k:=⟨d2.toNat,by omega⟩
        obtain rfl | rfl:d3=0\/d3=1:=by omega
        · exact⟨k1,bo,by omega⟩
        · exact⟨k2,cu,by omega⟩
      refine⟨l1,_,_,_,rfl,rfl,aM.of h1,hm,?_⟩
      have X10_13:Fix b8 H10 H13:=(X11.trans X12).trans ((Fix.new n1).trans X13)
      have s13:ao H9 H13:=ao.uT s8 nb8 (X10.trans X10_13)
      have np13:H13 np=some (.tup (nums.map V.int)):=X10_13 np _ hnp (B10.pT hnp)
      have s613:=(s7.trans s9).trans s13
      refine⟨np,pp,.ref qp,mm,nums,ps,qs,vs,rfl,s613 _ _ e1p,rp.same s613 (bt _),.tup (s613 _ _ e1q) (rqv.same s613 (bt _)),hin,hinq,hpc,(by omega),hQ,(fun p hp=>by have:=(pok.hX p hp).1;omega),np13,hm3,fun H14 s14=>⟨_,rfl,?_⟩⟩
      refine ax rfl ?_
      exact⟨_,_,_,rfl,(s9.trans s13).trans s14⟩
    rintro σ H8 ⟨v3,v4,v5,rfl,s8⟩
    exact q H8
end
theorem all_mk {l:PySem.W.OpenLaw} {w:World} {K:PySem.W.Frag} {h:Heap} {mg:Str->Option Value} {fa:Addr} (X:K.In h) (G:h.Ns mainGlobals mg) (hfa:mg "law" = some (.ref fa))
  {f0:Addr} {od0 an0:Option Addr} {sl0:Array (Option Value)} {oc0 kV0 dc0 pm0 cd0 ct0:Value}
  {f1:Addr} {od1 an1:Option Addr} {sl1:Array (Option Value)} {oc1 kV1 dc1 pm1 cd1 ct1:Value}
  {f2:Addr} {od2 an2:Option Addr} {sl2:Array (Option Value)} {oc2 kV2 dc2 pm2 cd2 ct2:Value}
  {f3:Addr} {od3 an3:Option Addr} {sl3:Array (Option Value)} {oc3 kV3 dc3 pm3 cd3 ct3:Value}
  {f4:Addr} {od4 an4:Option Addr} {sl4:Array (Option Value)} {oc4 kV4 dc4 pm4 cd4 ct4:Value}
  {f5:Addr} {od5 an5:Option Addr} {sl5:Array (Option Value)} {oc5 kV5 dc5 pm5 cd5 ct5:Value}
  {f6:Addr} {od6 an6:Option Addr} {sl6:Array (Option Value)} {oc6 kV6 dc6 pm6 cd6 ct6:Value}
  {f7:Addr} {od7 an7:Option Addr} {sl7:Array (Option Value)} {oc7 kV7 dc7 pm7 cd7 ct7:Value}
  {f8:Addr} {od8 an8:Option Addr} {sl8:Array (Option Value)} {oc8 kV8 dc8 pm8 cd8 ct8:Value}
  {f9:Addr} {od9 an9:Option Addr} {sl9:Array (Option Value)} {oc9 kV9 dc9 pm9 cd9 ct9:Value}
  {f10:Addr} {od10 an10:Option Addr} {sl10:Array (Option Value)} {oc10 kV10 dc10 pm10 cd10 ct10:Value}
  {f11:Addr} {od11 an11:Option Addr} {sl11:Array (Option Value)} {oc11 kV11 dc11 pm11 cd11 ct11:Value}
  {f12:Addr} {od12 an12:Option Addr} {sl12:Array (Option Value)} {oc12 kV12 dc12 pm12 cd12 ct12:Value}
  {f13:Addr} {od13 an13:Option Addr} {sl13:Array (Option Value)} {oc13 kV13 dc13 pm13 cd13 ct13:Value}
  {f14:Addr} {od14 an14:Option Addr} {sl14:Array (Option Value)} {oc14 kV14 dc14 pm14 cd14 ct14:Value}
  {f15:Addr} {od15 an15:Option Addr} {sl15:Array (Option Value)} {oc15 kV15 dc15 pm15 cd15 ct15:Value}
  {f16:Addr} {od16 an16:Option Addr} {sl16:Array (Option Value)} {oc16 kV16 dc16 pm16 cd16 ct16:Value}
  {f17:Addr} {od17 an17:Option Addr} {sl17:Array (Option Value)} {oc17 kV17 dc17 pm17 cd17 ct17:Value}
  {f18:Addr} {od18 an18:Option Addr} {sl18:Array (Option Value)} {oc18 kV18 dc18 pm18 cd18 ct18:Value}
  {f19:Addr} {od19 an19:Option Addr} {sl19:Array (Option Value)} {oc19 kV19 dc19 pm19 cd19 ct19:Value}
  {f20:Addr} {od20 an20:Option Addr} {sl20:Array (Option Value)} {oc20 kV20 dc20 pm20 cd20 ct20:Value}
  {f21:Addr} {od21 an21:Option Addr} {sl21:Array (Option Value)} {oc21 kV21 dc21 pm21 cd21 ct21:Value}
  {f22:Addr} {od22 an22:Option Addr} {sl22:Array (Option Value)} {oc22 kV22 dc22 pm22 cd22 ct22:Value}
  {f23:Addr} {od23 an23:Option Addr} {sl23:Array (Option Value)} {oc23 kV23 dc23 pm23 cd23 ct23:Value}
  {f24:Addr} {od24 an24:Option Addr} {sl24:Array (Option Value)} {oc24 kV24 dc24 pm24 cd24 ct24:Value}
  {f25:Addr} {od25 an25:Option Addr} {sl25:Array (Option Value)} {oc25 kV25 dc25 pm25 cd25 ct25:Value}
  {f26:Addr} {od26 an26:Option Addr} {sl26:Array (Option Value)} {oc26 kV26 dc26 pm26 cd26 ct26:Value}
  {f27:Addr} {od27 an27:Option Addr} {sl27:Array (Option Value)} {oc27 kV27 dc27 pm27 cd27 ct27:Value}
  {f28:Addr} {od28 an28:Option Addr} {sl28:Array (Option Value)} {oc28 kV28 dc28 pm28 cd28 ct28:Value}
  {f29:Addr} {od29 an29:Option Addr} {sl29:Array (Option Value)} {oc29 kV29 dc29 pm29 cd29 ct29:Value}
  {f30:Addr} {od30 an30:Option Addr} {sl30:Array (Option Value)} {oc30 kV30 dc30 pm30 cd30 ct30:Value}
  {f31:Addr} {od31 an31:Option Addr} {sl31:Array (Option Value)} {oc31 kV31 dc31 pm31 cd31 ct31:Value}
  {f32:Addr} {od32 an32:Option Addr} {sl32:Array (Option Value)} {oc32 kV32 dc32 pm32 cd32 ct32:Value}
  {f33:Addr} {od33 an33:Option Addr} {sl33:Array (Option Value)} {oc33 kV33 dc33 pm33 cd33 ct33:Value}
  {f34:Addr} {od34 an34:Option Addr} {sl34:Array (Option Value)} {oc34 kV34 dc34 pm34 cd34 ct34:Value}
  {f35:Addr} {od35 an35:Option Addr} {sl35:Array (Option Value)} {oc35 kV35 dc35 pm35 cd35 ct35:Value}
  {f36:Addr} {od36 an36:Option Addr} {sl36:Array (Option Value)} {oc36 kV36 dc36 pm36 cd36 ct36:Value}
  {f37:Addr} {od37 an37:Option Addr} {sl37:Array (Option Value)} {oc37 kV37 dc37 pm37 cd37 ct37:Value}
  {f38:Addr} {od38 an38:Option Addr} {sl38:Array (Option Value)} {oc38 kV38 dc38 pm38 cd38 ct38:Value}
  {f39:Addr} {od39 an39:Option Addr} {sl39:Array (Option Value)} {oc39 kV39 dc39 pm39 cd39 ct39:Value}
  {f40:Addr} {od40 an40:Option Addr} {sl40:Array (Option Value)} {oc40 kV40 dc40 pm40 cd40 ct40:Value}
  {f41:Addr} {od41 an41:Option Addr} {sl41:Array (Option Value)} {oc41 kV41 dc41 pm41 cd41 ct41:Value}
  {f42:Addr} {od42 an42:Option Addr} {sl42:Array (Option Value)} {oc42 kV42 dc42 pm42 cd42 ct42:Value}
  {aE:Addr} {epE:Nat} {s0:Addr} {hsE0:Int} {tkE0:Tok} {dcE0:Option Addr} {nnE0:Nat} {slE0:Array (Option Value)}  {s1:Addr} {hsE1:Int} {tkE1:Tok} {dcE1:Option Addr} {nnE1:Nat} {slE1:Array (Option Value)} {ttE1_0:Tok} {s2:Addr} {hsE2:Int} {tkE2:Tok} {dcE2:Option Addr} {nnE2:Nat} {slE2:Array (Option Value)} {ttE2_0:Tok} {ttE2_1:Tok} {ttE2_2:Tok} {ttE2_3:Tok} {s3:Addr} {hsE3:Int} {tkE3:Tok} {dcE3:Option Addr} {nnE3:Nat} {slE3:Array (Option Value)} {ttE3_0:Tok} {ttE3_1:Tok} {ttE3_2:Tok} {ttE3_3:Tok}
  {C:Addr}
  (a0:PySem.W.nsIn K mainGlobals "parts_of_kind" = some (some (.ref f0))) (l0:K.lookup f0=some ⟨oc0,od0,.func (PySem.W.fnOf "parts_of_kind" "parts_of_kind" (aQ cR) (aO cR) (au cR) .none kV0 dc0 pm0 an0 cd0 ct0),sl0⟩) (c0:PySem.W.codeIn K cd0 "parts_of_kind" = true) (k0:PySem.W.keepIn K (.ref f0)=true)
  (a1:PySem.W.nsIn K mainGlobals "ways_on" = some (some (.ref f1))) (l1:K.lookup f1=some ⟨oc1,od1,.func (PySem.W.fnOf "ways_on" "ways_on" (aQ gy) (aO gy) (au gy) .none kV1 dc1 pm1 an1 cd1 ct1),sl1⟩) (c1:PySem.W.codeIn K cd1 "ways_on" = true) (k1:PySem.W.keepIn K (.ref f1)=true)
  (a2:PySem.W.nsIn K mainGlobals "asked_by" = some (some (.ref f2))) (l2:K.lookup f2=some ⟨oc2,od2,.func (PySem.W.fnOf "asked_by" "asked_by" (aQ fK) (aO fK) (au fK) .none kV2 dc2 pm2 an2 cd2 ct2),sl2⟩) (c2:PySem.W.codeIn K cd2 "asked_by" = true) (k2:PySem.W.keepIn K (.ref f2)=true)
  (a3:PySem.W.nsIn K mainGlobals "traced" = some (some (.ref f3))) (l3:K.lookup f3=some ⟨oc3,od3,.func (PySem.W.fnOf "traced" "traced" (aQ hR) (aO hR) (au hR) .none kV3 dc3 pm3 an3 cd3 ct3),sl3⟩) (c3:PySem.W.codeIn K cd3 "traced" = true) (k3:PySem.W.keepIn K (.ref f3)=true)
  (a4:PySem.W.nsIn K mainGlobals "ways_back" = some (some (.ref f4))) (l4:K.lookup f4=some ⟨oc4,od4,.func (PySem.W.fnOf "ways_back" "ways_back" (aQ e6) (aO e6) (au e6) .none kV4 dc4 pm4 an4 cd4 ct4),sl4⟩) (c4:PySem.W.codeIn K cd4 "ways_back" = true) (k4:PySem.W.keepIn K (.ref f4)=true)
  (a5:PySem.W.nsIn K mainGlobals "live" = some (some (.ref f5))) (l5:K.lookup f5=some ⟨oc5,od5,.func (PySem.W.fnOf "live" "live" (aQ jL) (aO jL) (au jL) .none kV5 dc5 pm5 an5 cd5 ct5),sl5⟩) (c5:PySem.W.codeIn K cd5 "live" = true) (k5:PySem.W.keepIn K (.ref f5)=true)
  (a6:PySem.W.nsIn K mainGlobals "without_spare" = some (some (.ref f6))) (l6:K.lookup f6=some ⟨oc6,od6,.func (PySem.W.fnOf "without_spare" "without_spare" (aQ cS) (aO cS) (au cS) .none kV6 dc6 pm6 an6 cd6 ct6),sl6⟩) (c6:PySem.W.codeIn K cd6 "without_spare" = true) (k6:PySem.W.keepIn K (.ref f6)=true)
  (a7:PySem.W.nsIn K mainGlobals "spare" = some (some (.ref f7))) (l7:K.lookup f7=some ⟨oc7,od7,.func (PySem.W.fnOf "spare" "spare" (aQ iJ) (aO iJ) (au iJ) .none kV7 dc7 pm7 an7 cd7 ct7),sl7⟩) (c7:PySem.W.codeIn K cd7 "spare" = true) (k7:PySem.W.keepIn K (.ref f7)=true)
  (a8:PySem.W.nsIn K mainGlobals "lies_in" = some (some (.ref f8))) (l8:K.lookup f8=some ⟨oc8,od8,.func (PySem.W.fnOf "lies_in" "lies_in" (aQ gA) (aO gA) (au gA) .none kV8 dc8 pm8 an8 cd8 ct8),sl8⟩) (c8:PySem.W.codeIn K cd8 "lies_in" = true) (k8:PySem.W.keepIn K (.ref f8)=true)
  (a9:PySem.W.nsIn K mainGlobals "part_below" = some (some (.ref f9))) (l9:K.lookup f9=some ⟨oc9,od9,.func (PySem.W.fnOf "part_below" "part_below" (aQ eJ) (aO eJ) (au eJ) .none kV9 dc9 pm9 an9 cd9 ct9),sl9⟩) (c9:PySem.W.codeIn K cd9 "part_below" = true) (k9:PySem.W.keepIn K (.ref f9)=true)
  (a10:PySem.W.nsIn K mainGlobals "part_from" = some (some (.ref f10))) (l10:K.lookup f10=some ⟨oc10,od10,.func (PySem.W.fnOf "part_from" "part_from" (aQ e7) (aO e7) (au e7) .none kV10 dc10 pm10 an10 cd10 ct10),sl10⟩) (c10:PySem.W.codeIn K cd10 "part_from" = true) (k10:PySem.W.keepIn K (.ref f10)=true)
  (a11:PySem.W.nsIn K mainGlobals "part_at" = some (some (.ref f11))) (l11:K.lookup f11=some ⟨oc11,od11,.func (PySem.W.fnOf "part_at" "part_at" (aQ gB) (aO gB) (au gB) .none kV11 dc11 pm11 an11 cd11 ct11),sl11⟩) (c11:PySem.W.codeIn K cd11 "part_at" = true) (k11:PySem.W.keepIn K (.ref f11)=true)
  (a12:PySem.W.nsIn K mainGlobals "part_beside" = some (some (.ref f12))) (l12:K.lookup f12=some ⟨oc12,od12,.func (PySem.W.fnOf "part_beside" "part_beside" (aQ dQ) (aO dQ) (au dQ) .none kV12 dc12 pm12 an12 cd12 ct12),sl12⟩) (c12:PySem.W.codeIn K cd12 "part_beside" = true) (k12:PySem.W.keepIn K (.ref f12)=true)
  (a13:PySem.W.nsIn K mainGlobals "part_of" = some (some (.ref f13))) (l13:K.lookup f13=some ⟨oc13,od13,.func (PySem.W.fnOf "part_of" "part_of" (aQ gC) (aO gC) (au gC) .none kV13 dc13 pm13 an13 cd13 ct13),sl13⟩) (c13:PySem.W.codeIn K cd13 "part_of" = true) (k13:PySem.W.keepIn K (.ref f13)=true)
  (a14:PySem.W.nsIn K mainGlobals "answer_of" = some (some (.ref f14))) (l14:K.lookup f14=some ⟨oc14,od14,.func (PySem.W.fnOf "answer_of" "answer_of" (aQ fb) (aO fb) (au fb) .none kV14 dc14 pm14 an14 cd14 ct14),sl14⟩) (c14:PySem.W.codeIn K cd14 "answer_of" = true) (k14:PySem.W.keepIn K (.ref f14)=true)
  (a15:PySem.W.findIn K (.ref C) "worth" = some (some (.ref f15))) (i15:PySem.W.isFn K (.ref f15)=true) (l15:K.lookup f15=some ⟨oc15,od15,.func (PySem.W.fnOf "worth" "Stand.worth" (aQ dU) (aO dU) (au dU) .none kV15 dc15 pm15 an15 cd15 ct15),sl15⟩) (c15:PySem.W.codeIn K cd15 "Stand.worth" = true) (k15:PySem.W.keepIn K (.ref f15)=true)
  (a16:PySem.W.findIn K (.ref C) "coming" = some (some (.ref f16))) (i16:PySem.W.isFn K (.ref f16)=true) (l16:K.lookup f16=some ⟨oc16,od16,.func (PySem.W.fnOf "coming" "Stand.coming" (aQ dr) (aO dr) (au dr) .none kV16 dc16 pm16 an16 cd16 ct16),sl16⟩) (c16:PySem.W.codeIn K cd16 "Stand.coming" = true) (k16:PySem.W.keepIn K (.ref f16)=true)
  (a17:PySem.W.findIn K (.ref C) "lacks_number" = some (some (.ref f17))) (i17:PySem.W.isFn K (.ref f17)=true) (l17:K.lookup f17=some ⟨oc17,od17,.func (PySem.W.fnOf "lacks_number" "Stand.lacks_number" (aQ cg) (aO cg) (au cg) .none kV17 dc17 pm17 an17 cd17 ct17),sl17⟩) (c17:PySem.W.codeIn K cd17 "Stand.lacks_number" = true) (k17:PySem.W.keepIn K (.ref f17)=true)
  (a18:PySem.W.findIn K (.ref C) "is_held" = some (some (.ref f18))) (i18:PySem.W.isFn K (.ref f18)=true) (l18:K.lookup f18=some ⟨oc18,od18,.func (PySem.W.fnOf "is_held" "Stand.is_held" (aQ cT) (aO cT) (au cT) .none kV18 dc18 pm18 an18 cd18 ct18),sl18⟩) (c18:PySem.W.codeIn K cd18 "Stand.is_held" = true) (k18:PySem.W.keepIn K (.ref f18)=true)
  (a19:PySem.W.findIn K (.ref C) "take_number" = some (some (.ref f19))) (i19:PySem.W.isFn K (.ref f19)=true) (l19:K.lookup f19=some ⟨oc19,od19,.func (PySem.W.fnOf "take_number" "Stand.take_number" (aQ cw) (aO cw) (au cw) .none kV19 dc19 pm19 an19 cd19 ct19),sl19⟩) (c19:PySem.W.codeIn K cd19 "Stand.take_number" = true) (k19:PySem.W.keepIn K (.ref f19)=true)
  (a20:PySem.W.findIn K (.ref C) "do_deed" = some (some (.ref f20))) (i20:PySem.W.isFn K (.ref f20)=true) (l20:K.lookup f20=some ⟨oc20,od20,.func (PySem.W.fnOf "do_deed" "Stand.do_deed" (aQ cU) (aO cU) (au cU) .none kV20 dc20 pm20 an20 cd20 ct20),sl20⟩) (c20:PySem.W.codeIn K cd20 "Stand.do_deed" = true) (k20:PySem.W.keepIn K (.ref f20)=true)
  (a21:PySem.W.findIn K (.ref C) "come_to" = some (some (.ref f21))) (i21:PySem.W.isFn K (.ref f21)=true) (l21:K.lookup f21=some ⟨oc21,od21,.func (PySem.W.fnOf "come_to" "Stand.come_to" (aQ cV) (aO cV) (au cV) .none kV21 dc21 pm21 an21 cd21 ct21),sl21⟩) (c21:PySem.W.codeIn K cd21 "Stand.come_to" = true) (k21:PySem.W.keepIn K (.ref f21)=true)
  (a22:PySem.W.findIn K (.ref C) "do_end" = some (some (.ref f22))) (i22:PySem.W.isFn K (.ref f22)=true) (l22:K.lookup f22=some ⟨oc22,od22,.func (PySem.W.fnOf "do_end" "Stand.do_end" (aQ du) (aO du) (au du) .none kV22 dc22 pm22 an22 cd22 ct22),sl22⟩) (c22:PySem.W.codeIn K cd22 "Stand.do_end" = true) (k22:PySem.W.keepIn K (.ref f22)=true)
  (a23:PySem.W.findIn K (.ref C) "do_step" = some (some (.ref f23))) (i23:PySem.W.isFn K (.ref f23)=true) (l23:K.lookup f23=some ⟨oc23,od23,.func (PySem.W.fnOf "do_step" "Stand.do_step" (aQ cW) (aO cW) (au cW) .none kV23 dc23 pm23 an23 cd23 ct23),sl23⟩) (c23:PySem.W.codeIn K cd23 "Stand.do_step" = true) (k23:PySem.W.keepIn K (.ref f23)=true)
  (a24:PySem.W.findIn K (.ref C) "__init__" = some (some (.ref f24))) (i24:PySem.W.isFn K (.ref f24)=true) (l24:K.lookup f24=some ⟨oc24,od24,.func (PySem.W.fnOf "__init__" "Stand.__init__" (aQ cJ) (aO cJ) (au cJ) .none kV24 dc24 pm24 an24 cd24 ct24),sl24⟩) (c24:PySem.W.codeIn K cd24 "Stand.__init__" = true) (k24:PySem.W.keepIn K (.ref f24)=true)
  (a25:PySem.W.nsIn K mainGlobals "go_on" = some (some (.ref f25))) (l25:K.lookup f25=some ⟨oc25,od25,.func (PySem.W.fnOf "go_on" "go_on" (aQ iK) (aO iK) (au iK) .none kV25 dc25 pm25 an25 cd25 ct25),sl25⟩) (c25:PySem.W.codeIn K cd25 "go_on" = true) (k25:PySem.W.keepIn K (.ref f25)=true)
  (a26:PySem.W.nsIn K mainGlobals "run_at" = some (some (.ref f26))) (l26:K.lookup f26=some ⟨oc26,od26,.func (PySem.W.fnOf "run_at" "run_at" (aQ hV) (aO hV) (au hV) .none kV26 dc26 pm26 an26 cd26 ct26),sl26⟩) (c26:PySem.W.codeIn K cd26 "run_at" = true) (k26:PySem.W.keepIn K (.ref f26)=true)
  (a27:PySem.W.nsIn K mainGlobals "run" = some (some (.ref f27))) (l27:K.lookup f27=some ⟨oc27,od27,.func (PySem.W.fnOf "run" "run" (aQ lu) (aO lu) (au lu) .none kV27 dc27 pm27 an27 cd27 ct27),sl27⟩) (c27:PySem.W.codeIn K cd27 "run" = true) (k27:PySem.W.keepIn K (.ref f27)=true)
  (a28:PySem.W.nsIn K mainGlobals "_law_bag" = some (some (.ref f28))) (l28:K.lookup f28=some ⟨oc28,od28,.func (PySem.W.fnOf "_law_bag" "_law_bag" (aQ gD) (aO gD) (au gD) .none kV28 dc28 pm28 an28 cd28 ct28),sl28⟩) (c28:PySem.W.codeIn K cd28 "_law_bag" = true) (k28:PySem.W.keepIn K (.ref f28)=true)
  (a29:PySem.W.nsIn K mainGlobals "_law_take" = some (some (.ref f29))) (l29:K.lookup f29=some ⟨oc29,od29,.func (PySem.W.fnOf "_law_take" "_law_take" (aQ fM) (aO fM) (au fM) .none kV29 dc29 pm29 an29 cd29 ct29),sl29⟩) (c29:PySem.W.codeIn K cd29 "_law_take" = true) (k29:PySem.W.keepIn K (.ref f29)=true)
  (a30:PySem.W.nsIn K mainGlobals "_law_names" = some (some (.ref f30))) (l30:K.lookup f30=some ⟨oc30,od30,.func (PySem.W.fnOf "_law_names" "_law_names" (aQ fc) (aO fc) (au fc) .none kV30 dc30 pm30 an30 cd30 ct30),sl30⟩) (c30:PySem.W.codeIn K cd30 "_law_names" = true) (k30:PySem.W.keepIn K (.ref f30)=true)
  (a31:PySem.W.nsIn K mainGlobals "_law_number" = some (some (.ref f31))) (l31:K.lookup f31=some ⟨oc31,od31,.func (PySem.W.fnOf "_law_number" "_law_number" (aQ eM) (aO eM) (au eM) .none kV31 dc31 pm31 an31 cd31 ct31),sl31⟩) (c31:PySem.W.codeIn K cd31 "_law_number" = true) (k31:PySem.W.keepIn K (.ref f31)=true)
  (a32:PySem.W.nsIn K mainGlobals "_law_deed" = some (some (.ref f32))) (l32:K.lookup f32=some ⟨oc32,od32,.func (PySem.W.fnOf "_law_deed" "_law_deed" (aQ fN) (aO fN) (au fN) .none kV32 dc32 pm32 an32 cd32 ct32),sl32⟩) (c32:PySem.W.codeIn K cd32 "_law_deed" = true) (k32:PySem.W.keepIn K (.ref f32)=true)
  (a33:PySem.W.nsIn K mainGlobals "_law_end" = some (some (.ref f33))) (l33:K.lookup f33=some ⟨oc33,od33,.func (PySem.W.fnOf "_law_end" "_law_end" (aQ gF) (aO gF) (au gF) .none kV33 dc33 pm33 an33 cd33 ct33),sl33⟩) (c33:PySem.W.codeIn K cd33 "_law_end" = true) (k33:PySem.W.keepIn K (.ref f33)=true)
  (a34:PySem.W.nsIn K mainGlobals "_law_plan" = some (some (.ref f34))) (l34:K.lookup f34=some ⟨oc34,od34,.func (PySem.W.fnOf "_law_plan" "_law_plan" (aQ fO) (aO fO) (au fO) .none kV34 dc34 pm34 an34 cd34 ct34),sl34⟩) (c34:PySem.W.codeIn K cd34 "_law_plan" = true) (k34:PySem.W.keepIn K (.ref f34)=true)
  (a35:PySem.W.nsIn K mainGlobals "_law_count" = some (some (.ref f35))) (l35:K.lookup f35=some ⟨oc35,od35,.func (PySem.W.fnOf "_law_count" "_law_count" (aQ ff) (aO ff) (au ff) .none kV35 dc35 pm35 an35 cd35 ct35),sl35⟩) (c35:PySem.W.codeIn K cd35 "_law_count" = true) (k35:PySem.W.keepIn K (.ref f35)=true)
  (a36:PySem.W.nsIn K mainGlobals "_law_step" = some (some (.ref f36))) (l36:K.lookup f36=some ⟨oc36,od36,.func (PySem.W.fnOf "_law_step" "_law_step" (aQ fP) (aO fP) (au fP) .none kV36 dc36 pm36 an36 cd36 ct36),sl36⟩) (c36:PySem.W.codeIn K cd36 "_law_step" = true) (k36:PySem.W.keepIn K (.ref f36)=true)
  (a37:PySem.W.nsIn K mainGlobals "_law_walk" = some (some (.ref f37))) (l37:K.lookup f37=some ⟨oc37,od37,.func (PySem.W.fnOf "_law_walk" "_law_walk" (aQ fQ) (aO fQ) (au fQ) .none kV37 dc37 pm37 an37 cd37 ct37),sl37⟩) (c37:PySem.W.codeIn K cd37 "_law_walk" = true) (k37:PySem.W.keepIn K (.ref f37)=true)
  (a38:PySem.W.nsIn K mainGlobals "_law_input" = some (some (.ref f38))) (l38:K.lookup f38=some ⟨oc38,od38,.func (PySem.W.fnOf "_law_input" "_law_input" (aQ fg) (aO fg) (au fg) .none kV38 dc38 pm38 an38 cd38 ct38),sl38⟩) (c38:PySem.W.codeIn K cd38 "_law_input" = true) (k38:PySem.W.keepIn K (.ref f38)=true)
  (a39:PySem.W.nsIn K mainGlobals "_law_told" = some (some (.ref f39))) (l39:K.lookup f39=some ⟨oc39,od39,.func (PySem.W.fnOf "_law_told" "_law_told" (aQ fR) (aO fR) (au fR) .none kV39 dc39 pm39 an39 cd39 ct39),sl39⟩) (c39:PySem.W.codeIn K cd39 "_law_told" = true) (k39:PySem.W.keepIn K (.ref f39)=true)
  (a40:PySem.W.nsIn K mainGlobals "_law_right" = some (some (.ref f40))) (l40:K.lookup f40=some ⟨oc40,od40,.func (PySem.W.fnOf "_law_right" "_law_right" (aQ fh) (aO fh) (au fh) .none kV40 dc40 pm40 an40 cd40 ct40),sl40⟩) (c40:PySem.W.codeIn K cd40 "_law_right" = true) (k40:PySem.W.keepIn K (.ref f40)=true)
  (a41:PySem.W.nsIn K mainGlobals "_law_lasting" = some (some (.ref f41))) (l41:K.lookup f41=some ⟨oc41,od41,.func (PySem.W.fnOf "_law_lasting" "_law_lasting" (aQ dX) (aO dX) (au dX) .none kV41 dc41 pm41 an41 cd41 ct41),sl41⟩) (c41:PySem.W.codeIn K cd41 "_law_lasting" = true) (k41:PySem.W.keepIn K (.ref f41)=true)
  (a42:PySem.W.nsIn K mainGlobals "law" = some (some (.ref f42))) (l42:K.lookup f42=some ⟨oc42,od42,.func (PySem.W.fnOf "law" "law" (aQ iG) (aO iG) (au iG) .none kV42 dc42 pm42 an42 cd42 ct42),sl42⟩) (c42:PySem.W.codeIn K cd42 "law" = true) (k42:PySem.W.keepIn K (.ref f42)=true)
  (z_len:PySem.W.nsIn K mainGlobals "len" = some none)
  (z_zip:PySem.W.nsIn K mainGlobals "zip" = some none)
  (z_tuple:PySem.W.nsIn K mainGlobals "tuple" = some none)
  (z_set:PySem.W.nsIn K mainGlobals "set" = some none)
  (z_min:PySem.W.nsIn K mainGlobals "min" = some none)
  (z_max:PySem.W.nsIn K mainGlobals "max" = some none)
  (z_range:PySem.W.nsIn K mainGlobals "range" = some none)
  (z_list:PySem.W.nsIn K mainGlobals "list" = some none)
  (z_int:PySem.W.nsIn K mainGlobals "int" = some none)
  (z_dict:PySem.W.nsIn K mainGlobals "dict" = some none)
  (z_enumerate:PySem.W.nsIn K mainGlobals "enumerate" = some none)
  (z_sorted:PySem.W.nsIn K mainGlobals "sorted" = some none)
  (z_reversed:PySem.W.nsIn K mainGlobals "reversed" = some none)
  (gE:PySem.W.nsIn K mainGlobals "END_PARTS" = some (some (.ref aE))) (lE:K.lookup aE=some ⟨.type "dict",none,.dict #[⟨hsE0,.str "stop" tkE0,.ref s0⟩,⟨hsE1,.str "go" tkE1,.ref s1⟩,⟨hsE2,.str "less" tkE2,.ref s2⟩,⟨hsE3,.str "is" tkE3,.ref s3⟩] epE,#[]⟩) (qE0:K.lookup s0=some ⟨.type "tuple",dcE0,.seq #[] nnE0,slE0⟩) (qE1:K.lookup s1=some ⟨.type "tuple",dcE1,.seq #[.str "piece" ttE1_0] nnE1,slE1⟩) (qE2:K.lookup s2=some ⟨.type "tuple",dcE2,.seq #[.str "name" ttE2_0,.str "number" ttE2_1,.str "piece" ttE2_2,.str "piece" ttE2_3] nnE2,slE2⟩) (qE3:K.lookup s3=some ⟨.type "tuple",dcE3,.seq #[.str "name" ttE3_0,.str "number" ttE3_1,.str "piece" ttE3_2,.str "piece" ttE3_3] nnE3,slE3⟩)
  (aCC:PySem.W.nsIn K mainGlobals "Stand" = some (some (.ref C))) (pgC:PySem.W.plainGet K C Str.empty=true) (hdC:PySem.W.hasDictIn K C=true) (poC:PySem.W.plainOver K C=true) (saC:PySem.W.findIn K (.ref C) "__setattr__" = some (some (.builtin "object.__setattr__"))) (mkC:PySem.W.makesIn K C=true) (kcC:PySem.W.keepIn K (.ref C)=true)
  (nC_pieces:PySem.W.findIn K (.ref C) "pieces" = some none)
  (nC_passed:PySem.W.findIn K (.ref C) "passed" = some none)
  (nC_place:PySem.W.findIn K (.ref C) "place" = some none)
  (nC_worths:PySem.W.findIn K (.ref C) "worths" = some none)
  (nC_numbers:PySem.W.findIn K (.ref C) "numbers" = some none)
  (nC_taken:PySem.W.findIn K (.ref C) "taken" = some none)
  (nC_spoken:PySem.W.findIn K (.ref C) "spoken" = some none)
  (nC_over:PySem.W.findIn K (.ref C) "over" = some none) :
  ∃ fd:FuncData,(∀ (s:Shared) (v:Value),BindsTo s fd ⟨[v],[]⟩ [("script",v)])/\∀ base:Heap,K.In base->base.Ns mainGlobals mg->bg l.prog w K mg base bS 11 fa fd ["script"] (o3 K):=by
 have e:=hfa.symm.trans (PySem.W.mg_of X G a42)
 cases e
 have Z:Bl mg:=⟨PySem.W.mg_none_of X G z_len,PySem.W.mg_none_of X G z_zip,PySem.W.mg_none_of X G z_tuple,PySem.W.mg_none_of X G z_set,PySem.W.mg_none_of X G z_min,PySem.W.mg_none_of X G z_max,PySem.W.mg_none_of X G z_range,PySem.W.mg_none_of X G z_list,PySem.W.mg_none_of X G z_int,PySem.W.mg_none_of X G z_dict,PySem.W.mg_none_of X G z_enumerate,PySem.W.mg_none_of X G z_sorted,PySem.W.mg_none_of X G z_reversed⟩
 have GE:tT K mg aE s0 s1 s2 s3:=⟨⟨PySem.W.mg_of X G gE,_,_,lE,(.cons rfl rfl (.cons rfl rfl (.cons rfl rfl (.cons rfl rfl .nil))))⟩,⟨_,_,_,qE0,rfl,rfl,(by show 0<=sizeLine;decide),.nil⟩,⟨_,_,_,qE1,rfl,rfl,(by show 1<=sizeLine;decide),(.cons ⟨_,rfl⟩ .nil)⟩,⟨_,_,_,qE2,rfl,rfl,(by show 4<=sizeLine;decide),(.cons ⟨_,rfl⟩ (.cons ⟨_,rfl⟩ (.cons ⟨_,rfl⟩ (.cons ⟨_,rfl⟩ .nil))))⟩,⟨_,_,_,qE3,rfl,rfl,(by show 4<=sizeLine;decide),(.cons ⟨_,rfl⟩ (.cons ⟨_,rfl⟩ (.cons ⟨_,rfl⟩ (.cons ⟨_,rfl⟩ .nil))))⟩⟩
 have T:jF K C:=⟨⟨pgC,hdC,poC,saC⟩,nC_pieces,nC_passed,nC_place,nC_worths,nC_numbers,nC_taken,nC_spoken,nC_over⟩
 have F0:=aZ (st:=cR) l0 c0 k0
 have b0:=F0.binds (ps:=["thing", "kinds", "wanted"]) fun _ _ _ _ _ _ us hl=>match us,hl with | [_,_,_],_=>rfl
 have F1:=aZ (st:=gy) l1 c1 k1
 have b1:=F1.binds (ps:=["end"]) fun _ _ _ _ _ _ us hl=>match us,hl with | [_],_=>rfl
 have F2:=aZ (st:=fK) l2 c2 k2
 have b2:=F2.binds (ps:=["end"]) fun _ _ _ _ _ _ us hl=>match us,hl with | [_],_=>rfl
 have F3:=aZ (st:=hR) l3 c3 k3
 have b3:=F3.binds (ps:=["piece"]) fun _ _ _ _ _ _ us hl=>match us,hl with | [_],_=>rfl
 have F4:=aZ (st:=e6) l4 c4 k4
 have b4:=F4.binds (ps:=["plan"]) fun _ _ _ _ _ _ us hl=>match us,hl with | [_],_=>rfl
 have F5:=aZ (st:=jL) l5 c5 k5
 have b5:=F5.binds (ps:=["plan"]) fun _ _ _ _ _ _ us hl=>match us,hl with | [_],_=>rfl
 have F6:=aZ (st:=cS) l6 c6 k6
 have b6:=F6.binds (ps:=["deeds", "names"]) fun _ _ _ _ _ _ us hl=>match us,hl with | [_,_],_=>rfl
 have F7:=aZ (st:=iJ) l7 c7 k7
 have b7:=F7.binds (ps:=["plan"]) fun _ _ _ _ _ _ us hl=>match us,hl with | [_],_=>rfl
 have F8:=aZ (st:=gA) l8 c8 k8
 have b8:=F8.binds (ps:=["number", "stretch"]) fun _ _ _ _ _ _ us hl=>match us,hl with | [_,_],_=>rfl
 have F9:=aZ (st:=eJ) l9 c9 k9
 have b9:=F9.binds (ps:=["stretch", "number"]) fun _ _ _ _ _ _ us hl=>match us,hl with | [_,_],_=>rfl
 have F10:=aZ (st:=e7) l10 c10 k10
 have b10:=F10.binds (ps:=["stretch", "number"]) fun _ _ _ _ _ _ us hl=>match us,hl with | [_,_],_=>rfl
 have F11:=aZ (st:=gB) l11 c11 k11
 have b11:=F11.binds (ps:=["stretch", "number"]) fun _ _ _ _ _ _ us hl=>match us,hl with | [_,_],_=>rfl
 have F12:=aZ (st:=dQ) l12 c12 k12
 have b12:=F12.binds (ps:=["stretch", "number"]) fun _ _ _ _ _ _ us hl=>match us,hl with | [_,_],_=>rfl
 have F13:=aZ (st:=gC) l13 c13 k13
 have b13:=F13.binds (ps:=["stretch", "word", "number", "side"]) fun _ _ _ _ _ _ us hl=>match us,hl with | [_,_,_,_],_=>rfl
 have F14:=aZ (st:=fb) l14 c14 k14
 have b14:=F14.binds (ps:=["stretch", "word", "number"]) fun _ _ _ _ _ _ us hl=>match us,hl with | [_,_,_],_=>rfl
 have F15:=aZ (st:=dU) l15 c15 k15
 have b15:=F15.binds (ps:=["self", "name"]) fun _ _ _ _ _ _ us hl=>match us,hl with | [_,_],_=>rfl
 have F16:=aZ (st:=dr) l16 c16 k16
 have b16:=F16.binds (ps:=["self"]) fun _ _ _ _ _ _ us hl=>match us,hl with | [_],_=>rfl
 have F17:=aZ (st:=cg) l17 c17 k17
 have b17:=F17.binds (ps:=["self"]) fun _ _ _ _ _ _ us hl=>match us,hl with | [_],_=>rfl
 have F18:=aZ (st:=cT) l18 c18 k18
 have b18:=F18.binds (ps:=["self"]) fun _ _ _ _ _ _ us hl=>match us,hl with | [_],_=>rfl
 have F19:=aZ (st:=cw) l19 c19 k19
 have b19:=F19.binds (ps:=["self"]) fun _ _ _ _ _ _ us hl=>match us,hl with | [_],_=>rfl
 have F20:=aZ (st:=cU) l20 c20 k20
 have b20:=F20.binds (ps:=["self", "deed"]) fun _ _ _ _ _ _ us hl=>match us,hl with | [_,_],_=>rfl
 have F21:=aZ (st:=cV) l21 c21 k21
 have b21:=F21.binds (ps:=["self", "piece"]) fun _ _ _ _ _ _ us hl=>match us,hl with | [_,_],_=>rfl
 have F22:=aZ (st:=du) l22 c22 k22
 have b22:=F22.binds (ps:=["self", "end"]) fun _ _ _ _ _ _ us hl=>match us,hl with | [_,_],_=>rfl
 have F23:=aZ (st:=cW) l23 c23 k23
 have b23:=F23.binds (ps:=["self"]) fun _ _ _ _ _ _ us hl=>match us,hl with | [_],_=>rfl
 have F24:=aZ (st:=cJ) l24 c24 k24
 have b24:=F24.binds (ps:=["self", "pieces", "begin", "worths", "numbers"]) fun _ _ _ _ _ _ us hl=>match us,hl with | [_,_,_,_,_],_=>rfl
 have F25:=aZ (st:=iK) l25 c25 k25
 have b25:=F25.binds (ps:=["stand", "steps"]) fun _ _ _ _ _ _ us hl=>match us,hl with | [_,_],_=>rfl
 have F26:=aZ (st:=hV) l26 c26 k26
 have b26:=F26.binds (ps:=["plan", "piece", "worths", "numbers", "steps"]) fun _ _ _ _ _ _ us hl=>match us,hl with | [_,_,_,_,_],_=>rfl
 have F27:=aZ (st:=lu) l27 c27 k27
 have b27:=F27.binds (ps:=["plan", "numbers", "steps"]) fun _ _ _ _ _ _ us hl=>match us,hl with | [_,_,_],_=>rfl
 have F28:=aZ (st:=gD) l28 c28 k28
 have b28:=F28.binds (ps:=["script", "k"]) fun _ _ _ _ _ _ us hl=>match us,hl with | [_,_],_=>rfl
 have F29:=aZ (st:=fM) l29 c29 k29
 have b29:=F29.binds (ps:=["bag", "many"]) fun _ _ _ _ _ _ us hl=>match us,hl with | [_,_],_=>rfl
 have F30:=aZ (st:=fc) l30 c30 k30
 have b30:=F30.binds (ps:=["bag"]) fun _ _ _ _ _ _ us hl=>match us,hl with | [_],_=>rfl
 have F31:=aZ (st:=eM) l31 c31 k31
 have b31:=F31.binds (ps:=["bag"]) fun _ _ _ _ _ _ us hl=>match us,hl with | [_],_=>rfl
 have F32:=aZ (st:=fN) l32 c32 k32
 have b32:=F32.binds (ps:=["bag", "names"]) fun _ _ _ _ _ _ us hl=>match us,hl with | [_,_],_=>rfl
 have F33:=aZ (st:=gF) l33 c33 k33
 have b33:=F33.binds (ps:=["bag", "names", "count"]) fun _ _ _ _ _ _ us hl=>match us,hl with | [_,_,_],_=>rfl
 have F34:=aZ (st:=fO) l34 c34 k34
 have b34:=F34.binds (ps:=["bag", "count", "most"]) fun _ _ _ _ _ _ us hl=>match us,hl with | [_,_,_],_=>rfl
 have F35:=aZ (st:=ff) l35 c35 k35
 have b35:=F35.binds (ps:=["bag", "most"]) fun _ _ _ _ _ _ us hl=>match us,hl with | [_,_],_=>rfl
 have F36:=aZ (st:=fP) l36 c36 k36
 have b36:=F36.binds (ps:=["plan", "state", "numbers"]) fun _ _ _ _ _ _ us hl=>match us,hl with | [_,_,_],_=>rfl
 have F37:=aZ (st:=fQ) l37 c37 k37
 have b37:=F37.binds (ps:=["plan", "numbers", "steps"]) fun _ _ _ _ _ _ us hl=>match us,hl with | [_,_,_],_=>rfl
 have F38:=aZ (st:=fg) l38 c38 k38
 have b38:=F38.binds (ps:=["bag"]) fun _ _ _ _ _ _ us hl=>match us,hl with | [_],_=>rfl
 have F39:=aZ (st:=fR) l39 c39 k39
 have b39:=F39.binds (ps:=["plan", "numbers", "steps"]) fun _ _ _ _ _ _ us hl=>match us,hl with | [_,_,_],_=>rfl
 have F40:=aZ (st:=fh) l40 c40 k40
 have b40:=F40.binds (ps:=["plan", "less", "numbers", "steps"]) fun _ _ _ _ _ _ us hl=>match us,hl with | [_,_,_,_],_=>rfl
 have F41:=aZ (st:=dX) l41 c41 k41
 have b41:=F41.binds (ps:=["deeds"]) fun _ _ _ _ _ _ us hl=>match us,hl with | [_],_=>rfl
 have F42:=aZ (st:=iG) l42 c42 k42
 refine⟨PySem.W.fnOf "law" "law" (aQ iG) (aO iG) (au iG) .none kV42 dc42 pm42 an42 cd42 ct42,fun s v=>.of_eq rfl,fun base _ _=>?_⟩
 have O_parts_of_kind:Own l.prog w K mg base "parts_of_kind" 1 ["thing", "kinds", "wanted"] (nW K):=⟨⟨_,_,mD F0 Z ,PySem.W.mg_of X G a0,k0,b0⟩⟩
 have O_ways_on:Own l.prog w K mg base "ways_on" 3 ["end"] m8:=⟨⟨_,_,uj F1 Z GE O_parts_of_kind,PySem.W.mg_of X G a1,k1,b1⟩⟩
 have O_asked_by:Own l.prog w K mg base "asked_by" 1 ["end"] jh:=⟨⟨_,_,rE F2 Z ,PySem.W.mg_of X G a2,k2,b2⟩⟩
 have O_traced:Own l.prog w K mg base "traced" 3 ["piece"] mr:=⟨⟨_,_,vM F3 Z O_asked_by,PySem.W.mg_of X G a3,k3,b3⟩⟩
 have O_ways_back:Own l.prog w K mg base "ways_back" 4 ["plan"] qE:=⟨⟨_,_,qT F4 Z O_ways_on,PySem.W.mg_of X G a4,k4,b4⟩⟩
 have O_live:Own l.prog w K mg base "live" 5 ["plan"] qI:=⟨⟨_,_,yZ F5 Z O_traced O_ways_back,PySem.W.mg_of X G a5,k5,b5⟩⟩
 have O_without_spare:Own l.prog w K mg base "without_spare" 2 ["deeds", "names"] hJ:=⟨⟨_,_,mE F6 Z ,PySem.W.mg_of X G a6,k6,b6⟩⟩
 have O_spare:Own l.prog w K mg base "spare" 7 ["plan"] oa:=⟨⟨_,_,xt F7 Z O_live O_asked_by O_ways_on O_without_spare,PySem.W.mg_of X G a7,k7,b7⟩⟩
 have O_lies_in:Own l.prog w K mg base "lies_in" 1 ["number", "stretch"] qc:=⟨⟨_,_,uk F8 Z ,PySem.W.mg_of X G a8,k8,b8⟩⟩
 have O_part_below:Own l.prog w K mg base "part_below" 1 ["stretch", "number"] (j8 fY):=⟨⟨_,_,oW F9 Z ,PySem.W.mg_of X G a9,k9,b9⟩⟩
 have O_part_from:Own l.prog w K mg base "part_from" 1 ["stretch", "number"] (j8 gL):=⟨⟨_,_,qU F10 Z ,PySem.W.mg_of X G a10,k10,b10⟩⟩
 have O_part_at:Own l.prog w K mg base "part_at" 2 ["stretch", "number"] (j8 mX):=⟨⟨_,_,um F11 Z O_lies_in,PySem.W.mg_of X G a11,k11,b11⟩⟩
 have O_part_beside:Own l.prog w K mg base "part_beside" 1 ["stretch", "number"] (j8 gZ):=⟨⟨_,_,oi F12 Z ,PySem.W.mg_of X G a12,k12,b12⟩⟩
 have O_part_of:Own l.prog w K mg base "part_of" 3 ["stretch", "word", "number", "side"] qd:=⟨⟨_,_,uo F13 Z O_part_below O_part_from O_part_at O_part_beside,PySem.W.mg_of X G a13,k13,b13⟩⟩
 have O_answer_of:Own l.prog w K mg base "answer_of" 4 ["stretch", "word", "number"] tI:=⟨⟨_,_,qV F14 Z O_part_of,PySem.W.mg_of X G a14,k14,b14⟩⟩
 have O_Stand_worth:d7 l.prog w K mg base C "worth" 1 ["self", "name"] (lp C):=⟨T.cl,⟨_,_,om F15 Z T ,⟨a15,i15,k15⟩,b15⟩⟩
 have O_Stand_coming:d7 l.prog w K mg base C "coming" 1 ["self"] (mf C):=⟨T.cl,⟨_,_,nq F16 Z T ,⟨a16,i16,k16⟩,b16⟩⟩
 have O_Stand_lacks_number:d7 l.prog w K mg base C "lacks_number" 2 ["self"] (nM C):=⟨T.cl,⟨_,_,jN F17 Z T O_Stand_coming,⟨a17,i17,k17⟩,b17⟩⟩
 have O_Stand_is_held:d7 l.prog w K mg base C "is_held" 3 ["self"] (qg C):=⟨T.cl,⟨_,_,mF F18 Z T O_Stand_lacks_number,⟨a18,i18,k18⟩,b18⟩⟩
 have O_Stand_take_number:d7 l.prog w K mg base C "take_number" 1 ["self"] (nN C):=⟨T.cl,⟨_,_,j6 F19 Z T ,⟨a19,i19,k19⟩,b19⟩⟩
 have O_Stand_do_deed:d7 l.prog w K mg base C "do_deed" 2 ["self", "deed"] (mh C):=⟨T.cl,⟨_,_,mG F20 Z T O_Stand_worth O_Stand_take_number,⟨a20,i20,k20⟩,b20⟩⟩
 have O_Stand_come_to:d7 l.prog w K mg base C "come_to" 1 ["self", "piece"] (qf C):=⟨T.cl,⟨_,_,mH F21 Z T ,⟨a21,i21,k21⟩,b21⟩⟩
 have O_Stand_do_end:d7 l.prog w K mg base C "do_end" 5 ["self", "end"] (nO C):=⟨T.cl,⟨_,_,nu F22 Z T O_Stand_worth O_Stand_come_to O_answer_of,⟨a22,i22,k22⟩,b22⟩⟩
 have O_Stand_do_step:d7 l.prog w K mg base C "do_step" 6 ["self"] (mi C):=⟨T.cl,⟨_,_,mI F23 Z T O_Stand_do_deed O_Stand_do_end,⟨a23,i23,k23⟩,b23⟩⟩
 have O_Stand___init__:wC l.prog w K mg base C "Stand" 1 ["self", "pieces", "begin", "worths", "numbers"] (nQ C):=⟨⟨_,_,lD F24 Z T ,⟨mkC,a24,i24,kcC⟩,PySem.W.mg_of X G aCC,b24⟩⟩
 have O_go_on:Own l.prog w K mg base "go_on" 7 ["stand", "steps"] (qh C):=⟨⟨_,_,xu F25 Z T O_Stand_is_held O_Stand_do_step,PySem.W.mg_of X G a25,k25,b25⟩⟩
 have O_run_at:Own l.prog w K mg base "run_at" 8 ["plan", "piece", "worths", "numbers", "steps"] nR:=⟨⟨_,_,vP F26 Z T O_Stand___init__ O_go_on,PySem.W.mg_of X G a26,k26,b26⟩⟩
 have O_run:Own l.prog w K mg base "run" 9 ["plan", "numbers", "steps"] tP:=⟨⟨_,_,Ad F27 Z O_run_at,PySem.W.mg_of X G a27,k27,b27⟩⟩
 have O_law_bag:Own l.prog w K mg base "_law_bag" 1 ["script", "k"] (tF K):=⟨⟨_,_,uq F28 Z ,PySem.W.mg_of X G a28,k28,b28⟩⟩
 have O_law_take:Own l.prog w K mg base "_law_take" 1 ["bag", "many"] fW:=⟨⟨_,_,rF F29 Z ,PySem.W.mg_of X G a29,k29,b29⟩⟩
 have O_law_names:Own l.prog w K mg base "_law_names" 2 ["bag"] nH:=⟨⟨_,_,qW F30 Z O_law_take,PySem.W.mg_of X G a30,k30,b30⟩⟩
 have O_law_number:Own l.prog w K mg base "_law_number" 2 ["bag"] i4:=⟨⟨_,_,oX F31 Z O_law_take,PySem.W.mg_of X G a31,k31,b31⟩⟩
 have O_law_deed:Own l.prog w K mg base "_law_deed" 3 ["bag", "names"] pX:=⟨⟨_,_,rG F32 Z O_law_take O_law_number,PySem.W.mg_of X G a32,k32,b32⟩⟩
 have O_law_end:Own l.prog w K mg base "_law_end" 3 ["bag", "names", "count"] pY:=⟨⟨_,_,ur F33 Z O_law_take O_law_number,PySem.W.mg_of X G a33,k33,b33⟩⟩
 have O_law_plan:Own l.prog w K mg base "_law_plan" 4 ["bag", "count", "most"] pZ:=⟨⟨_,_,rH F34 Z O_law_take O_law_names O_law_deed O_law_end,PySem.W.mg_of X G a34,k34,b34⟩⟩
 have O_law_count:Own l.prog w K mg base "_law_count" 2 ["bag", "most"] nI:=⟨⟨_,_,qX F35 Z O_law_take,PySem.W.mg_of X G a35,k35,b35⟩⟩
 have O_law_step:Own l.prog w K mg base "_law_step" 1 ["plan", "state", "numbers"] p7:=⟨⟨_,_,rJ F36 Z ,PySem.W.mg_of X G a36,k36,b36⟩⟩
 have O_law_walk:Own l.prog w K mg base "_law_walk" 2 ["plan", "numbers", "steps"] nT:=⟨⟨_,_,rK F37 Z O_law_step,PySem.W.mg_of X G a37,k37,b37⟩⟩
 have O_law_input:Own l.prog w K mg base "_law_input" 3 ["bag"] mj:=⟨⟨_,_,qY F38 Z O_law_take O_law_number,PySem.W.mg_of X G a38,k38,b38⟩⟩
 have O_law_told:Own l.prog w K mg base "_law_told" 3 ["plan", "numbers", "steps"] mx:=⟨⟨_,_,rM F39 Z O_law_walk,PySem.W.mg_of X G a39,k39,b39⟩⟩
 have O_law_right:Own l.prog w K mg base "_law_right" 10 ["plan", "less", "numbers", "steps"] kW:=⟨⟨_,_,qZ F40 Z O_law_told O_run,PySem.W.mg_of X G a40,k40,b40⟩⟩
 have O_law_lasting:Own l.prog w K mg base "_law_lasting" 1 ["deeds"] kX:=⟨⟨_,_,oo F41 Z ,PySem.W.mg_of X G a41,k41,b41⟩⟩
 exact Ae F42 Z O_law_bag O_law_take O_law_count O_law_plan O_spare O_law_lasting O_law_input O_law_right
theorem walk {l:PySem.W.OpenLaw} {q:Program} {loose:List Str} {XP:(Str->Option Value)->Heap->Prop} {YP:World->Heap->Prop} {d:DefRec} {K:Params->PySem.W.Frag} (hn:l.most=some 63) (hdf:d.params.defaults = [])
  (hY:∀ (w:World) (h:Heap),YP w h->(K w.params).In h)
  (F:∀ (w:World) (mg:Str->Option Value) (fa:Addr) (h:Heap),(K w.params).In h->h.Ns mainGlobals mg->mg d.name=some (.ref fa) ->
   ∃ fd:FuncData,(∀ (s:Shared) (u:Value),BindsTo s fd ⟨[u],[]⟩ [("script",u)])/\∀ base:Heap,(K w.params).In base->base.Ns mainGlobals mg->bg l.prog w (K w.params) mg base bS 11 fa fd ["script"] (o3 (K w.params))) :
  PySem.W.WalkO q loose XP YP l.row.toRowW d [] (fun f vs=>PySem.call f vs) :=
 L2.yj (n:=63) (k:=11) (x := "script") (CX:=fun _=>bS) (sp:=fun w=>o3 (K w.params)) hn (by decide) hdf ⟨rfl,by decide,by decide⟩ hY F (fun _ _ a ns hl _ hS=>⟨a,ns,rfl,hS,hl,fun _=>rfl⟩) fun _ _ _ _ _ z=>z
end My
theorem PySem.W.Fast.tw7903158067682116490:True:=trivial
theorem PySem.W.Fast.tw10494229834744492383:True:=trivial
theorem PySem.W.Fast.tw6653461235789597391:True:=trivial
theorem PySem.W.Fast.tw2256179706194510308:True:=trivial
theorem PySem.W.Fast.tw1621258051075810077:True:=trivial
theorem PySem.W.Fast.tw11768313965681690835:True:=trivial
theorem PySem.W.Fast.tw14683707262364189450:True:=trivial
theorem PySem.W.Fast.tw17591270266590392878:True:=trivial
theorem PySem.W.Fast.tw5730156871967915123:True:=trivial
theorem PySem.W.Fast.tw11473569955279707301:True:=trivial
theorem PySem.W.Fast.tw8384723918083128990:True:=trivial
theorem PySem.W.Fast.tw5699839934617878615:True:=trivial
theorem PySem.W.Fast.tw184823614103012633:True:=trivial
theorem PySem.W.Fast.tw6530711482304021081:True:=trivial
theorem PySem.W.Fast.tw16668925409372109781:True:=trivial
theorem PySem.W.Fast.tw11365592643291158091:True:=trivial
theorem PySem.W.Fast.tw425486469760307485:True:=trivial
theorem PySem.W.Fast.tw17074512655287905049:True:=trivial
theorem PySem.W.Fast.tw12277074358501141202:True:=trivial
theorem PySem.W.Fast.tw11862420321123420407:True:=trivial
theorem PySem.W.Fast.tw18196088664850626817:True:=trivial
theorem PySem.W.Fast.tw3936487124498382684:True:=trivial
theorem PySem.W.Fast.tw10737129750289331950:True:=trivial
theorem PySem.W.Fast.tw7458527473886409305:True:=trivial
theorem PySem.W.Fast.tw7258004490827675423:True:=trivial
theorem PySem.W.Fast.tw8696495026002617011:True:=trivial
theorem PySem.W.Fast.tw11404941122606535588:True:=trivial
theorem PySem.W.Fast.tw12467133548888508827:True:=trivial
theorem PySem.W.Fast.tw17088208295445723015:True:=trivial
theorem PySem.W.Fast.tw5375143093952370759:True:=trivial
theorem PySem.W.Fast.tw17069966898999201051:True:=trivial
theorem PySem.W.Fast.tw11632640663485241961:True:=trivial
theorem PySem.W.Fast.tw7066063567200736222:True:=trivial
theorem PySem.W.Fast.tw705770357210874603:True:=trivial
theorem PySem.W.Fast.tw16178088986739430972:True:=trivial
theorem PySem.W.Fast.tw15430942056781757764:True:=trivial
theorem PySem.W.Fast.tw16116546043447061421:True:=trivial
theorem PySem.W.Fast.tw4671668859025982752:True:=trivial
theorem PySem.W.Fast.tw10636302635370138286:True:=trivial
theorem PySem.W.Fast.tw4194465674748488769:True:=trivial
theorem PySem.W.Fast.tw3284097925618969375:True:=trivial
theorem PySem.W.Fast.tw2726220506268585523:True:=trivial
theorem PySem.W.Fast.tw3678954586440731955:True:=trivial
theorem PySem.W.Fast.tw10849149267985194529:True:=trivial
theorem PySem.W.Fast.tw10777856259390014492:True:=trivial
theorem PySem.W.Fast.tw2226958978361172281:True:=trivial
theorem PySem.W.Fast.tw4260588784744442286:True:=trivial
theorem PySem.W.Fast.tw16735125770560269404:True:=trivial
theorem PySem.W.Fast.tw13590171914407001458:True:=trivial
theorem PySem.W.Fast.tw15599093977081490872:True:=trivial
theorem PySem.W.Fast.tw7445448027582574761:True:=trivial
theorem PySem.W.Fast.tw17847569498923351746:True:=trivial
theorem PySem.W.Fast.tw17240026975713915210:True:=trivial
theorem PySem.W.Fast.tw18079312467586768510:True:=trivial
theorem PySem.W.Fast.tw12121216633671850981:True:=trivial
theorem PySem.W.Fast.tw11141777196031672003:True:=trivial
theorem PySem.W.Fast.tw15919391801402249826:True:=trivial
theorem PySem.W.Fast.tw2090319449537892925:True:=trivial
theorem PySem.W.Fast.tw8463935249654510089:True:=trivial
theorem PySem.W.Fast.tw16471876688472084422:True:=trivial
theorem PySem.W.Fast.tw6357617089651629189:True:=trivial
theorem PySem.W.Fast.tw7860516257730517024:True:=trivial
theorem PySem.W.Fast.tw5048890730855396659:True:=trivial
theorem PySem.W.Fast.tw6217423249112737911:True:=trivial
theorem PySem.W.Fast.tw484305032179273855:True:=trivial
theorem PySem.W.Fast.tw13251561302466364968:True:=trivial
theorem PySem.W.Fast.tw16405501146236586506:True:=trivial
theorem PySem.W.Fast.tw3110784731231959858:True:=trivial
theorem PySem.W.Fast.tw11029291146936300960:True:=trivial
theorem PySem.W.Fast.tw16095908484325162696:True:=trivial
theorem PySem.W.Fast.tw5741389541554667910:True:=trivial
theorem PySem.W.Fast.tw2200802672328183847:True:=trivial
theorem PySem.W.Fast.tw11465453055658819769:True:=trivial
theorem PySem.W.Fast.tw6122080376881826494:True:=trivial
theorem PySem.W.Fast.tw12745977024602858430:True:=trivial
theorem PySem.W.Fast.tw12277383230612191321:True:=trivial
theorem PySem.W.Fast.tw16049134050479100874:True:=trivial
theorem PySem.W.Fast.tw10234757888076204614:True:=trivial
theorem PySem.W.Fast.tw286115652662774193:True:=trivial
theorem PySem.W.Fast.tw8101041141790160627:True:=trivial
theorem PySem.W.Fast.tw12845955596361913703:True:=trivial
theorem PySem.W.Fast.tw7913180766996371126:True:=trivial
theorem PySem.W.Fast.tw15107037834936865174:True:=trivial
theorem PySem.W.Fast.tw13337993477018101163:True:=trivial
theorem PySem.W.Fast.tw14970866277138374084:True:=trivial
theorem PySem.W.Fast.tw12009773723293117044:True:=trivial
theorem PySem.W.Fast.tw3663505885701991550:True:=trivial
theorem PySem.W.Fast.tw8291618840353295743:True:=trivial
theorem PySem.W.Fast.tw17768464381005190855:True:=trivial
theorem PySem.W.Fast.tw12677038359819431275:True:=trivial
theorem PySem.W.Fast.tw1930119707609883536:True:=trivial
theorem PySem.W.Fast.tw8426048598443218768:True:=trivial
theorem PySem.W.Fast.tw12367624789022857887:True:=trivial
theorem PySem.W.Fast.tw4049266016450465195:True:=trivial
theorem PySem.W.Fast.tw2766890173524498899:True:=trivial
theorem PySem.W.Fast.tw9817780271020156415:True:=trivial
theorem PySem.W.Fast.tw3167365024438380745:True:=trivial
theorem PySem.W.Fast.tw10618949139458936634:True:=trivial
theorem PySem.W.Fast.tw5661221404765826708:True:=trivial
theorem PySem.W.Fast.tw12089935045312554282:True:=trivial
theorem PySem.W.Fast.tw5809678807765948471:True:=trivial
theorem PySem.W.Fast.tw2187926830291303955:True:=trivial
theorem PySem.W.Fast.tw10199629011690975296:True:=trivial
theorem PySem.W.Fast.tw3643772819917249978:True:=trivial
theorem PySem.W.Fast.tw10290563650511218132:True:=trivial
open PySem PySem.W PyProof.Rows
set_option maxRecDepth 100000 in
set_option maxHeartbeats 0 in
theorem PySem.Challenge.cw_ledpast_k37_whole_spare_tells_the_same_holds : PySem.Challenge.rw_ledpast_k37_whole_spare_tells_the_same.Holds := by
 w_on; o_law; k_head; (case hw => w_witness2)
 k_fill
 refine My.walk (l := PySem.Challenge.rw_ledpast_k37_whole_spare_tells_the_same) rfl rfl (fun w h Y => PySem.W.kIn_of Y) ?F
 case F =>
  intro w mg fa h KX G hmg
  refine' My.all_mk KX G hmg ?a0 ?l0 ?c0 ?k0 ?a1 ?l1 ?c1 ?k1 ?a2 ?l2 ?c2 ?k2 ?a3 ?l3 ?c3 ?k3 ?a4 ?l4 ?c4 ?k4 ?a5 ?l5 ?c5 ?k5 ?a6 ?l6 ?c6 ?k6 ?a7 ?l7 ?c7 ?k7 ?a8 ?l8 ?c8 ?k8 ?a9 ?l9 ?c9 ?k9 ?a10 ?l10 ?c10 ?k10 ?a11 ?l11 ?c11 ?k11 ?a12 ?l12 ?c12 ?k12 ?a13 ?l13 ?c13 ?k13 ?a14 ?l14 ?c14 ?k14 ?a15 ?i15 ?l15 ?c15 ?k15 ?a16 ?i16 ?l16 ?c16 ?k16 ?a17 ?i17 ?l17 ?c17 ?k17 ?a18 ?i18 ?l18 ?c18 ?k18 ?a19 ?i19 ?l19 ?c19 ?k19 ?a20 ?i20 ?l20 ?c20 ?k20 ?a21 ?i21 ?l21 ?c21 ?k21 ?a22 ?i22 ?l22 ?c22 ?k22 ?a23 ?i23 ?l23 ?c23 ?k23 ?a24 ?i24 ?l24 ?c24 ?k24 ?a25 ?l25 ?c25 ?k25 ?a26 ?l26 ?c26 ?k26 ?a27 ?l27 ?c27 ?k27 ?a28 ?l28 ?c28 ?k28 ?a29 ?l29 ?c29 ?k29 ?a30 ?l30 ?c30 ?k30 ?a31 ?l31 ?c31 ?k31 ?a32 ?l32 ?c32 ?k32 ?a33 ?l33 ?c33 ?k33 ?a34 ?l34 ?c34 ?k34 ?a35 ?l35 ?c35 ?k35 ?a36 ?l36 ?c36 ?k36 ?a37 ?l37 ?c37 ?k37 ?a38 ?l38 ?c38 ?k38 ?a39 ?l39 ?c39 ?k39 ?a40 ?l40 ?c40 ?k40 ?a41 ?l41 ?c41 ?k41 ?a42 ?l42 ?c42 ?k42 ?z_len ?z_zip ?z_tuple ?z_set ?z_min ?z_max ?z_range ?z_list ?z_int ?z_dict ?z_enumerate ?z_sorted ?z_reversed ?gE ?lE ?qE0 ?qE1 ?qE2 ?qE3 ?aCC ?pgC ?hdC ?poC ?saC ?mkC ?kcC ?nC_pieces ?nC_passed ?nC_place ?nC_worths ?nC_numbers ?nC_taken ?nC_spoken ?nC_over
  (case gE => k_is)
  (case lE => k_is)
  (case qE0 => k_is)
  (case qE1 => k_is)
  (case qE2 => k_is)
  (case qE3 => k_is)
  (case aCC => k_is)
  (case pgC => k_is)
  (case hdC => k_is)
  (case poC => k_is)
  (case saC => k_is)
  (case mkC => k_is)
  (case kcC => k_is)
  (case nC_pieces => k_is)
  (case nC_passed => k_is)
  (case nC_place => k_is)
  (case nC_worths => k_is)
  (case nC_numbers => k_is)
  (case nC_taken => k_is)
  (case nC_spoken => k_is)
  (case nC_over => k_is)
  (case a0 => k_is)
  (case l0 => k_is)
  (case c0 => k_is)
  (case k0 => k_is)
  (case a1 => k_is)
  (case l1 => k_is)
  (case c1 => k_is)
  (case k1 => k_is)
  (case a2 => k_is)
  (case l2 => k_is)
  (case c2 => k_is)
  (case k2 => k_is)
  (case a3 => k_is)
  (case l3 => k_is)
  (case c3 => k_is)
  (case k3 => k_is)
  (case a4 => k_is)
  (case l4 => k_is)
  (case c4 => k_is)
  (case k4 => k_is)
  (case a5 => k_is)
  (case l5 => k_is)
  (case c5 => k_is)
  (case k5 => k_is)
  (case a6 => k_is)
  (case l6 => k_is)
  (case c6 => k_is)
  (case k6 => k_is)
  (case a7 => k_is)
  (case l7 => k_is)
  (case c7 => k_is)
  (case k7 => k_is)
  (case a8 => k_is)
  (case l8 => k_is)
  (case c8 => k_is)
  (case k8 => k_is)
  (case a9 => k_is)
  (case l9 => k_is)
  (case c9 => k_is)
  (case k9 => k_is)
  (case a10 => k_is)
  (case l10 => k_is)
  (case c10 => k_is)
  (case k10 => k_is)
  (case a11 => k_is)
  (case l11 => k_is)
  (case c11 => k_is)
  (case k11 => k_is)
  (case a12 => k_is)
  (case l12 => k_is)
  (case c12 => k_is)
  (case k12 => k_is)
  (case a13 => k_is)
  (case l13 => k_is)
  (case c13 => k_is)
  (case k13 => k_is)
  (case a14 => k_is)
  (case l14 => k_is)
  (case c14 => k_is)
  (case k14 => k_is)
  (case a15 => k_is)
  (case i15 => k_is)
  (case l15 => k_is)
  (case c15 => k_is)
  (case k15 => k_is)
  (case a16 => k_is)
  (case i16 => k_is)
  (case l16 => k_is)
  (case c16 => k_is)
  (case k16 => k_is)
  (case a17 => k_is)
  (case i17 => k_is)
  (case l17 => k_is)
  (case c17 => k_is)
  (case k17 => k_is)
  (case a18 => k_is)
  (case i18 => k_is)
  (case l18 => k_is)
  (case c18 => k_is)
  (case k18 => k_is)
  (case a19 => k_is)
  (case i19 => k_is)
  (case l19 => k_is)
  (case c19 => k_is)
  (case k19 => k_is)
  (case a20 => k_is)
  (case i20 => k_is)
  (case l20 => k_is)
  (case c20 => k_is)
  (case k20 => k_is)
  (case a21 => k_is)
  (case i21 => k_is)
  (case l21 => k_is)
  (case c21 => k_is)
  (case k21 => k_is)
  (case a22 => k_is)
  (case i22 => k_is)
  (case l22 => k_is)
  (case c22 => k_is)
  (case k22 => k_is)
  (case a23 => k_is)
  (case i23 => k_is)
  (case l23 => k_is)
  (case c23 => k_is)
  (case k23 => k_is)
  (case a24 => k_is)
  (case i24 => k_is)
  (case l24 => k_is)
  (case c24 => k_is)
  (case k24 => k_is)
  (case a25 => k_is)
  (case l25 => k_is)
  (case c25 => k_is)
  (case k25 => k_is)
  (case a26 => k_is)
  (case l26 => k_is)
  (case c26 => k_is)
  (case k26 => k_is)
  (case a27 => k_is)
  (case l27 => k_is)
  (case c27 => k_is)
  (case k27 => k_is)
  (case a28 => k_is)
  (case l28 => k_is)
  (case c28 => k_is)
  (case k28 => k_is)
  (case a29 => k_is)
  (case l29 => k_is)
  (case c29 => k_is)
  (case k29 => k_is)
  (case a30 => k_is)
  (case l30 => k_is)
  (case c30 => k_is)
  (case k30 => k_is)
  (case a31 => k_is)
  (case l31 => k_is)
  (case c31 => k_is)
  (case k31 => k_is)
  (case a32 => k_is)
  (case l32 => k_is)
  (case c32 => k_is)
  (case k32 => k_is)
  (case a33 => k_is)
  (case l33 => k_is)
  (case c33 => k_is)
  (case k33 => k_is)
  (case a34 => k_is)
  (case l34 => k_is)
  (case c34 => k_is)
  (case k34 => k_is)
  (case a35 => k_is)
  (case l35 => k_is)
  (case c35 => k_is)
  (case k35 => k_is)
  (case a36 => k_is)
  (case l36 => k_is)
  (case c36 => k_is)
  (case k36 => k_is)
  (case a37 => k_is)
  (case l37 => k_is)
  (case c37 => k_is)
  (case k37 => k_is)
  (case a38 => k_is)
  (case l38 => k_is)
  (case c38 => k_is)
  (case k38 => k_is)
  (case a39 => k_is)
  (case l39 => k_is)
  (case c39 => k_is)
  (case k39 => k_is)
  (case a40 => k_is)
  (case l40 => k_is)
  (case c40 => k_is)
  (case k40 => k_is)
  (case a41 => k_is)
  (case l41 => k_is)
  (case c41 => k_is)
  (case k41 => k_is)
  (case a42 => k_is)
  (case l42 => k_is)
  (case c42 => k_is)
  (case k42 => k_is)
  (case z_len => k_is)
  (case z_zip => k_is)
  (case z_tuple => k_is)
  (case z_set => k_is)
  (case z_min => k_is)
  (case z_max => k_is)
  (case z_range => k_is)
  (case z_list => k_is)
  (case z_int => k_is)
  (case z_dict => k_is)
  (case z_enumerate => k_is)
  (case z_sorted => k_is)
  (case z_reversed => k_is)
