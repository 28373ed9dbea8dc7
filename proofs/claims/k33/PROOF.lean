import PyProof.Rows.All
import Wide.All
import OpenK.AllK
import Wide.FinOn
import Lean
import PyProof.EqAt
import PyProof.EqKinds
import PyProof.TupleCall
import PyProof.NeData
import Wide.Seal
import Wide.OfPy
import KE.KSetDisp
import PyProof.DictCompW
import PyProof.EnumMake
import PyProof.Draws
import PySem.Challenge.RW_ledpast_k33_tables_by_hand
set_option maxHeartbeats 8000000
set_option Elab.async false
set_option linter.all false
set_option maxRecDepth 100000
namespace L2
open PySem PySem.Spec PyProof.Rows
abbrev Key:=Sum Int Str
def ij:Key->Value->Bool
 | .inl k,v=>Value.isInt k v
 | .inr x,v=>Value.isStrOf x v
def zG (w:World):Key->Int
 | .inl k=>hashInt k
 | .inr x=>hashStr w x
theorem cC:∀ {k:Key} {v:Value},ij k v=true->(∃ i t,k=Sum.inl i/\v=Value.int i t)\/(∃ x t,k=Sum.inr x/\v=Value.str x t)
 | .inl i,v,h=>by
  obtain⟨t,e⟩:=Value.isInt_shape (k:=i) (v:=v) h
  exact .inl ⟨i,t,rfl,e⟩
 | .inr x,v,h=>by
  obtain⟨t,e⟩:=Value.isStrOf_shape (x:=x) (v:=v) h
  exact .inr ⟨x,t,rfl,e⟩
theorem tL (i:Int) (t:Tok):ij (.inl i) (.int i t)=true:=by simp [ij,Value.isInt]
theorem tM (x:Str) (t:Tok):ij (.inr x) (.str x t)=true:=by simp [ij,Value.isStrOf]
theorem xQ (a b:Int):decide ((Sum.inl a:Key)=Sum.inl b)=(a == b):=by
 by_cases e:a=b
 ·subst e;simp
 ·have h:¬ (Sum.inl a:Key)=Sum.inl b:=fun q=>e (Sum.inl.inj q)
  rw [decide_eq_false h]
  exact (beq_eq_false_iff_ne.mpr e).symm
theorem xR (a b:Str):decide ((Sum.inr a:Key)=Sum.inr b)=decide (a=b):=by
 by_cases e:a=b
 ·subst e;simp
 ·have h:¬ (Sum.inr a:Key)=Sum.inr b:=fun q=>e (Sum.inr.inj q)
  rw [decide_eq_false h,decide_eq_false e]
theorem xS (a:Int) (b:Str):decide ((Sum.inl a:Key)=Sum.inr b)=false:=decide_eq_false (fun q=>nomatch q)
theorem xT (a:Str) (b:Int):decide ((Sum.inr a:Key)=Sum.inl b)=false:=decide_eq_false (fun q=>nomatch q)
def aL (prog:Program) (w:World):PySem.KeyKind prog w Key where
 is:=ij
 hash:=zG w
 inj:=fun v a b ha hb=>by
  rcases cC ha with ⟨i,t,rfl,rfl⟩ | ⟨x,t,rfl,rfl⟩
  ·rcases cC hb with ⟨j,u,rfl,e⟩ | ⟨y,u,rfl,e⟩
   ·injection e with e1 _;rw [e1]
   ·exact nomatch e
  ·rcases cC hb with ⟨j,u,rfl,e⟩ | ⟨y,u,rfl,e⟩
   ·exact nomatch e
   ·injection e with e1 _;rw [e1]
 byValue:=fun k v h=>by
  rcases cC h with ⟨i,t,rfl,rfl⟩ | ⟨x,t,rfl,rfl⟩ <;> rfl
 pyHash:=fun hv h=>by
  rcases cC hv with ⟨i,t,rfl,rfl⟩ | ⟨x,t,rfl,rfl⟩
  ·exact wpAny_pyHash_int h
  ·exact wpAny_pyHash_str h
 eqBool:=fun hu hv h=>by
  rcases cC hu with ⟨i,t,rfl,rfl⟩ | ⟨x,t,rfl,rfl⟩
  ·rcases cC hv with ⟨j,u,rfl,rfl⟩ | ⟨y,u,rfl,rfl⟩
   ·rw [xQ] at h;exact wpAny_eqBool_int h
   ·rw [xS] at h;exact SeqAt.EqAt.int_str i t y u _ _ _ _ h
  ·rcases cC hv with ⟨j,u,rfl,rfl⟩ | ⟨y,u,rfl,rfl⟩
   ·rw [xT] at h;exact SeqAt.EqAt.str_int x t j u _ _ _ _ h
   ·rw [xR] at h;exact wpAny_eqBool_str h
 «strs»:=fun k x t v h=>by
  rcases cC h with ⟨i,u,rfl,e⟩ | ⟨y,u,rfl,e⟩
  ·exact nomatch e
  ·injection e with e1 _
   subst e1
   cases v <;> rfl
theorem lN (prog:Program) (w:World) (i:Int) (t:Tok):(aL prog w).is (.inl i) (.int i t)=true:=tL i t
theorem lO (prog:Program) (w:World) (x:Str) (t:Tok):(aL prog w).is (.inr x) (.str x t)=true:=tM x t
inductive V where
 | aB | bl (b:Bool) | int (i:Int) | str (x:Str) | j5 (b:Array UInt8) | wB (b:UInt64) | ref (a:Addr) | ty (n:String)
 deriving DecidableEq
def RelV:V->Value->Prop
 | .aB,u=>u=Value.none
 | .bl b,u=>u=Value.bool b
 | .int i,u=>∃ t,u=Value.int i t
 | .str x,u=>∃ t,u=Value.str x t
 | .j5 b,u=>∃ t,u=Value.bytes b t
 | .wB b,u=>∃ t,u=Value.float b t
 | .ref a,u=>u=Value.ref a
 | .ty n,u=>u=Value.type n
abbrev Vals:List V->List Value->Prop:=Paired RelV
theorem Vals.length {xs:List V} {us:List Value} (r:Vals xs us):xs.length=us.length:=Paired.length r
theorem Vals.get:∀ {xs:List V} {us:List Value} {i:Nat} {x:V},Vals xs us->xs[i]? = some x->∃ u,us[i]? = some u/\RelV x u
 | _,_,_,_,.nil,e=>by simp at e
 | _,_,0,_,.cons r _,e=>by simp at e;subst e;exact⟨_,rfl,r⟩
 | _,_,i+1,x,.cons _ t,e=>by
  obtain⟨u,h1,h2⟩:=Vals.get (i:=i) (x:=x) t (by simpa using e)
  exact⟨u,by simpa using h1,h2⟩
theorem Vals.set {x:V} {u:Value} (r:RelV x u):∀ {xs:List V} {us:List Value} (i:Nat),Vals xs us->Vals (xs.set i x) (us.set i u)
 | _,_,_,.nil=>.nil
 | _,_,0,.cons _ t=>.cons r t
 | _,_,i+1,.cons q t=>.cons q (Vals.set r i t)
theorem Vals.append:∀ {xs ys:List V} {us ws:List Value},Vals xs us->Vals ys ws->Vals (xs++ys) (us++ws)
 | _,_,_,_,.nil,s=>s
 | _,_,_,_,.cons r t,s=>.cons r (Vals.append t s)
theorem Vals.take:∀ {xs:List V} {us:List Value} (n:Nat),Vals xs us->Vals (xs.take n) (us.take n)
 | _,_,0,_=>.nil
 | _,_,_+1,.nil=>.nil
 | _,_,n+1,.cons r t=>.cons r (Vals.take n t)
theorem Vals.drop:∀ {xs:List V} {us:List Value} (n:Nat),Vals xs us->Vals (xs.drop n) (us.drop n)
 | _,_,0,r=>r
 | _,_,_+1,.nil=>.nil
 | _,_,n+1,.cons _ t=>Vals.drop n t
def fW:Option V->Option Value->Prop
 | some v,some u=>RelV v u
 | none,none=>True
 | _,_=>False
def KV {κ : Type}:List (κ × V)->List (κ × Value)->Prop:=Paired fun (p:κ × V) (q:κ × Value)=>p.1=q.1/\RelV p.2 q.2
def kV:Key->V
 | .inl i=>.int i
 | .inr x=>.str x
inductive HO where
 | lst (xs:List V)
 | tup (xs:List V)
 | dK (kvs:List (Key × V)) | dT (kvs:List (List Key × V))
 | set (S:Int->Bool) (n:Nat)
 | ins (C dx:Addr) (fs:List (Str × V))
 | own (x:Addr)
 | xd (fs:List (Str × V))
 | met (f x:Addr)
 | xU (lo hi:Int)
 | dB (o:Obj) (u:HO)
 | kd (ps:Array Value)
 | ext (φ : Heap->Prop)
abbrev Hp:=Addr->Option HO
def upd (H:Hp) (a:Addr) (o:HO):Hp:=fun b=>if b=a then some o else H b
theorem ae {H:Hp} {a:Addr} {o:HO}:upd H a o a=some o:=by unfold upd;rw [if_pos rfl]
theorem au {H:Hp} {a b:Addr} {o:HO} (h:b ≠ a):upd H a o b=H b:=by unfold upd;rw [if_neg h]
theorem wZ {H:Hp} {a:Addr} {o u:HO}:upd (upd H a o) a u=upd H a u:=by
 funext b;unfold upd;split <;> rfl
theorem bA {H:Hp} {a b:Addr} {o u:HO} (h:H a=some o) (h':H b=some u) (d:o ≠ u):a ≠ b:=by
 intro e;subst e;rw [h] at h';exact d (Option.some.inj h')
theorem aY {H:Hp} {a b:Addr} {o:HO} (h:H a=some o) (h':H b=none):a ≠ b:=by
 intro e;subst e;rw [h] at h';cases h'
section
variable (P:Program) (w:World)
def bS (H:Hp) (h:Heap) (a:Addr):HO->Prop
 | .lst xs=>xs.length<=sizeLine/\∃ (its:List Value) (n:Nat),Vals xs its/\h.get? a=some { cls:=.type "list",data:=.seq its.toArray n }
 | .tup xs=>xs.length<=sizeLine/\∃ its:List Value,Vals xs its/\∃ o,h.get? a=some o/\o.cls=.type "tuple" /\ ∃ n,o.data=.seq its.toArray n/\o.dict=none
 | .dK kvs=>kvs.length<=sizeLine/\(a == sysModules)=false/\∃ vs,KV kvs vs/\h.DictOf (aL P w) a vs
 | .dT kvs=>kvs.length<=sizeLine/\(a == sysModules)=false/\∃ xs:List (List Key × Addr × Value),
   Paired (fun (p:List Key × V) (q:List Key × Addr × Value)=>p.1=q.1/\H q.2.1=some (.tup (p.1.map kV))/\RelV p.2 q.2.2) kvs xs /\
   ∃ o es ep,h.get? a=some o/\o.ExactDict/\o.data=.dict es ep/\es.toList=xs.map (entryOfKey (tupleKind (aL P w)))/\(xs.map (·.1)).Nodup
 | .set S n=>h.SetOf (intKind P w) a S n
 | .ins C dx fs=>H dx=some (.own a)/\fs.length<=1000/\dx ≠ a/\h.get? a=some (PySem.W.instObj C dx) /\
   ∃ mA,h.Ns1 dx mA/\(∀ f,fW (fs.lookup f) (mA f))/\PySem.Within mA (fs.map (·.1))
 | .own _=>∃ o,h.get? a=some o
 | .xd fs=>∃ mA,h.Ns1 a mA/\∀ f,fW (fs.lookup f) (mA f)
 | .xU lo hi=>∃ t u v,h.get? a=some { cls:=.type "range",data:=.fields #[.int lo t,.int hi u,.int 1 v] }
 | .dB o u=>h.get? a=some o/\bS H h a u
 | .kd ps=>h.get? a=some { cls:=.none,data:=.fields ps }
 | .met f x=>h.get? a=some (PySem.W.methodObj (.ref f) (.ref x))
 | .ext φ=>φ h/\(∃ o,h.get? a=some o)/\∀ h1 h2:Heap,φ h1->(∀ o,h1.get? a=some o->h2.get? a=some o)->φ h2
def dG (H:Hp) (h:Heap):Prop:=∀ a o,H a=some o->bS P w H h a o
end
section
variable {P:Program} {w:World} {H H':Hp} {h h':Heap} {a:Addr} {o:HO}
theorem bS.lt (x:bS P w H h a o):a < h.objs.size:=by
 cases o with
 | lst xs=>obtain⟨_,_,_,_,e⟩:=x;exact Heap.lt_size e
 | tup xs=>obtain⟨_,_,_,p⟩:=x;exact (let ⟨o,e,_⟩:=p;Heap.lt_size e)
 | dK kvs=>obtain⟨_,_,_,_,o,_,_,e,_⟩:=x;exact Heap.lt_size e
 | dT kvs=>obtain⟨_,_,_,_,o,_,_,e,_⟩:=x;exact Heap.lt_size e
 | set S n=>obtain⟨o,_,_,_,e,_⟩:=x;exact Heap.lt_size e
 | ins C dx fs=>obtain⟨_,_,_,e,_⟩:=x;exact Heap.lt_size e
 | own y=>obtain⟨_,e⟩:=x;exact Heap.lt_size e
 | xd fs=>obtain⟨_,⟨_,_,_,e,_⟩,_⟩:=x;exact Heap.lt_size e
 | xU lo hi=>obtain⟨_,_,_,e⟩:=x;exact Heap.lt_size e
 | dB ob u=>obtain⟨e,_⟩:=x;exact Heap.lt_size e
 | kd ps=>exact Heap.lt_size (show h.get? a=some _ from x)
 | met f y=>exact Heap.lt_size (show h.get? a=some _ from x)
 | ext φ=>obtain⟨_,⟨_,e⟩,_⟩:=x;exact Heap.lt_size e
theorem Paired.uX {α β : Type} {F G:α->β->Prop}:∀ {l₁ : List α} {l₂ : List β},Paired F l₁ l₂->(∀ a b,F a b->G a b)->Paired G l₁ l₂
 | _,_,.nil,_=>.nil
 | _,_,.cons r t,f=>.cons (f _ _ r) (Paired.uX t f)
theorem bS.lY (x:bS P w H h a o) (k:∀ b u,(b=a\/H b=some (.own a))->h.get? b=some u->h'.get? b=some u)
  (ho:∀ b,H b=some (.own a)->H' b=some (.own a)) (ht:∀ b xs,H b=some (.tup xs)->H' b=some (.tup xs)):bS P w H' h' a o:=by
 induction o with
 | lst xs=>obtain⟨z,its,n,r,e⟩:=x;exact⟨z,its,n,r,k _ _ (.inl rfl) e⟩
 | tup xs=>obtain⟨z,its,r,ob,e,c⟩:=x;exact⟨z,its,r,ob,k _ _ (.inl rfl) e,c⟩
 | dK kvs=>obtain⟨z,y,vs,r,ob,es,ep,e,c⟩:=x;exact⟨z,y,vs,r,ob,es,ep,k _ _ (.inl rfl) e,c⟩
 | dT kvs =>
  obtain⟨z,y,xs,r,ob,es,ep,e,c⟩:=x
  exact⟨z,y,xs,Paired.uX r fun p q z=>⟨z.1,ht _ _ z.2.1,z.2.2⟩,ob,es,ep,k _ _ (.inl rfl) e,c⟩
 | set S n=>obtain⟨ob,es,ep,t,e,c⟩:=x;exact⟨ob,es,ep,t,k _ _ (.inl rfl) e,c⟩
 | ins C dx fs =>
  obtain⟨d,z,ne,e,mA,⟨od,es,ep,e2,c⟩,r⟩:=x
  exact⟨ho _ d,z,ne,k _ _ (.inl rfl) e,mA,⟨od,es,ep,k _ _ (.inr d) e2,c⟩,r⟩
 | own y=>obtain⟨ob,e⟩:=x;exact⟨ob,k _ _ (.inl rfl) e⟩
 | xd fs=>obtain⟨mA,⟨od,es,ep,e,c⟩,r⟩:=x;exact⟨mA,⟨od,es,ep,k _ _ (.inl rfl) e,c⟩,r⟩
 | xU lo hi=>obtain⟨t,u,v,e⟩:=x;exact⟨t,u,v,k _ _ (.inl rfl) e⟩
 | dB ob u ih=>obtain⟨e,q⟩:=x;exact⟨k _ _ (.inl rfl) e,ih q⟩
 | kd ps =>
  have e:h.get? a=some { cls:=.none,data:=.fields ps }:=x
  show h'.get? a=some { cls:=.none,data:=.fields ps }
  exact k a _ (.inl rfl) e
 | met f y =>
  have e:h.get? a=some (PySem.W.methodObj (.ref f) (.ref y)):=x
  show h'.get? a=some (PySem.W.methodObj (.ref f) (.ref y))
  exact k a _ (.inl rfl) e
 | ext φ=>obtain⟨p,⟨o,e⟩,st⟩:=x;exact⟨st _ _ p fun o q=>k _ _ (.inl rfl) q,⟨o,k _ _ (.inl rfl) e⟩,st⟩
theorem dG.lt (x:dG P w H h) (e:H a=some o):a < h.objs.size:=(x a o e).lt
theorem dG.fresh (x:dG P w H h) (e:h.objs.size<=a):H a=none:=by
 cases q:H a with
 | none=>rfl
 | some u=>exact absurd (Nat.lt_of_lt_of_le (x.lt q) e) (Nat.lt_irrefl _)
theorem dG.kept (x:dG P w H h) (k:∀ b u,h.get? b=some u->h'.get? b=some u):dG P w H h':=fun a o e =>
 (x a o e).lY (fun b u _ q=>k b u q) (fun _ q=>q) fun _ _ q=>q
theorem dG.laid (x:dG P w H h) (k:∀ b u,h.get? b=some u->h'.get? b=some u) (hp:h.objs.size<=a) (new:bS P w (upd H a o) h' a o):dG P w (upd H a o) h':=fun b u e=>by
 have hn:=x.fresh hp
 by_cases hb:b=a
 ·subst hb;rw [ae] at e;cases e;exact new
 ·rw [au hb] at e
  exact (x b u e).lY (fun c v _ q=>k c v q) (fun c q=>by rw [au (aY q hn)];exact q) fun c xs q=>by rw [au (aY q hn)];exact q
end
def Rd (H:Hp) (a:Addr) (u:HO):Prop:=H a=some u\/∃ o,H a=some (.dB o u)
theorem Rd.ok {P:Program} {w:World} {H:Hp} {h:Heap} {a:Addr} {u:HO} (r:Rd H a u) (x:dG P w H h):bS P w H h a u:=by
 rcases r with r | ⟨o,r⟩
 ·exact x a u r
 ·obtain⟨_,q⟩:=x a _ r
  exact q
def tN:Option HO->Prop
 | some (.lst _)=>True
 | some (.dK _)=>True
 | some (.dT _)=>True
 | some (.set _ _)=>True
 | some (.ins _ _ _)=>True
 | some (.ext _)=>True
 | _=>False
section
variable {P:Program} {w:World} {H:Hp} {h h':Heap} {x e:Addr} {o':HO}
theorem dG.write (ok:dG P w H h) (mu:tN (H x)) (he:e=x\/H e=some (.own x)) (k:∀ b u,b ≠ e->h.get? b=some u->h'.get? b=some u) (heo:∃ u,h'.get? e=some u)
  (new:bS P w (upd H x o') h' x o'):dG P w (upd H x o') h':=fun b u q=>by
 have nown:∀ c y,H c=some (.own y)->c ≠ x:=fun c y r z=>by subst z;rw [r] at mu;exact mu
 have ntup:∀ c xs,H c=some (.tup xs)->c ≠ x:=fun c xs r z=>by subst z;rw [r] at mu;exact mu
 by_cases hb:b=x
 ·subst hb;rw [ae] at q;cases q;exact new
 ·rw [au hb] at q
  by_cases hbe:b=e
  ·have q':H b=some (.own x):=by
    rcases he with z | z
    ·exact absurd (hbe.trans z) hb
    ·rw [hbe];exact z
   rw [q] at q';cases q'
   obtain⟨v,hv⟩:=heo
   exact⟨v,by rw [hbe];exact hv⟩
  ·refine (ok b u q).lY (fun c v hc r=>k c v ?_ r) (fun c r=>by rw [au (nown c b r)];exact r) fun c xs r=>by rw [au (ntup c xs r)];exact r
   rcases hc with rfl | hc
   ·exact hbe
   ·rintro rfl
    rcases he with z | z
    ·exact nown c b hc z
    ·rw [hc] at z;cases z;exact hb rfl
end
structure Un (fs ex:List Addr) (H H':Hp) (h h':Heap):Prop where
 keep:∀ b o,h.get? b=some o->H b=none->b ∉ fs->b ∉ ex->h'.get? b=some o
 slot:∀ b o,h.get? b=some o->H b=none->b ∈ fs->b ∉ ex->∃ sl,h'.get? b=some { o with slots:=sl }
 free:∀ b o,h.get? b=some o->H b=none->b ∉ ex->H' b=none
 there:∀ b o,h.get? b=some o->b ∉ ex->∃ o',h'.get? b=some o'
 aI:∀ b xs,H b=some (.tup xs)->H' b=some (.tup xs)
 iH:∀ b o u,H b=some (.dB o u)->H' b=some (.dB o u)
 iX:∀ b ps,H b=some (.kd ps)->∃ more,H' b=some (.kd (ps++more))
section
variable {fs fs' ex ex':List Addr} {H H1 H2:Hp} {h h1 h2 h':Heap} {a x e:Addr} {o:HO}
theorem Un.any (u:Un fs ex H H1 h h1) {b:Addr} {ob:Obj} (q:h.get? b=some ob) (n:H b=none) (hx:b ∉ ex):∃ sl,h1.get? b=some { ob with slots:=sl }:=by
 by_cases hb:b ∈ fs
 ·exact u.slot b ob q n hb hx
 ·exact⟨ob.slots,u.keep b ob q n hb hx⟩
theorem Un.kept (k:∀ b u,h.get? b=some u->h'.get? b=some u):Un fs ex H H h h' :=
 ⟨fun b ob q _ _ _=>k b ob q,fun b ob q _ _ _=>⟨ob.slots,k b ob q⟩,fun _ _ _ n _=>n,fun b ob q _=>⟨ob,k b ob q⟩,fun _ _ q=>q,fun _ _ _ q=>q,fun _ ps q=>⟨#[],by rw [q];simp⟩⟩
theorem Un.refl:Un fs ex H H h h:=Un.kept fun _ _ q=>q
theorem Un.laid (k:∀ b u,h.get? b=some u->h'.get? b=some u) (hp:h.objs.size<=a) (hn:H a=none):Un fs ex H (upd H a o) h h' where
 keep:=fun b u q _ _ _=>k b u q
 slot:=fun b u q _ _ _=>⟨u.slots,k b u q⟩
 free:=fun b u q n _=>by rw [au (Nat.ne_of_lt (Nat.lt_of_lt_of_le (Heap.lt_size q) hp))];exact n
 there:=fun b u q _=>⟨u,k b u q⟩
 aI:=fun b xs q=>by rw [au (aY q hn)];exact q
 iH:=fun b u xs q=>by rw [au (aY q hn)];exact q
 iX:=fun b ps q=>⟨#[],by rw [au (aY q hn),q];simp⟩
theorem Un.write (mu:tN (H x)) (he:e=x\/H e=some (.own x)) (k:∀ b u,b ≠ e->h.get? b=some u->h'.get? b=some u) (heo:∃ u,h'.get? e=some u):Un fs ex H (upd H x o) h h':=by
  have hx:∀ b,H b=none->b ≠ x:=fun b n z=>by subst z;rw [n] at mu;exact mu
  have hb:∀ b,H b=none->b ≠ e:=fun b n z=>by
    subst z
    rcases he with r | r
    · exact hx b n r
    · rw [n] at r;cases r
  have hm:∀ b u,H b=some u->¬ tN (some u)->b ≠ x:=fun b u q nm z=>by subst z;rw [q] at mu;exact nm mu
  refine⟨fun b u q n _ _=>k b u (hb b n) q,fun b u q n _ _=>⟨u.slots,k b u (hb b n) q⟩,fun b u q n _=>by rw [au (hx b n)];exact n,fun b u q _=>?_,
    fun b xs q=>by rw [au (hm b _ q fun z=>z)];exact q,fun b u xs q=>by rw [au (hm b _ q fun z=>z)];exact q,fun b ps q=>⟨#[],by rw [au (hm b _ q fun z=>z),q];simp⟩⟩
  by_cases hbe:b=e
  · subst hbe;exact heo
  · exact⟨u,k b u hbe q⟩
end
def wC (h:Heap) (H:Hp):List Addr:=(List.range h.objs.size).filter fun a=>(H a).isSome
def jQ (h:Heap) (H:Hp):Heap:=PySem.W.hideAll h (wC h H)
theorem tO (h:Heap) (H:Hp):(jQ h H).objs.size=h.objs.size:=PySem.W.hideAll_size _ _
theorem uY {h:Heap} {H:Hp} {b:Addr} {o:Obj} (e:h.get? b=some o) (n:H b=none):(jQ h H).get? b=some o :=
 PySem.W.hideAll_get _ e fun hm=>by
  have q:(H b).isSome=true:=(List.mem_filter.mp hm).2
  rw [n] at q;simp at q
theorem w4 {h:Heap} {H:Hp} {b:Addr} {o:Obj} (e:(jQ h H).get? b=some o):h.get? b=some o/\H b=none:=by
 have e':h.get? b=some o:=PySem.W.of_hideAll (wC h H) e
 refine⟨e',?_⟩
 cases q:H b with
 | none=>rfl
 | some x =>
  have hm:b ∈ wC h H:=List.mem_filter.mpr ⟨List.mem_range.mpr (Heap.lt_size e'),by simp [q]⟩
  have z:(jQ h H).get? b=none:=PySem.W.hideAll_none (wC h H) hm
  rw [z] at e;cases e
def w5 (g h:Heap) (L:Addr):List (Addr × Obj):=(List.range h.objs.size).filterMap fun a=>if a=L\/(g.get? a).isSome=true then none else (h.get? a).map fun o=>(a,o)
def rest (g h:Heap) (L d:Addr):List (Addr × Obj):=(w5 g h L).filter fun p=>decide (p.1 ≠ d)
structure Mod (K:PySem.W.Frag) (mg:Str->Option Value) (base:Heap):Prop where
 xV:K.In base
 glob:base.Ns mainGlobals mg
 blt:∃ mb,base.Ns builtinsNs mb/\∀ x:Str,x ≠ "__name__" -> mb x=bootBuiltins x
 nolimit:base.NoLimit
structure Cx where
 prog:Program
 w:World
 K:PySem.W.Frag
 mg:Str->Option Value
 base:Heap
 A:Around
 N:List Str
 du:Shared
 jR:Hp
 env:Env
 outer:List Env
 stack:List Env
 ex:List Addr
 fn:Str->Bool
 calm:Bool
 pn:List (Addr × Obj)
 xe:Value->Shared->Prop
def ke (l:List Env):List Addr:=l.filterMap (·.frame)
abbrev Cx.fs (X:Cx):List Addr:=ke X.outer
def xW (sc:Scope) (x:Str):Prop:=sc.names.lookup x=some .local\/sc.names.lookup x=some .cell\/sc.names.lookup x=some .free
def Loc (sc:Scope) (x:Str):Prop:=sc.names.lookup x=some .local\/sc.names.lookup x=some .cell
def Look (env:Env) (h:Heap) (m:Str->Option Value) (x:Str) (u:Value):Prop :=
 (env.kindOf x=some .local/\m x=some u)\/((env.kindOf x=some .cell\/env.kindOf x=some .free)/\∃ c,env.cells.lookup x=some c/\h.IsCell c (some u))
structure Cx.Ok (X:Cx):Prop where
 mod:Mod X.K X.mg X.base
 kind:X.env.scope.kind=.function
 glob:X.env.globals=mainGlobals
 blt:X.env.builtins=builtinsNs
 above:X.du.heap.objs.size<=X.env.locals
 inj:∀ x y c,X.env.cells.lookup x=some c->X.env.cells.lookup y=some c->x=y
 has:∀ x,(X.env.kindOf x=some .cell\/X.env.kindOf x=some .free)->∃ c,X.env.cells.lookup x=some c
 tP:∀ x c,X.fn x=true->X.env.cells.lookup x=some c->X.du.heap.objs.size<=c
 hd:X.calm=true->X.A.handled=none
 frames:X.A.frames=some X.stack
 wF:X.stack=X.outer\/(X.stack=X.env :: X.outer/\X.env.frame=some X.env.locals)
 zu:∀ b ∈ X.ex,b ≠ X.env.locals/\∀ x c,X.env.cells.lookup x=some c->c ≠ b
 bs:∀ b o,X.base.get? b=some o->X.du.heap.get? b=some o/\X.jR b=none
 n5:X.base.objs.size<=X.du.heap.objs.size
 ph:∀ b o,X.base.get? b=some o->b ∉ X.ex
 sg:∀ b ∈ X.ex,b ∉ X.fs
 iY:X.du.heap.FunFrames X.base X.outer
 rq:∀ b ∈ X.fs,X.jR b=none
structure Inv (X:Cx) (pins:List (Addr × Obj)) (σ : List (Option V)) (H:Hp) (s:Shared):Prop where
 ok:X.Ok
 os:s.os=X.du.os
 bare:AllBare s.gens
 base:Un X.fs X.ex X.jR H X.du.heap s.heap
 loc:∃ m,s.heap.Ns X.env.locals m/\∀ (i:Nat) (x:Str) (v:V),X.N[i]? = some x->σ[i]? = some (some v)->xW X.env.scope x->∃ u,RelV v u/\Look X.env s.heap m x u
 cell:∀ x c,X.env.cells.lookup x=some c->∃ v,s.heap.IsCell c v
 free:H X.env.locals=none
 d8:∀ x c,X.env.cells.lookup x=some c->H c=none
 pin:∀ p ∈ X.pn++pins,s.heap.get? p.1=some p.2/\H p.1=none/\p.1 ≠ X.env.locals/\p.1 ∉ X.fs/\∀ v,p.2.data ≠ .cell v
 aG:dG X.prog X.w H s.heap
 len:σ.length=X.N.length
section
variable {X:Cx} {pins:List (Addr × Obj)} {σ : List (Option V)} {H H':Hp} {s:Shared} {h':Heap}
theorem Cx.Ok.zH (ok:X.Ok) {b:Addr} {o:Obj} (e:X.base.get? b=some o):b ∉ X.fs:=fun hb=>by
 have:=(ok.iY.mem hb).1
 rw [e] at this;cases this
theorem Inv.bs (I:Inv X pins σ H s):∀ b o,X.base.get? b=some o->s.heap.get? b=some o/\H b=none:=fun b o e =>
 ⟨I.base.keep b o (I.ok.bs b o e).1 (I.ok.bs b o e).2 (I.ok.zH e) (I.ok.ph b o e),I.base.free b o (I.ok.bs b o e).1 (I.ok.bs b o e).2 (I.ok.ph b o e)⟩
theorem Inv.bk (I:Inv X pins σ H s):∀ b o,X.base.get? b=some o->s.heap.get? b=some o:=fun b o e=>(I.bs b o e).1
theorem Inv.mod (I:Inv X pins σ H s):Mod X.K X.mg X.base:=I.ok.mod
theorem Inv.oa (I:Inv X pins σ H s):X.K.In s.heap:=I.ok.mod.xV.keeps I.bk
theorem Inv.lt (I:Inv X pins σ H s):X.env.locals < s.heap.objs.size:=let ⟨_,hn,_⟩:=I.loc;hn.lt
theorem Inv.sz (I:Inv X pins σ H s):X.du.heap.objs.size<=s.heap.objs.size:=Nat.le_trans I.ok.above (Nat.le_of_lt I.lt)
theorem Inv.zI (I:Inv X pins σ H s) {a:Addr} (h:s.heap.objs.size<=a):a ∉ X.fs:=fun hb=>by
 obtain⟨_,o,ho,_⟩:=I.ok.iY.mem hb
 exact absurd (Nat.lt_of_lt_of_le (Heap.lt_size ho) (Nat.le_trans I.sz h)) (Nat.lt_irrefl _)
theorem Inv.pA (I:Inv X pins σ H s):∀ x c,X.env.cells.lookup x=some c->c ≠ X.env.locals:=fun x c e z=>by
 obtain⟨v,o,ho,hd⟩:=I.cell x c e
 obtain⟨m,⟨o',es,ep,ho',hd',_⟩,_⟩:=I.loc
 rw [z,ho'] at ho;cases ho;rw [hd'] at hd;cases hd
theorem Inv.iY (I:Inv X pins σ H s):s.heap.FunFrames X.base X.outer:=by
 have all:∀ (l:List Env),(∀ b ∈ ke l,b ∈ X.fs)->X.du.heap.FunFrames X.base l->s.heap.FunFrames X.base l:=by
  intro l
  induction l with
  | nil=>intro _ _;trivial
  | cons env r ih =>
   intro hs hl
   obtain⟨hk,⟨L,o,hf,hn,ho,hd⟩,hr⟩:=hl
   have hL:L ∈ X.fs:=hs L (by unfold ke;rw [List.filterMap_cons,hf];exact List.mem_cons_self)
   obtain⟨sl,e⟩:=I.base.slot L o ho (I.ok.rq L hL) hL fun z=>I.ok.sg L z hL
   exact⟨hk,⟨L,_,hf,hn,e,hd⟩,ih (fun b hb=>hs b (by unfold ke;rw [List.filterMap_cons,hf];exact List.mem_cons_of_mem _ hb)) hr⟩
 exact all X.outer (fun _ hb=>hb) I.ok.iY
theorem Inv.stack (I:Inv X pins σ H s):s.heap.FunFrames X.base X.stack:=by
 rcases I.ok.wF with e | ⟨e,hf⟩
 ·rw [e];exact I.iY
 ·rw [e]
  obtain⟨m,hn,_⟩:=I.loc
  refine .cons (by rw [I.ok.kind];decide) hf hn ?_ I.iY
  exact Heap.get?_none_of_le (Nat.le_trans I.ok.n5 I.ok.above)
theorem Inv.kh (I:Inv X pins σ H s):∀ b ∈ ke X.stack,b ∈ X.env.locals :: X.fs:=fun b hb=>by
 rcases I.ok.wF with e | ⟨e,hf⟩
 ·rw [e] at hb;exact List.mem_cons_of_mem _ hb
 ·rw [e] at hb
  unfold ke at hb
  rw [List.filterMap_cons,hf] at hb
  exact hb
theorem Inv.rA (I:Inv X pins σ H s):∀ b ∈ ke X.stack,H b=none:=fun b hb=>by
 rcases List.mem_cons.mp (I.kh b hb) with e | hb
 ·rw [e];exact I.free
 ·obtain⟨_,o,ho,_⟩:=I.ok.iY.mem hb
  exact I.base.free b o ho (I.ok.rq b hb) fun z=>I.ok.sg b z hb
theorem Inv.step {g':Array GenState} {t':Nat} {d':Drawn} {ch:List Addr} (I:Inv X pins σ H s)
  (hch:∀ b ∈ ch,(b ∈ X.ex\/X.du.heap.objs.size<=b)/\b ≠ X.env.locals/\(∀ x c,X.env.cells.lookup x=some c->c ≠ b)/\∀ p ∈ X.pn++pins,p.1 ≠ b)
  (keep:∀ b o,b ≠ X.env.locals->b ∉ X.fs->b ∉ ch->s.heap.get? b=some o->H b=none->h'.get? b=some o)
  (slot:∀ b o,b ≠ X.env.locals->b ∈ X.fs->b ∉ ch->s.heap.get? b=some o->H b=none->∃ sl,h'.get? b=some { o with slots:=sl }) (free:∀ b o,b ∉ ch->s.heap.get? b=some o->H b=none->H' b=none)
  (there:∀ b o,b ∉ ch->s.heap.get? b=some o->∃ o',h'.get? b=some o')
  (aI:∀ b xs,H b=some (.tup xs)->H' b=some (.tup xs)) (iH:∀ b o u,H b=some (.dB o u)->H' b=some (.dB o u)) (iX:∀ b ps,H b=some (.kd ps)->∃ more,H' b=some (.kd (ps++more)))
  (ns:∀ m,s.heap.Ns X.env.locals m->h'.Ns X.env.locals m) (aG:dG X.prog X.w H' h') (hg:AllBare g') :
  Inv X pins σ H' { s with heap:=h',gens:=g',drawn:=d',toks:=t' }:=by
 have neL:∀ b o,X.du.heap.get? b=some o->b ≠ X.env.locals:=fun b o e=>Nat.ne_of_lt (Nat.lt_of_lt_of_le (Heap.lt_size e) I.ok.above)
 have neC:∀ b o,X.du.heap.get? b=some o->b ∉ X.ex->b ∉ ch:=fun b o e hx hb=>by
  rcases (hch b hb).1 with z | z
  ·exact hx z
  ·exact absurd (Nat.lt_of_lt_of_le (Heap.lt_size e) z) (Nat.lt_irrefl _)
 have cellK:∀ x c,X.env.cells.lookup x=some c->∀ v,s.heap.IsCell c v->h'.IsCell c v:=fun x c e v ⟨o,ho,hd⟩=>by
  have nch:c ∉ ch:=fun z=>(hch c z).2.2.1 x c e rfl
  by_cases hc:c ∈ X.fs
  ·obtain⟨sl,q⟩:=slot c o (I.pA x c e) hc nch ho (I.d8 x c e)
   exact⟨_,q,hd⟩
  ·exact⟨o,keep c o (I.pA x c e) hc nch ho (I.d8 x c e),hd⟩
 refine⟨I.ok,I.os,hg,⟨fun b o e n hb hx=>?_,fun b o e n hb hx=>?_,fun b o e n hx=>?_,fun b o e hx=>?_,fun b xs e=>aI b xs (I.base.aI b xs e),fun b o xs e=>iH b o xs (I.base.iH b o xs e),fun b ps e=>?_⟩,?_,fun x c e=>?_,?_,fun x c e=>?_,fun p hp=>?_,aG,I.len⟩
 ·exact keep b o (neL b o e) hb (neC b o e hx) (I.base.keep b o e n hb hx) (I.base.free b o e n hx)
 ·obtain⟨sl,e1⟩:=I.base.slot b o e n hb hx
  obtain⟨sl',e2⟩:=slot b _ (neL b o e) hb (neC b o e hx) e1 (I.base.free b o e n hx)
  exact⟨sl',e2⟩
 ·obtain⟨o',e1⟩:=I.base.there b o e hx
  exact free b o' (neC b o e hx) e1 (I.base.free b o e n hx)
 ·obtain⟨o',e1⟩:=I.base.there b o e hx
  exact there b o' (neC b o e hx) e1
 ·obtain⟨m1,e1⟩:=I.base.iX b ps e
  obtain⟨m2,e2⟩:=iX b _ e1
  exact⟨m1++m2,by rw [e2,Array.append_assoc]⟩
 ·obtain⟨m,hn,hl⟩:=I.loc
  refine⟨m,ns m hn,fun i x v e1 e2 e3=>?_⟩
  obtain⟨u,r,l⟩:=hl i x v e1 e2 e3
  refine⟨u,r,?_⟩
  rcases l with l | ⟨k,c,e,z⟩
  ·exact .inl l
  ·exact .inr ⟨k,c,e,cellK x c e _ z⟩
 ·obtain⟨v,z⟩:=I.cell x c e
  exact⟨v,cellK x c e v z⟩
 ·obtain⟨m,⟨o,_,_,ho,_⟩,_⟩:=I.loc
  exact free _ o (fun z=>(hch _ z).2.1 rfl) ho I.free
 ·obtain⟨v,o,ho,hd⟩:=I.cell x c e
  exact free c o (fun z=>(hch c z).2.2.1 x c e rfl) ho (I.d8 x c e)
 ·obtain⟨e,n,ne,nf,d⟩:=I.pin p hp
  have nch:p.1 ∉ ch:=fun z=>(hch p.1 z).2.2.2 p hp rfl
  exact⟨keep p.1 p.2 ne nf nch e n,free p.1 p.2 nch e n,ne,nf,d⟩
theorem Inv.un {t':Nat} (I:Inv X pins σ H s) (u:Un X.fs [] H H' s.heap h') (aG:dG X.prog X.w H' h'):Inv X pins σ H' { s with heap:=h',toks:=t' }:=by
  obtain⟨m,⟨o,es,ep,ho,r⟩,_⟩:=id I.loc
  obtain⟨sl,hL⟩:=u.any ho I.free (by simp)
  exact I.step (g':=s.gens) (d':=s.drawn) (ch:=[]) (fun _ z=>nomatch z) (fun b o _ hb _ e n=>u.keep b o e n hb (by simp)) (fun b o _ hb _ e n=>u.slot b o e n hb (by simp)) (fun b o _ e n=>u.free b o e n (by simp)) (fun b o _ e=>u.there b o e (by simp)) u.aI u.iH u.iX (fun m' hm=>by
    obtain⟨o',es',ep',ho',r'⟩:=hm
    rw [ho] at ho';cases ho'
    exact⟨_,es',ep',hL,r'⟩) aG I.bare
theorem Inv.call {g':Array GenState} {t':Nat} {d':Drawn} {ch:List Addr} (I:Inv X pins σ H s) (u:Un (ke X.stack) ch H H' s.heap h') (aG:dG X.prog X.w H' h') (hg:AllBare g')
  (hch:∀ b ∈ ch,(b ∈ X.ex\/X.du.heap.objs.size<=b)/\b ≠ X.env.locals/\(∀ x c,X.env.cells.lookup x=some c->c ≠ b)/\∀ p ∈ X.pn++pins,p.1 ≠ b) :
  Inv X pins σ H' { s with heap:=h',gens:=g',drawn:=d',toks:=t' }:=by
 obtain⟨m,⟨o,es,ep,ho,r⟩,_⟩:=id I.loc
 obtain⟨sl,hL⟩:=u.any ho I.free fun z=>(hch _ z).2.1 rfl
 exact I.step (ch:=ch) hch (fun b o hL hb hc e n=>u.keep b o e n (fun z=>(List.mem_cons.mp (I.kh b z)).elim hL hb) hc) (fun b o _ _ hc e n=>u.any e n hc) (fun b o hc e n=>u.free b o e n hc) (fun b o hc e=>u.there b o e hc) u.aI u.iH u.iX (fun m' hm=>by
  obtain⟨o',es',ep',ho',r'⟩:=hm
  rw [ho] at ho';cases ho'
  exact⟨_,es',ep',hL,r'⟩) aG hg
theorem Inv.turned {t':Nat} {it:Addr} (I:Inv X pins σ H s) (k:∀ b o,b ≠ it->s.heap.get? b=some o->h'.get? b=some o) (hn:H it=none) (hL:it ≠ X.env.locals)
  (h1:it ∈ X.ex\/X.du.heap.objs.size<=it) (h2:∀ x c,X.env.cells.lookup x=some c->c ≠ it) (h3:∀ p ∈ X.pn++pins,p.1 ≠ it):Inv X pins σ H { s with heap:=h',toks:=t' }:=by
 have nit:∀ b u,H b=some u->b ≠ it:=fun b u e z=>by rw [z,hn] at e;cases e
 refine I.step (g':=s.gens) (d':=s.drawn) (ch:=[it]) (fun b hb=>?_) (fun b o _ _ hc e _=>k b o (fun z=>hc (by simp [z])) e) (fun b o _ _ hc e _=>⟨o.slots,k b o (fun z=>hc (by simp [z])) e⟩) (fun _ _ _ _ n=>n)
  (fun b o hc e=>⟨o,k b o (fun z=>hc (by simp [z])) e⟩) (fun _ _ e=>e) (fun _ _ _ e=>e) (fun b ps e=>⟨#[],by rw [e];simp⟩) (fun m hm=>?_) (fun b u e=>?_) I.bare
 ·have e:b=it:=by simpa using hb
  subst e
  exact⟨h1,hL,h2,h3⟩
 ·obtain⟨o,es,ep,ho,r⟩:=hm
  exact⟨o,es,ep,k _ o (Ne.symm hL) ho,r⟩
 ·refine (I.aG b u e).lY (fun c v hc q=>k c v ?_ q) (fun _ q=>q) fun _ _ q=>q
  rcases hc with z | z
  ·rw [z];exact nit b u e
  ·exact nit c _ z
theorem Inv.tok (I:Inv X pins σ H s) (t:Nat):Inv X pins σ H { s with toks:=t }:=I.un (h':=s.heap) (t':=t) Un.refl I.aG
theorem Inv.kept {t':Nat} (I:Inv X pins σ H s) (k:∀ b u,s.heap.get? b=some u->h'.get? b=some u):Inv X pins σ H { s with heap:=h',toks:=t' }:=I.un (Un.kept k) (I.aG.kept k)
theorem Inv.laid {a:Addr} {o:HO} {t':Nat} (I:Inv X pins σ H s) (k:∀ b u,s.heap.get? b=some u->h'.get? b=some u) (hp:s.heap.objs.size<=a) (new:bS X.prog X.w (upd H a o) h' a o) :
  Inv X pins σ (upd H a o) { s with heap:=h',toks:=t' }:=I.un (Un.laid k hp (I.aG.fresh hp)) (I.aG.laid k hp new)
theorem Inv.write {x e:Addr} {o:HO} {t':Nat} (I:Inv X pins σ H s) (mu:tN (H x)) (he:e=x\/H e=some (.own x)) (k:∀ b u,b ≠ e->s.heap.get? b=some u->h'.get? b=some u) (heo:∃ u,h'.get? e=some u)
  (new:bS X.prog X.w (upd H x o) h' x o):Inv X pins σ (upd H x o) { s with heap:=h',toks:=t' }:=I.un (Un.write mu he k heo) (I.aG.write mu he k heo new)
theorem Inv.rB {pins':List (Addr × Obj)} (I:Inv X pins σ H s) (h:∀ p ∈ pins',s.heap.get? p.1=some p.2/\H p.1=none/\p.1 ≠ X.env.locals/\p.1 ∉ X.fs/\∀ v,p.2.data ≠ .cell v):Inv X pins' σ H s :=
 ⟨I.ok,I.os,I.bare,I.base,I.loc,I.cell,I.free,I.d8,fun p hp=>(List.mem_append.mp hp).elim (fun z=>I.pin p (List.mem_append_left _ z)) (h p),I.aG,I.len⟩
theorem pB {N:List Str} (hN:N.Nodup) {i j:Nat} {x:Str} (a:N[i]? = some x) (b:N[j]? = some x):i=j:=by
 obtain⟨h1,e1⟩:=List.getElem?_eq_some_iff.mp a
 obtain⟨h2,e2⟩:=List.getElem?_eq_some_iff.mp b
 exact (List.getElem_inj hN).mp (e1.trans e2.symm)
theorem og {M:Model} {A:Around} {E:Value->Shared->Prop} {i:Nat} {x:Str} {v:V} {u:Value} {Q:Unit->Shared->Prop} (I:Inv X pins σ H s) (hN:X.N.Nodup) (hi:X.N[i]? = some x) (hx:Loc X.env.scope x) (r:RelV v u)
  (h:∀ s',Inv X pins (σ.set i (some v)) H s'->(∃ a,Heap.SameBut a s.heap s'.heap/\(a=X.env.locals\/X.env.cells.lookup x=some a))->Q () s') (hf:X.fn x=true\/X.env.scope.names.lookup x=some .local:=by first | exact .inl rfl | exact .inr rfl | assumption):wpAny M A (storeName X.env x u) Q E s:=by
 obtain⟨m,hn,hl⟩:=id I.loc
 have hcls:(X.env.scope.kind == .class || (X.env.scope.kind == .module && X.env.locals != X.env.globals))=false:=by rw [I.ok.kind];rfl
 have hiσ : i < σ.length:=by rw [I.len];exact (List.getElem?_eq_some_iff.mp hi).1
 have pA:=I.pA
 have tracked:∀ {a:Addr} {h':Heap},(∃ o,s.heap.get? a=some o/\H a=none)->Heap.SameBut a s.heap h'->dG X.prog X.w H h':=fun {a h'} ha hs b ob e=>by
  obtain⟨_,_,hfree⟩:=ha
  refine (I.aG b ob e).lY (fun c w' hc q=>(hs.2 c ?_).trans q) (fun _ q=>q) fun _ _ q=>q
  rintro rfl
  rcases hc with rfl | hc
  ·rw [hfree] at e;cases e
  ·rw [hfree] at hc;cases hc
 rcases hx with hk | hk
 ·refine wpAny_storeName_local hk hn (fun h' hn' hs=>?_) hcls
  obtain⟨oL,_,_,hoL,_⟩:=id hn
  refine h _ ⟨I.ok,I.os,I.bare,⟨fun b o e n hb hx=>?_,fun b o e n hb hx=>?_,I.base.free,fun b o e hx=>?_,I.base.aI,I.base.iH,I.base.iX⟩,⟨_,hn',fun j y v' e1 e2 e3=>?_⟩,fun y c e=>?_,I.free,I.d8,fun p hp=>?_,tracked ⟨oL,hoL,I.free⟩ hs,by simpa using I.len⟩ ⟨_,hs,.inl rfl⟩
  ·exact (hs.2 b (Nat.ne_of_lt (Nat.lt_of_lt_of_le (Heap.lt_size e) I.ok.above))).trans (I.base.keep b o e n hb hx)
  ·obtain⟨sl,e1⟩:=I.base.slot b o e n hb hx
   exact⟨sl,(hs.2 b (Nat.ne_of_lt (Nat.lt_of_lt_of_le (Heap.lt_size e) I.ok.above))).trans e1⟩
  ·obtain⟨o',e1⟩:=I.base.there b o e hx
   exact⟨o',(hs.2 b (Nat.ne_of_lt (Nat.lt_of_lt_of_le (Heap.lt_size e) I.ok.above))).trans e1⟩
  ·by_cases hj:j=i
   ·subst hj
    rw [hi] at e1;cases e1
    rw [List.getElem?_set_self hiσ] at e2
    cases e2
    exact⟨u,r,.inl ⟨hk,by simp⟩⟩
   ·rw [List.getElem?_set_ne (Ne.symm hj)] at e2
    obtain⟨u',r',q⟩:=hl j y v' e1 e2 e3
    refine⟨u',r',?_⟩
    rcases q with ⟨k,e⟩ | ⟨k,c,e,z⟩
    ·refine .inl ⟨k,?_⟩
     have:y ≠ x:=fun e=>hj (pB hN e1 (e ▸ hi))
     simp [this,e]
    ·exact .inr ⟨k,c,e,z.sameBut hs (pA y c e)⟩
  ·obtain⟨w',z⟩:=I.cell y c e
   exact⟨w',z.sameBut hs (pA y c e)⟩
  ·obtain⟨e,n,ne,nf,d⟩:=I.pin p hp
   exact⟨(hs.2 p.1 ne).trans e,n,ne,nf,d⟩
 ·have hfn:X.fn x=true:=by
   rcases hf with z | z
   ·exact z
   ·rw [z] at hk;cases hk
  obtain⟨c,hc⟩:=I.ok.has x (.inl hk)
  obtain⟨w',z⟩:=I.cell x c hc
  refine wpAny_storeName_cell I.ok.kind hk hc z (fun h' hc' hs=>?_)
  obtain⟨oc,hoc,hocd⟩:=id z
  refine h { s with heap:=h' } ⟨I.ok,I.os,I.bare,⟨fun b o e n hb hx=>?_,fun b o e n hb hx=>?_,I.base.free,fun b o e hx=>?_,I.base.aI,I.base.iH,I.base.iX⟩,⟨m,hn.sameBut hs (Ne.symm (pA x c hc)),fun j y v' e1 e2 e3=>?_⟩,fun y c' e=>?_,I.free,I.d8,fun p hp=>?_,tracked ⟨oc,hoc,I.d8 x c hc⟩ hs,by simpa using I.len⟩ ⟨c,hs,.inr hc⟩
  ·exact (hs.2 b (Nat.ne_of_lt (Nat.lt_of_lt_of_le (Heap.lt_size e) (I.ok.tP x c hfn hc)))).trans (I.base.keep b o e n hb hx)
  ·obtain⟨sl,e1⟩:=I.base.slot b o e n hb hx
   exact⟨sl,(hs.2 b (Nat.ne_of_lt (Nat.lt_of_lt_of_le (Heap.lt_size e) (I.ok.tP x c hfn hc)))).trans e1⟩
  ·obtain⟨o',e1⟩:=I.base.there b o e hx
   exact⟨o',(hs.2 b (Nat.ne_of_lt (Nat.lt_of_lt_of_le (Heap.lt_size e) (I.ok.tP x c hfn hc)))).trans e1⟩
  ·by_cases hj:j=i
   ·subst hj
    rw [hi] at e1;cases e1
    rw [List.getElem?_set_self hiσ] at e2
    cases e2
    exact⟨u,r,.inr ⟨.inl hk,c,hc,hc'⟩⟩
   ·rw [List.getElem?_set_ne (Ne.symm hj)] at e2
    obtain⟨u',r',q⟩:=hl j y v' e1 e2 e3
    refine⟨u',r',?_⟩
    rcases q with q | ⟨k,c',e,z'⟩
    ·exact .inl q
    ·refine .inr ⟨k,c',e,z'.sameBut hs ?_⟩
     rintro rfl
     exact hj (pB hN e1 (I.ok.inj _ _ _ e hc ▸ hi))
  ·by_cases hcc:c' = c
   ·subst hcc;exact⟨_,hc'⟩
   ·obtain⟨w2,z2⟩:=I.cell y c' e
    exact⟨w2,z2.sameBut hs hcc⟩
  ·obtain⟨e,n,ne,nf,d⟩:=I.pin p hp
   refine⟨(hs.2 p.1 ?_).trans e,n,ne,nf,d⟩
   intro q
   rw [q,hoc] at e
   have q':oc=p.2:=Option.some.inj e
   exact d w' (by rw [<-q'];exact hocd)
theorem jS {M:Model} {A:Around} {E:Value->Shared->Prop} {i:Nat} {x:Str} {v:V} {u:Value} {Q:Unit->Shared->Prop} (I:Inv X pins σ H s) (hN:X.N.Nodup) (hi:X.N[i]? = some x) (hx:Loc X.env.scope x) (r:RelV v u)
  (h:∀ s',Inv X pins (σ.set i (some v)) H s'->Q () s') (hf:X.fn x=true\/X.env.scope.names.lookup x=some .local:=by first | exact .inl rfl | exact .inr rfl | assumption):wpAny M A (storeName X.env x u) Q E s :=
 og I hN hi hx r (fun s' I' _=>h s' I') hf
theorem Inv.wG {s':Shared} {ch:List Addr} (I:Inv X pins σ H s) (ho:s'.os=s.os) (u:Un (ke X.stack) ch H H' s.heap s'.heap) (aG:dG X.prog X.w H' s'.heap) (hg:AllBare s'.gens)
  (hch:∀ b ∈ ch,(b ∈ X.ex\/X.du.heap.objs.size<=b)/\b ≠ X.env.locals/\(∀ x c,X.env.cells.lookup x=some c->c ≠ b)/\∀ p ∈ X.pn++pins,p.1 ≠ b):Inv X pins σ H' s':=by
 obtain⟨h',g',d',t',o'⟩:=s'
 have e:o' = s.os:=ho
 subst e
 exact I.call (g':=g') (t':=t') (d':=d') u aG hg hch
end
abbrev XK:=Value->Option Addr->Hp->Prop
abbrev St:=List (Option V)
abbrev VK:=V->Hp->Prop
abbrev TE:=St->Hp->VK->Prop
abbrev TT:=St->Hp->(Bool->Hp->Prop)->Prop
abbrev TA:=St->Hp->(List V->Hp->Prop)->Prop
structure Ends where
 nx:St->Hp->Prop
 rt:VK
 bk:St->Hp->Prop:=fun _ _=>False
 ct:St->Hp->Prop:=fun _ _=>False
abbrev TS:=Ends->St->Hp->Prop
def EP (X:Cx) (pins:List (Addr × Obj)) (σ : St) (Q:VK) (u:Value) (s':Shared):Prop:=∃ v H',Inv X pins σ H' s'/\RelV v u/\Q v H'
def TP (X:Cx) (pins:List (Addr × Obj)) (σ : St) (Q:Bool->Hp->Prop) (b:Bool) (s':Shared):Prop:=∃ H',Inv X pins σ H' s'/\Q b H'
def AP (X:Cx) (pins:List (Addr × Obj)) (σ : St) (Q:List V->Hp->Prop) (us:List Value) (s':Shared):Prop:=∃ vs H',Inv X pins σ H' s'/\Vals vs us/\Q vs H'
def SP (X:Cx) (pins:List (Addr × Obj)) (D:Ends) (f:Flow) (s':Shared):Prop :=
 match f with
 | .next=>∃ σ' H',Inv X pins σ' H' s'/\D.nx σ' H'
 | .brk=>∃ σ' H',Inv X pins σ' H' s'/\D.bk σ' H'
 | .cont=>∃ σ' H',Inv X pins σ' H' s'/\D.ct σ' H'
 | .ret u=>∃ v σ' H',Inv X pins σ' H' s'/\RelV v u/\D.rt v H'
def PE (X:Cx) (e:Expr) (t:TE):Prop :=
 ∀ (pins:List (Addr × Obj)) (s:Shared) (σ : St) (H:Hp) (Q:VK),Inv X pins σ H s->t σ H Q->wpAny (model X.prog X.w) X.A (eval e X.env) (EP X pins σ Q) X.xe s
def PT (X:Cx) (e:Expr) (t:TT):Prop :=
 ∀ (pins:List (Addr × Obj)) (s:Shared) (σ : St) (H:Hp) (Q:Bool->Hp->Prop),Inv X pins σ H s->t σ H Q->wpAny (model X.prog X.w) X.A (isTrue e X.env (eval e X.env)) (TP X pins σ Q) X.xe s
def PW (X:Cx) (e:Expr) (t:TT):Prop :=
 ∀ (whole:Sem Value) (pins:List (Addr × Obj)) (s:Shared) (σ : St) (H:Hp) (Q:Bool->Hp->Prop),Inv X pins σ H s->t σ H Q->wpAny (model X.prog X.w) X.A (isTrue e X.env whole) (TP X pins σ Q) X.xe s
theorem PW.pt {X:Cx} {e:Expr} {t:TT} (h:PW X e t):PT X e t:=h _
def PA (X:Cx) (es:List Expr) (t:TA):Prop :=
 ∀ (pos:Pos) (pins:List (Addr × Obj)) (s:Shared) (σ : St) (H:Hp) (Q:List V->Hp->Prop),Inv X pins σ H s->t σ H Q->wpAny (model X.prog X.w) X.A (spliced (backTo pos (starEach es X.env))) (AP X pins σ Q) X.xe s
def PS (X:Cx) (st:Stmt) (t:TS):Prop :=
 ∀ (pins:List (Addr × Obj)) (s:Shared) (σ : St) (H:Hp) (D:Ends),Inv X pins σ H s->t D σ H->wpAny (model X.prog X.w) X.A (exec st X.env) (SP X pins D) X.xe s
def je (X:Cx) (st:List Stmt) (t:TS):Prop :=
 ∀ (pins:List (Addr × Obj)) (s:Shared) (σ : St) (H:Hp) (D:Ends),Inv X pins σ H s->t D σ H->wpAny (model X.prog X.w) X.A (execs st X.env) (SP X pins D) X.xe s
theorem bh {α : Type} {t:Sem α} {Q Q':α->Shared->Prop} {M:Model} {A:Around} {E:Value->Shared->Prop} {s:Shared} (h:wpAny M A t Q E s) (hQ:∀ a s,Q a s->Q' a s):wpAny M A t Q' E s:=wpAny_mono h hQ fun _ _ x=>x
section
variable {X:Cx}
def nB (i:Nat):TE:=fun σ H Q=>∃ v,σ[i]? = some (some v)/\Q v H
def tC (v:V):TE:=fun _ H Q=>Q v H
theorem xX {i:Nat} {x:Str} {pos:Pos} (hN:X.N[i]? = some x) (hv:xW X.env.scope x) (hd:(x == ("__debug__" : Str))=false:=by decide) (hcd:(x == ("__classdict__" : Str))=false:=by decide):PE X (.Name x pos) (nB i):=by
 intro pins s σ H Q I h
 obtain⟨v,e,h⟩:=h
 obtain⟨m,hn,hl⟩:=I.loc
 obtain⟨u,r,l⟩:=hl i x v hN e hv
 have fin:EP X pins σ Q u s:=⟨v,H,I,r,h⟩
 rcases l with ⟨hk,hm⟩ | ⟨hk,c,hc,hcell⟩
 ·exact wpAny_Name (wpAny_loadName_local I.ok.kind hk hn hm fin) hd
 ·rcases hk with hk | hk
  ·exact wpAny_Name (wpAny_loadName_cell I.ok.kind hk hc hcell fin) hd
  ·exact wpAny_Name (wpAny_loadName_free I.ok.kind hk hc hcell fin hcd) hd
theorem ao {i j pos}:PE X (.Constant (.int i) j pos) (tC (.int i)):=fun _ _ _ H _ I h=>wpAny_Constant_int ⟨.int i,H,I.tok _,⟨_,rfl⟩,h⟩
theorem dz {b j pos}:PE X (.Constant (.bool b) j pos) (tC (.bl b)):=fun _ _ _ H _ I h=>Constant_bool ⟨.bl b,H,I,rfl,h⟩
theorem bC {j pos}:PE X (.Constant .none j pos) (tC .aB):=fun _ _ _ H _ I h=>Constant_none ⟨.aB,H,I,rfl,h⟩
theorem bF {x j pos}:PE X (.Constant (.str x) j pos) (tC (.str x)):=fun _ _ _ H _ I h=>Calls.Constant_str ⟨.str x,H,I.tok _,⟨_,rfl⟩,h⟩
def Gl (X:Cx) (x:Str):Prop:=X.env.kindOf x=some .globalImplicit
theorem rC {E:Value->Shared->Prop} {pins:List (Addr × Obj)} {s:Shared} {σ : St} {H:Hp} {x:Str} {u:Value} {pos:Pos} {Q:Value->Shared->Prop} (I:Inv X pins σ H s) (hg:Gl X x) (hm:X.mg x=some u) (h:Q u s)
  (hd:(x == ("__debug__" : Str))=false:=by decide):wpAny (model X.prog X.w) X.A (eval (.Name x pos) X.env) Q E s :=
 Calls.Name_function_global I.ok.kind hg (Calls.loadGlobal_global (by rw [I.ok.glob];exact I.mod.glob.keeps I.bk) hm h) hd
theorem mO {E:Value->Shared->Prop} {pins:List (Addr × Obj)} {s:Shared} {σ : St} {H:Hp} {x:Str} {u:Value} {pos:Pos} {Q:Value->Shared->Prop} (I:Inv X pins σ H s) (hg:Gl X x) (hm:X.mg x=none) (hv:bootBuiltins x=some u) (h:Q u s)
  (hn:x ≠ "__name__" := by decide) (hd:(x == ("__debug__" : Str))=false:=by decide):wpAny (model X.prog X.w) X.A (eval (.Name x pos) X.env) Q E s:=by
 obtain⟨mb,h1,h2⟩:=I.mod.blt
 exact Calls.Name_function_global I.ok.kind hg (Calls.loadGlobal_builtin (by rw [I.ok.glob];exact I.mod.glob.keeps I.bk) hm (by rw [I.ok.blt];exact h1.keeps I.bk) ((h2 x hn).trans hv) h) hd
theorem fE {x:Str} {v:V} {u:Value} {pos:Pos} (hg:Gl X x) (hm:X.mg x=some u) (r:RelV v u) (hd:(x == ("__debug__" : Str))=false:=by decide):PE X (.Name x pos) (tC v) :=
 fun _ _ _ H _ I h=>rC I hg hm ⟨v,H,I,r,h⟩ hd
variable {a b:Expr} {ta tb:TE} {pos:Pos}
def PC (X:Cx) (op:CmpOp) (a b:Expr) (t:TE):Prop :=
 ∀ (pins:List (Addr × Obj)) (s:Shared) (σ : St) (H:Hp) (Q:VK),Inv X pins σ H s->t σ H Q ->
  wpAny (model X.prog X.w) X.A (eval a X.env) (fun v s₁=>wpAny (model X.prog X.w) X.A (eval b X.env) (fun u s₂=>wpAny (model X.prog X.w) X.A (compareOp op v u) (EP X pins σ Q) X.xe s₂) X.xe s₁) X.xe s
theorem pC (b:Expr) {op:CmpOp} (h:op ≠ .In) (h2:op ≠ .NotIn):behindInMarks op b=false:=by
 have e1:(op == CmpOp.In)=false:=by cases op <;> first | rfl | exact absurd rfl h
 have e2:(op == CmpOp.NotIn)=false:=by cases op <;> first | rfl | exact absurd rfl h2
 cases b <;> simp [behindInMarks,e1,e2]
def zJ (ta:TE):TE:=fun σ H Q=>ta σ H fun x H1=>Q (.bl (decide (x=.aB))) H1
def yZ (ta:TE):TE:=fun σ H Q=>ta σ H fun x H1=>Q (.bl (!decide (x=.aB))) H1
theorem RelV.pD {x:V} {v:Value} (r:RelV x v):(v == Value.none)=decide (x=.aB):=by
 cases x with
 | aB=>cases r;rfl
 | bl _=>cases r;rfl
 | int _=>obtain⟨t,rfl⟩:=r;rfl
 | str _=>obtain⟨t,rfl⟩:=r;rfl
 | j5 _=>obtain⟨t,rfl⟩:=r;rfl
 | wB _=>obtain⟨t,rfl⟩:=r;rfl
 | ref _=>cases r;rfl
 | ty _=>cases r;rfl
theorem cU {j pos'} (ha:PE X a ta):PC X .Is a (.Constant .none j pos') (zJ ta):=by
 intro pins s σ H Q I h
 refine bh (ha pins s σ H _ I h) fun v s1 ⟨x,H1,I1,r1,q1⟩=>?_
 exact Constant_none (is_none_gen ⟨.bl _,H1,I1,by rw [r1.pD];rfl,q1⟩)
theorem cA {j pos'} (ha:PE X a ta):PC X .IsNot a (.Constant .none j pos') (yZ ta):=by
 intro pins s σ H Q I h
 refine bh (ha pins s σ H _ I h) fun v s1 ⟨x,H1,I1,r1,q1⟩=>?_
 exact Constant_none (isnot_none_gen ⟨.bl _,H1,I1,by rw [r1.pD];rfl,q1⟩)
def tB (t:TE):TT:=fun σ H Q=>t σ H fun x H1=>∃ c,x=.bl c/\Q c H1
theorem fY {op:CmpOp} {t:TE} (h:PC X op a b t) (h1:behindInMarks op b=false:=by first | exact pC _ (by decide) (by decide) | rfl):PE X (.Compare a [op] [b] pos) t:=fun pins s σ H Q I hw=>wpAny_Compare1 (h pins s σ H Q I hw) h1
theorem bW {op:CmpOp} {t:TE} (h:PC X op a b t) (h1:behindInMarks op b=false:=by first | exact pC _ (by decide) (by decide) | rfl):PT X (.Compare a [op] [b] pos) (tB t):=by
 intro pins s σ H Q I hw
 refine wpAny_isTrue_Compare1 (bh (h pins s σ H _ I hw) fun v s1 h1=>bh h1 fun u s2 h2=>bh h2 fun c s3 ⟨x,H1,I1,r1,q1⟩=>?_) h1
 obtain⟨d,rfl,q⟩:=q1
 cases r1
 exact wpAny_truthy_bool ⟨H1,I1,q⟩
theorem gO {e:Expr} {t:TE} (h:PE X e t) (he:∀ whole,isTrue e X.env whole=(do let v <-whole;standAt e.pos;holding [v] (truthy v)):=by intro _;rfl):PT X e (tB t):=by
 intro pins s σ H Q I hw
 refine isTrue_plain (bh (h pins s σ H _ I hw) fun v s1 ⟨x,H1,I1,r1,q1⟩=>?_) (he _)
 obtain⟨d,rfl,q⟩:=q1
 cases r1
 exact wpAny_truthy_bool ⟨H1,I1,q⟩
variable {tA tB':TT} {rest:List Expr}
def zK (t u:TT):TT:=fun σ H Q=>t σ H fun c H1=>if c=true then u σ H1 Q else Q false H1
def Aj (t u:TT):TT:=fun σ H Q=>t σ H fun c H1=>if c=true then Q true H1 else u σ H1 Q
def zL (t:TT):TT:=fun σ H Q=>t σ H fun c H1=>Q (!c) H1
theorem fg (ha:PT X a tA):PW X (.BoolOp .And [a] pos) tA:=by
 intro wh pins s σ H Q I h
 refine isTrue_and (bh (ha pins s σ H Q I h) fun c s1 e=>?_)
 cases c with
 | true=>exact isTrue_and_nil e
 | false=>exact e
theorem jF (ha:PT X a tA):PW X (.BoolOp .Or [a] pos) tA:=by
 intro wh pins s σ H Q I h
 refine isTrue_or (bh (ha pins s σ H Q I h) fun c s1 e=>?_)
 cases c with
 | false=>exact isTrue_or_nil e
 | true=>exact e
theorem fu (ha:PT X a tA) (hb:PW X (.BoolOp .And (b :: rest) pos) tB'):PW X (.BoolOp .And (a :: b :: rest) pos) (zK tA tB'):=by
 intro wh pins s σ H Q I h
 refine isTrue_and (bh (ha pins s σ H _ I h) fun c s1 ⟨H1,I1,q1⟩=>?_)
 cases c with
 | true=>exact hb wh pins s1 σ H1 Q I1 q1
 | false=>exact⟨H1,I1,q1⟩
theorem kW (ha:PT X a tA) (hb:PW X (.BoolOp .Or (b :: rest) pos) tB'):PW X (.BoolOp .Or (a :: b :: rest) pos) (Aj tA tB'):=by
 intro wh pins s σ H Q I h
 refine isTrue_or (bh (ha pins s σ H _ I h) fun c s1 ⟨H1,I1,q1⟩=>?_)
 cases c with
 | true=>exact⟨H1,I1,q1⟩
 | false=>exact hb wh pins s1 σ H1 Q I1 q1
theorem tQ (ha:PT X a tA):PT X (.UnaryOp .Not a pos) (zL tA):=by
 intro pins s σ H Q I h
 exact isTrue_not (ha pins s σ H (fun c H1=>Q (!c) H1) I h)
def y0 (ta tb:TE):TE:=fun σ H Q=>ta σ H fun x H1=>∃ c,x=.bl c/\if c=true then tb σ H1 Q else Q (.bl false) H1
def zM (ta tb:TE):TE:=fun σ H Q=>ta σ H fun x H1=>∃ c,x=.bl c/\if c=true then Q (.bl true) H1 else tb σ H1 Q
theorem eh {op} {t:TE} (h:PE X a t):PE X (.BoolOp op [a] pos) t:=fun pins s σ H Q I hw=>BoolOp_one (h pins s σ H Q I hw)
theorem jG (ha:PE X a ta) (hb:PE X (.BoolOp .And (b :: rest) pos) tb):PE X (.BoolOp .And (a :: b :: rest) pos) (y0 ta tb):=by
 intro pins s σ H Q I h
 refine BoolOp_and (bh (ha pins s σ H _ I h) fun v s1 ⟨x,H1,I1,r1,q1⟩=>?_)
 obtain⟨c,rfl,q1⟩:=q1
 cases r1
 refine wpAny_truthy_bool ?_
 cases c with
 | true=>exact hb pins s1 σ H1 Q I1 q1
 | false=>exact⟨.bl false,H1,I1,rfl,q1⟩
theorem kX (ha:PE X a ta) (hb:PE X (.BoolOp .Or (b :: rest) pos) tb):PE X (.BoolOp .Or (a :: b :: rest) pos) (zM ta tb):=by
 intro pins s σ H Q I h
 refine BoolOp_or (bh (ha pins s σ H _ I h) fun v s1 ⟨x,H1,I1,r1,q1⟩=>?_)
 obtain⟨c,rfl,q1⟩:=q1
 cases r1
 refine wpAny_truthy_bool ?_
 cases c with
 | false=>exact hb pins s1 σ H1 Q I1 q1
 | true=>exact⟨.bl true,H1,I1,rfl,q1⟩
def Ak (t:TT) (ta tb:TE):TE:=fun σ H Q=>t σ H fun c H1=>if c=true then ta σ H1 Q else tb σ H1 Q
theorem eW {c:Expr} (hc:PT X c tA) (ha:PE X a ta) (hb:PE X b tb):PE X (.IfExp c a b pos) (Ak tA ta tb):=by
 intro pins s σ H Q I h
 refine wpAny_IfExp (bh (hc pins s σ H _ I h) fun d s1 ⟨H1,I1,q1⟩=>?_)
 cases d with
 | true=>exact ha pins s1 σ H1 Q I1 q1
 | false=>exact hb pins s1 σ H1 Q I1 q1
end
def aX (K:PySem.W.Frag) (H:Hp) (a:Addr) (xs:List V):Prop :=
 Rd H a (.lst xs) \/
  ∃ (o:Obj) (its:Array Value) (n:Nat),K.lookup a=some o/\o.cls=.type "list" /\ o.dict=none/\o.data=.seq its n/\its.size<=sizeLine/\Vals xs its.toList
def ay (K:PySem.W.Frag) (H:Hp) (a:Addr) (xs:List V):Prop :=
 Rd H a (.tup xs) \/
  ∃ (o:Obj) (its:Array Value) (n:Nat),K.lookup a=some o/\o.cls=.type "tuple" /\ o.data=.seq its n/\its.size<=sizeLine/\Vals xs its.toList
def zN:Value->Option V
 | .none=>some .aB
 | .bool b=>some (.bl b)
 | .int i _=>some (.int i)
 | .str x _=>some (.str x)
 | .bytes b _=>some (.j5 b)
 | .float b _=>some (.wB b)
 | .ref a=>some (.ref a)
 | .type n=>some (.ty n)
 | _=>none
theorem RelV.abs {x:V} {u:Value} (r:RelV x u):zN u=some x:=by
 cases x with
 | aB=>cases r;rfl
 | bl _=>cases r;rfl
 | int _=>obtain⟨t,rfl⟩:=r;rfl
 | str _=>obtain⟨t,rfl⟩:=r;rfl
 | j5 _=>obtain⟨t,rfl⟩:=r;rfl
 | wB _=>obtain⟨t,rfl⟩:=r;rfl
 | ref _=>cases r;rfl
 | ty _=>cases r;rfl
theorem RelV.inj {x y:V} {u:Value} (r:RelV x u) (q:RelV y u):x=y:=Option.some.inj (r.abs.symm.trans q.abs)
theorem Vals.inj:∀ {xs ys:List V} {us:List Value},Vals xs us->Vals ys us->xs=ys
 | _,_,_,.nil,.nil=>rfl
 | _,_,_,.cons r t,.cons r' t'=>by rw [r.inj r',Vals.inj t t']
section
variable {X:Cx} {pins:List (Addr × Obj)} {σ : St} {H:Hp} {s:Shared} {a:Addr} {xs ys:List V}
theorem aX.of {K:PySem.W.Frag} (h:H a=some (.lst xs)):aX K H a xs:=.inl (.inl h)
theorem ay.of {K:PySem.W.Frag} (h:H a=some (.tup xs)):ay K H a xs:=.inl (.inl h)
theorem Inv.list (I:Inv X pins σ H s) (h:aX X.K H a xs):∃ its:List Value,Vals xs its/\PlainL s.heap a its.toArray/\xs.length<=sizeLine:=by
 rcases h with h | ⟨o,its,n,hk,hc,hd,hs,hz,r⟩
 ·obtain⟨z,its,n,r,e⟩:=h.ok I.aG
  exact⟨its,r,⟨_,n,e,rfl,rfl,rfl⟩,z⟩
 ·refine⟨its.toList,r,⟨o,n,I.oa a o hk,hc,hd,by simpa using hs⟩,?_⟩
  have e:=r.length
  simp only [Array.length_toList] at e
  omega
theorem Inv.tuple (I:Inv X pins σ H s) (h:ay X.K H a xs):∃ its:List Value,Vals xs its/\IsTup s.heap a its.toArray/\xs.length<=sizeLine:=by
 rcases h with h | ⟨o,its,n,hk,hc,hs,hz,r⟩
 ·obtain⟨z,its,r,o,e,c,n,d,_⟩:=h.ok I.aG
  exact⟨its,r,⟨o,e,c,n,d⟩,z⟩
 ·refine⟨its.toList,r,⟨o,I.oa a o hk,hc,n,by simpa using hs⟩,?_⟩
  have e:=r.length
  simp only [Array.length_toList] at e
  omega
theorem Inv.uZ (I:Inv X pins σ H s) (h:aX X.K H a xs) (h':aX X.K H a ys):xs=ys:=by
 obtain⟨its,r,⟨o,n,e,_,_,d⟩,_⟩:=I.list h
 obtain⟨its',r',⟨o',n',e',_,_,d'⟩,_⟩:=I.list h'
 rw [e] at e';cases e'
 rw [d] at d'
 injection d' with d1 _
 have:its=its':=by simpa using congrArg Array.toList d1
 subst this
 exact r.inj r'
theorem Inv.ki (I:Inv X pins σ H s) (h:ay X.K H a xs) (h':ay X.K H a ys):xs=ys:=by
 obtain⟨its,r,⟨o,e,_,n,d⟩,_⟩:=I.tuple h
 obtain⟨its',r',⟨o',e',_,n',d'⟩,_⟩:=I.tuple h'
 rw [e] at e';cases e'
 rw [d] at d'
 injection d' with d1 _
 have:its=its':=by simpa using congrArg Array.toList d1
 subst this
 exact r.inj r'
end
abbrev Cx.ju (X:Cx) (E:Value->Shared->Prop):Cx:={ X with xe:=E }
abbrev Cx.wH (X:Cx):Cx:=X.ju fun _ _=>False
theorem Cx.Ok.ju {X:Cx} (ok:X.Ok) (E:Value->Shared->Prop):(X.ju E).Ok :=
 ⟨ok.mod,ok.kind,ok.glob,ok.blt,ok.above,ok.inj,ok.has,ok.tP,ok.hd,ok.frames,ok.wF,ok.zu,ok.bs,ok.n5,ok.ph,ok.sg,ok.iY,ok.rq⟩
theorem Cx.Ok.iw {X:Cx} {E:Value->Shared->Prop} (ok:(X.ju E).Ok):X.Ok :=
 ⟨ok.mod,ok.kind,ok.glob,ok.blt,ok.above,ok.inj,ok.has,ok.tP,ok.hd,ok.frames,ok.wF,ok.zu,ok.bs,ok.n5,ok.ph,ok.sg,ok.iY,ok.rq⟩
section
variable {X:Cx} {pins:List (Addr × Obj)} {σ : St} {H:Hp} {s:Shared} {E:Value->Shared->Prop}
theorem Inv.ju (I:Inv X pins σ H s) (E:Value->Shared->Prop):Inv (X.ju E) pins σ H s:=⟨I.ok.ju E,I.os,I.bare,I.base,I.loc,I.cell,I.free,I.d8,I.pin,I.aG,I.len⟩
theorem Inv.iw (I:Inv (X.ju E) pins σ H s):Inv X pins σ H s:=⟨I.ok.iw,I.os,I.bare,I.base,I.loc,I.cell,I.free,I.d8,I.pin,I.aG,I.len⟩
theorem SP.iw {D:Ends} {f:Flow} {s':Shared} (h:SP (X.ju E) pins D f s'):SP X pins D f s':=by
 cases f with
 | next=>obtain⟨σ',H',I,q⟩:=h;exact⟨σ',H',I.iw,q⟩
 | brk=>obtain⟨σ',H',I,q⟩:=h;exact⟨σ',H',I.iw,q⟩
 | cont=>obtain⟨σ',H',I,q⟩:=h;exact⟨σ',H',I.iw,q⟩
 | ret u=>obtain⟨v,σ',H',I,r,q⟩:=h;exact⟨v,σ',H',I.iw,r,q⟩
theorem je.wH {st:List Stmt} {t:TS} (h:je X.wH st t):je X st t:=fun pins s σ H D I hw =>
 wpAny_mono (h pins s σ H D (I.ju _) hw) (fun _ _ q=>q.iw) fun _ _ z=>False.elim z
end
section
variable {X:Cx} {st:Stmt} {rest:List Stmt} {t u:TS} {e:Expr} {te:TE} {pos:Pos}
def y3:TS:=fun D σ H=>D.nx σ H
def zO (t u:TS):TS:=fun D σ H=>t { D with nx:=u D } σ H
theorem aU:je X [] y3:=fun _ _ σ H _ I h=>wpAny_execs_nil ⟨σ,H,I,h⟩
theorem ai (h1:PS X st t) (h2:je X rest u):je X (st :: rest) (zO t u):=by
 intro pins s σ H D I h
 refine wpAny_execs_cons (bh (h1 pins s σ H { D with nx:=u D } I h) fun f s1 q=>?_)
 cases f with
 | next =>
  obtain⟨σ',H',I',q⟩:=q
  exact h2 pins s1 σ' H' D I' q
 | ret v=>exact q
 | brk=>exact q
 | cont=>exact q
theorem ar (h1:PS X st t):je X [st] t:=by
 intro pins s σ H D I h
 refine wpAny_execs_cons (bh (h1 pins s σ H D I h) fun f s1 q=>?_)
 cases f with
 | next=>exact wpAny_execs_nil q
 | ret v=>exact q
 | brk=>exact q
 | cont=>exact q
theorem Inv.quiet {pins:List (Addr × Obj)} {σ : St} {H:Hp} {s:Shared} (I:Inv X pins σ H s):interactive X.env=false:=by simp [interactive,I.ok.kind]
def y4 (te:TE):TS:=fun D σ H=>te σ H fun _ H1=>D.nx σ H1
theorem fF (he:PE X e te) (hs:swapsWith e none pos.line X.env=pure false:=by rfl):PS X (.Expr e pos) (y4 te):=by
 intro pins s σ H D I h
 exact wpAny_Expr_any (bh (he pins s σ H _ I h) fun v s1 ⟨x,H1,I1,r1,q1⟩=>⟨σ,H1,I1,q1⟩) I.quiet hs
def xY (te:TE):TS:=fun D σ H=>te σ H D.rt
theorem aH (he:PE X e te):PS X (.Return (some e) pos) (xY te):=by
 intro pins s σ H D I h
 exact wpAny_Return_some (bh (he pins s σ H _ I h) fun v s1 ⟨x,H1,I1,r1,q1⟩=>⟨x,σ,H1,I1,r1,q1⟩)
def zP (c:TT) (t u:TS):TS:=fun D σ H=>c σ H fun b H1=>if b=true then t D σ H1 else u D σ H1
theorem bu {c:Expr} {a b:List Stmt} {tc:TT} (hc:PT X c tc) (ha:je X a t) (hb:je X b u):PS X (.If c a b pos) (zP tc t u):=by
 intro pins s σ H D I h
 refine wpAny_If (bh (hc pins s σ H _ I h) fun d s1 ⟨H1,I1,q1⟩=>?_)
 cases d with
 | true=>exact ha pins s1 σ H1 D I1 q1
 | false=>exact hb pins s1 σ H1 D I1 q1
end
abbrev TG:=V->St->Hp->(St->Hp->Prop)->Prop
abbrev oh:=List V->St->Hp->(St->Hp->Prop)->Prop
def PG (X:Cx) (target:Expr) (t:TG):Prop :=
 ∀ (pins:List (Addr × Obj)) (s:Shared) (σ : St) (H:Hp) (v:V) (u:Value) (Q:St->Hp->Prop),Inv X pins σ H s->RelV v u->t v σ H Q ->
  wpAny (model X.prog X.w) X.A (assign target X.env u) (fun _ s'=>∃ σ' H',Inv X pins σ' H' s'/\Q σ' H') X.xe s
def wI (X:Cx) (ts:List Expr) (t:oh):Prop :=
 ∀ (pins:List (Addr × Obj)) (s:Shared) (σ : St) (H:Hp) (vs:List V) (us:List Value) (Q:St->Hp->Prop),Inv X pins σ H s->Vals vs us->t vs σ H Q ->
  wpAny (model X.prog X.w) X.A (assignInOrder ((assignEach ts X.env).map (·.2)) us) (fun _ s'=>∃ σ' H',Inv X pins σ' H' s'/\Q σ' H') X.xe s
abbrev u9:=V->V->V->Hp->(Hp->Prop)->Prop
def xZ (X:Cx) (t:u9):Prop :=
 ∀ (pins:List (Addr × Obj)) (s:Shared) (σ : St) (H:Hp) (o i v:V) (ov iv u:Value) (Q:Hp->Prop),Inv X pins σ H s->RelV o ov->RelV i iv->RelV v u->t o i v H Q ->
  wpAny (model X.prog X.w) X.A (setItem ov iv u) (fun _ s'=>∃ H',Inv X pins σ H' s'/\Q H') X.xe s
section
variable {X:Cx} {pos:Pos}
def o4 (i:Nat):TG:=fun v σ H Q=>Q (σ.set i (some v)) H
theorem aF {i:Nat} {x:Str} (hN:X.N.Nodup) (hi:X.N[i]? = some x) (hx:Loc X.env.scope x) (hf:X.fn x=true\/X.env.scope.names.lookup x=some .local:=by first | exact .inl rfl | exact .inr rfl | assumption):PG X (.Name x pos) (o4 i):=by
 intro pins s σ H v u Q I r h
 exact wpAny_assign_Name (jS I hN hi hx r (fun s' I'=>⟨_,H,I',h⟩) hf)
def zQ:oh:=fun vs σ H Q=>vs = []/\Q σ H
def y6 (t:TG) (u:oh):oh:=fun vs σ H Q=>∃ v r,vs=v :: r/\t v σ H fun σ' H'=>u r σ' H' Q
theorem bU:wI X [] zQ:=by
 intro pins s σ H vs us Q I r h
 obtain⟨e,h⟩:=h
 subst e
 cases r
 exact assignInOrder_nil ⟨σ,H,I,h⟩
theorem aM {e:Expr} {es:List Expr} {t:TG} {u:oh} (h1:PG X e t) (h2:wI X es u)
  (hs:(assignEach (e :: es) X.env).map (·.2)=assign e X.env :: (assignEach es X.env).map (·.2):=by rfl):wI X (e :: es) (y6 t u):=by
 intro pins s σ H vs us Q I r h
 obtain⟨v,vr,e1,h⟩:=h
 subst e1
 cases r with
 | cons r rr =>
  rw [hs]
  refine assignInOrder_cons (bh (h1 pins s σ H _ _ _ I r h) fun _ s1 ⟨σ1,H1,I1,q1⟩=>?_)
  exact h2 pins s1 σ1 H1 _ _ Q I1 rr q1
def va (K:PySem.W.Frag) (n:Nat) (t:oh):TG:=fun v σ H Q=>∃ a xs,v=.ref a/\ay K H a xs/\xs.length=n/\t xs σ H Q
theorem cv {es:List Expr} {k:Nat} {t:oh} {n:Nat} (hc:X.calm=true) (h:wI X es t)
  (hn:(assignEach es X.env).length=n:=by rfl) (hst:(assignEach es X.env).findIdx? (·.1)=none:=by rfl):PG X (.Tuple es k pos) (va X.K n t):=by
 intro pins s σ H v u Q I r hw
 obtain⟨a,xs,e1,hq,hl,hw⟩:=hw
 subst e1
 cases r
 obtain⟨its,rv,ht,hz⟩:=I.tuple hq
 refine assign_Tuple_tuple (I.ok.hd hc) ht (by simp [hn,<-hl,rv.length]) hst fun h' hx=>?_
 have I1:Inv X pins σ H { s with heap:=h' }:=I.kept (t':=s.toks) fun b o e=>hx b o (Nat.ne_of_lt (Heap.lt_size e)) e
 exact h pins _ σ H xs _ Q I1 (by simpa using rv) hw
def zR (to ti:TE) (t:u9):TG:=fun v σ H Q=>to σ H fun o H1=>ti σ H1 fun i H2=>t o i v H2 fun H3=>Q σ H3
theorem fw {o i:Expr} {to ti:TE} {t:u9} (ho:PE X o to) (hi:PE X i ti) (hs:xZ X t)
  (ha:∀ v,assign (.Subscript o i pos) X.env v=(do
   let ov <-holding [v] (eval o X.env)
   let iv <-holding [v,ov] (eval i X.env)
   standAt pos
   holding [v,ov,iv] (setItem ov iv v)
   release [v,ov,iv] []):=by intro _;rfl):PG X (.Subscript o i pos) (zR to ti t):=by
 intro pins s σ H v u Q I r h
 rw [ha]
 refine wpAny_bind (wpAny_holding (bh (ho pins s σ H _ I h) fun ov s1 ⟨x,H1,I1,r1,q1⟩=>?_))
 refine wpAny_bind (wpAny_holding (bh (hi pins s1 σ H1 _ I1 q1) fun iv s2 ⟨y,H2,I2,r2,q2⟩=>?_))
 refine wpAny_bind (wpAny_standAt (wpAny_bind (wpAny_holding (bh (hs pins s2 σ H2 x y v ov iv u _ I2 r1 r2 r q2) fun _ s3 ⟨H3,I3,q3⟩=>?_))))
 exact wpAny_release ⟨σ,H3,I3,q3⟩
def vb (te:TE) (g:TG):TS:=fun D σ H=>te σ H fun x H1=>g x σ H1 D.nx
theorem bT {tg e:Expr} {te:TE} {g:TG} (he:PE X e te) (hg:PG X tg g) (hs:swapsWithSole [tg] e pos.line X.env=pure false:=by rfl) (hw:swappedStores [tg] e X.env=pure none:=by rfl)
  (h1:(assignEach [tg] X.env).map (·.2) = [assign tg X.env]:=by rfl):PS X (.Assign [tg] e pos) (vb te g):=by
 intro pins s σ H D I h
 refine wpAny_Assign_stores (bh (he pins s σ H _ I h) fun v s1 ⟨x,H1,I1,r1,q1⟩=>?_) hs hw
 rw [h1]
 exact bh (hg pins s1 σ H1 x v _ I1 r1 q1) fun _ s2 q=>q
theorem aJ {i:Nat} {x:Str} {e:Expr} {te:TE} {pos':Pos} (hN:X.N.Nodup) (hi:X.N[i]? = some x) (hx:Loc X.env.scope x) (he:PE X e te) (hs:swapsWith e (some (.Name x pos')) pos.line X.env=pure false:=by rfl) (hf:X.fn x=true\/X.env.scope.names.lookup x=some .local:=by first | exact .inl rfl | exact .inr rfl | assumption) :
  PS X (.Assign [.Name x pos'] e pos) (vb te (o4 i)):=by
 intro pins s σ H D I h
 refine wpAny_Assign_Name (bh (he pins s σ H _ I h) fun v s1 ⟨y,H1,I1,r1,q1⟩=>?_) hs
 exact jS I1 hN hi hx r1 (fun s2 I2=>⟨_,H1,I2,q1⟩) hf
def zS (i j:Nat) (ta:TA):TS:=fun D σ H=>ta σ H fun vs H1=>∃ v w,vs = [v,w]/\D.nx ((σ.set i (some v)).set j (some w)) H1
theorem x9 {i j:Nat} {x y:Str} {a b:Expr} {ta:TA} {px py pt:Pos} {kt k2 pt2} (hc:X.calm=true) (hN:X.N.Nodup) (hi:X.N[i]? = some x) (hj:X.N[j]? = some y) (hij:i ≠ j)
  (hx:X.env.scope.names.lookup x=some .local) (hy:X.env.scope.names.lookup y=some .local) (ha:PA X [a,b] ta)
  (hw:swappedStores [.Tuple [.Name x px,.Name y py] kt pt] (.Tuple [a,b] k2 pt2) X.env=pure (some [x,y]))
  (hs:swapsWithSole [.Tuple [.Name x px,.Name y py] kt pt] (.Tuple [a,b] k2 pt2) pos.line X.env=pure false:=by rfl) :
  PS X (.Assign [.Tuple [.Name x px,.Name y py] kt pt] (.Tuple [a,b] k2 pt2) pos) (zS i j ta):=by
 intro pins s σ H D I h
 rw [exec_Assign_arm]
 refine wpAny_bind (wpAny_standAt ?_)
 rw [hs]
 refine wpAny_bind (wpAny_pure ?_)
 rw [if_neg (by decide)]
 refine wpAny_bind (Tuple_ (bh (ha _ pins s σ H _ I h) fun us s1 ⟨vs,H1,I1,r1,q1⟩=>?_))
 obtain⟨v,w,e1,q1⟩:=q1
 subst e1
 obtain⟨u1,u2,rfl,rv,rw'⟩:∃ u1 u2,us = [u1,u2]/\RelV v u1/\RelV w u2:=by
  cases r1 with
  | cons p q =>
   cases q with
   | cons p' q' =>
    cases q'
    exact⟨_,_,rfl,p,p'⟩
 refine wpAny_newObj_type ?_ (by show 2<=sizeLine;decide)
 have I2:Inv X pins σ H1 { s1 with heap:=s1.heap.push { cls:=.type "tuple",data:=.seq [u1,u2].toArray } }:=I1.kept (t':=s1.toks) fun b o e=>Heap.get?_push_of_some _ e
 rw [hw]
 refine wpAny_bind (wpAny_pure ?_)
 show wpAny (model X.prog X.w) X.A (do rule "assign.swapped-stores";let items <-unpackItems (.ref s1.heap.objs.size) 2 none;assignInOrder [fun v=>bindName X.env y v,fun v=>bindName X.env x v] items.reverse;pure Flow.next) _ _ _
 refine wpAny_bind (wpAny_rule (wpAny_bind (unpackItems_tuple (items:=#[u1,u2]) (I.ok.hd hc) (IsTup.new s1.heap _) fun h' hx'=>?_)))
 have I3:=I2.kept (h':=h') (t':=s1.toks) fun b o e=>hx' b o (Nat.ne_of_lt (Heap.lt_size e)) e
 show wpAny _ _ (assignInOrder [fun v=>bindName X.env y v,fun v=>bindName X.env x v] [u2,u1] >>= fun _=>pure Flow.next) _ _ _
 refine wpAny_bind (assignInOrder_cons (wpAny_bindName (jS I3 hN hj (.inl hy) rw' (fun s2 I4=>?_) (.inr hy))))
 refine assignInOrder_cons (wpAny_bindName (jS I4 hN hi (.inl hx) rv (fun s3 I5=>assignInOrder_nil (wpAny_pure ?_)) (.inr hx)))
 rw [List.set_comm _ _ (Ne.symm hij)] at I5
 exact⟨_,H1,I5,q1⟩
end
section
variable {X:Cx} {pos:Pos}
def ya (c:TT) (tb:TS):TS:=fun D σ H=>∃ W:Nat->St->Hp->Prop,(∃ m,W m σ H)/\∀ m σ H,W m σ H ->
 c σ H fun b H1=>if b=true then ∃ N:St->Hp->Prop,(∀ σ' H',N σ' H'->∃ m',m' < m/\W m' σ' H')/\tb { D with nx:=N,ct:=N,bk:=D.nx } σ H1 else D.nx σ H1
theorem pE {c:Expr} {body:List Stmt} {tc:TT} {tb:TS} (hp:PassesOwn (model X.prog X.w) X.A X.env X.xe) (hc:PT X c tc) (hb:je X body tb):PS X (.While c body [] pos) (ya tc tb):=by
 intro pins s σ H D I h
 obtain⟨W,⟨m0,w0⟩,turn⟩:=h
 refine wpAny_While (codeAny_whileLoop (fun n s'=>∃ σ' H',Inv X pins σ' H' s'/\W n σ' H') ?_ m0 ⟨σ,H,I,w0⟩)
 rintro n s1 ⟨σ1,H1,I1,w1⟩
 refine wpAny_passesOwn hp (bh (hc pins s1 σ1 H1 _ I1 (turn n σ1 H1 w1)) fun b s2 ⟨H2,I2,q2⟩=>?_)
 cases b with
 | true =>
  obtain⟨N,hN,q2⟩:=q2
  rw [if_pos rfl]
  refine wpAny_passesOwn hp (bh (hb pins s2 σ1 H2 _ I2 q2) fun f s3 q3=>?_)
  cases f with
  | next =>
   obtain⟨σ3,H3,I3,n3⟩:=q3
   obtain⟨m',hm,w3⟩:=hN σ3 H3 n3
   exact⟨m',hm,σ3,H3,I3,w3⟩
  | cont =>
   obtain⟨σ3,H3,I3,n3⟩:=q3
   obtain⟨m',hm,w3⟩:=hN σ3 H3 n3
   exact⟨m',hm,σ3,H3,I3,w3⟩
  | brk=>exact q3
  | ret v=>exact q3
 | false =>
  rw [if_neg Bool.false_ne_true]
  exact wpAny_execs_nil ⟨σ1,H2,I2,q2⟩
end
structure It where
 go:Nat->Hp->Prop
 pF:Nat->Hp->V->Hp->Prop
 stop:Nat->Hp->Prop
def hJ (X:Cx) (pins:List (Addr × Obj)) (H:Hp) (b:Addr):Prop :=
 H b=none/\b ≠ X.env.locals/\b ∉ X.fs/\(b ∈ X.ex\/X.du.heap.objs.size<=b)/\(∀ x c,X.env.cells.lookup x=some c->c ≠ b)/\∀ p ∈ X.pn++pins,p.1 ≠ b
theorem Inv.lZ {X:Cx} {pins:List (Addr × Obj)} {σ : St} {H H':Hp} {s:Shared} {b:Addr} (I:Inv X pins σ H s) (hb:s.heap.objs.size<=b) (hn:H' b=none):hJ X pins H' b:=by
 refine⟨hn,Nat.ne_of_gt (Nat.lt_of_lt_of_le I.lt hb),I.zI hb,.inr (Nat.le_trans I.sz hb),fun x c e z=>?_,fun p hp z=>?_⟩
 ·obtain⟨v,q⟩:=I.cell x c e
  exact absurd (Nat.lt_of_lt_of_le q.lt (by rw [z];exact hb)) (Nat.lt_irrefl _)
 ·exact absurd (Nat.lt_of_lt_of_le (Heap.lt_size (I.pin p hp).1) (by rw [z];exact hb)) (Nat.lt_irrefl _)
structure Turn (P:Program) (w:World) (K:PySem.W.Frag) (tg:Expr) (J:It) (fp:List Addr) (it:Addr) (tn:Nat->Heap->Prop):Prop where
 mem:it ∈ fp
 obj:∀ i h,tn i h->∀ b ∈ fp,∃ o,h.get? b=some o/\∀ v,o.data ≠ .cell v
 keep:∀ i h h',tn i h->(∀ b ∈ fp,∀ o,h.get? b=some o->h'.get? b=some o)->tn i h'
 item:∀ (X:Cx),X.prog=P->X.w=w->X.K=K->X.calm=true->∀ (i:Nat) (pins:List (Addr × Obj)) (s:Shared) (σ : St) (H:Hp) (E:Value->Shared->Prop),Inv X pins σ H s->(∀ b ∈ fp,hJ X pins H b)->tn i s.heap->J.go i H ->
  wpAny (model P w) X.A (pyNext (.ref it)) (fun r s1=>∃ u,r=some u /\
   wpAny (model P w) X.A (letOwnedTupleGo tg (.ref it) u) (fun _ s2=>∃ x H',Inv X pins σ H' s2/\RelV x u/\J.pF i H x H'/\tn (i+1) s2.heap/\∀ b ∈ fp,H' b=none) E s1) E s
 done:∀ (X:Cx),X.prog=P->X.w=w->X.K=K->X.calm=true->∀ (i:Nat) (pins:List (Addr × Obj)) (s:Shared) (σ : St) (H:Hp) (E:Value->Shared->Prop),Inv X pins σ H s->(∀ b ∈ fp,hJ X pins H b)->tn i s.heap->J.stop i H ->
  wpAny (model P w) X.A (pyNext (.ref it)) (fun r s1=>r=none/\Inv X pins σ H s1) E s
 self:∀ (A:Around) (i:Nat) (s:Shared) (Q:Value->Shared->Prop) (E:Value->Shared->Prop),tn i s.heap->Q (.ref it) s->wpAny (model P w) A (pyIter (.ref it)) Q E s
abbrev TI:=St->Hp->(It->Hp->Prop)->Prop
def zv (X:Cx) (pins:List (Addr × Obj)) (σ : St) (tg:Expr) (R:It->Hp->Prop) (itv:Value) (s2:Shared):Prop :=
 ∃ (it:Addr) (fp:List Addr) (tn:Nat->Heap->Prop) (J:It) (H':Hp),itv=.ref it/\Inv X pins σ H' s2/\Turn X.prog X.w X.K tg J fp it tn/\tn 0 s2.heap/\(∀ b ∈ fp,hJ X pins H' b)/\R J H'
def PI (X:Cx) (tg iter:Expr) (wi:TI):Prop :=
 ∀ (pins:List (Addr × Obj)) (s:Shared) (σ : St) (H:Hp) (R:It->Hp->Prop),Inv X pins σ H s->wi σ H R ->
  wpAny (model X.prog X.w) X.A (eval iter X.env) (fun v s1=>wpAny (model X.prog X.w) X.A (pyIter v) (zv X pins σ tg R) X.xe s1) X.xe s
theorem o5 {M:Model} {A:Around} {E:Value->Shared->Prop} {s:Shared} {tg:Expr} {it:Addr} {u:Value} {o:Obj} {n:String} {vs:Array Value} {Q:Unit->Shared->Prop} (ho:s.heap.get? it=some o) (hc:o.cls=.type n) (hd:o.data=.fields vs)
    (hn:["enumerate", "zip", "dict_itemiterator", "dict_reverseitemiterator", "odict_iterator", "itertools.zip_longest", "itertools.pairwise"].contains n=false) (hQ:Q () s):wpAny M A (letOwnedTupleGo tg (.ref it) u) Q E s:=by
  unfold letOwnedTupleGo
  cases tg <;> first
    | exact wpAny_pure hQ
    | (cases u <;> first
        | exact wpAny_pure hQ
        | (refine wpAny_bind (wpAny_load ho ?_)
           rw [hc,hd]
           show wpAny M A (if (["enumerate", "zip", "dict_itemiterator", "dict_reverseitemiterator", "odict_iterator", "itertools.zip_longest", "itertools.pairwise"].contains n && vs[0]? == some (rawInt _))=true then _ else _) Q E s
           rw [if_neg (by intro h;rw [hn,Bool.false_and] at h;cases h)]
           exact wpAny_pure hQ))
def rD (K:PySem.W.Frag) (a:Addr):It :=
 ⟨fun i H=>∃ xs x,aX K H a xs/\xs[i]? = some x,fun i H x H'=>H' = H/\∀ xs,aX K H a xs->xs[i]? = some x,fun i H=>∃ xs,aX K H a xs/\xs.length<=i⟩
def pG (K:PySem.W.Frag) (a:Addr):It :=
 ⟨fun i H=>∃ xs x,ay K H a xs/\xs[i]? = some x,fun i H x H'=>H' = H/\∀ xs,ay K H a xs->xs[i]? = some x,fun i H=>∃ xs,ay K H a xs/\xs.length<=i⟩
def pH (lo:Int) (n:Nat):It:=⟨fun i _=>i < n,fun i H x H'=>H' = H/\x=.int (lo+i),fun i _=>n<=i⟩
theorem tR {P:Program} {w:World} {K:PySem.W.Frag} {tg:Expr} (a it:Addr):Turn P w K tg (rD K a) [it] it (fun i h=>h.IsListIter it a i) where
 mem:=by simp
 obj:=fun i h st b hb=>by
  have e:b=it:=by simpa using hb
  subst e
  obtain⟨o,e,c,d⟩:=st
  exact⟨o,e,fun v z=>by rw [d] at z;cases z⟩
 keep:=fun i h h' st k=>st.at fun o e=>k it (by simp) o e
 item:=by
  intro X hP hw hK hc i pins s σ H E I hf st hg
  subst hP hw hK
  obtain⟨xs,x,hq,hx⟩:=hg
  obtain⟨its,rv,p,hz⟩:=I.list hq
  obtain⟨u,hu,ru⟩:=rv.get hx
  obtain⟨f0,f1,f2,f3,f4,f5⟩:=hf it (by simp)
  refine wpAny_pyNext_list_item st p.isList (x:=u) (by simpa using hu) fun h' st' sb=>?_
  have I1:Inv X pins σ H { s with heap:=h' }:=I.turned (t':=s.toks) (fun b o hb e=>(sb.2 b hb).trans e) f0 f1 f3 f4 f5
  obtain⟨o,e,c,d⟩:=id st'
  exact⟨u,rfl,o5 (s:={ s with heap:=h' }) e c d (by decide) ⟨x,H,I1,ru,⟨rfl,fun ys hy=>by rw [I.uZ hy hq];exact hx⟩,st',fun b hb=>(hf b hb).1⟩⟩
 done:=by
  intro X hP hw hK hc i pins s σ H E I hf st hg
  subst hP hw hK
  obtain⟨xs,hq,hx⟩:=hg
  obtain⟨its,rv,p,hz⟩:=I.list hq
  obtain⟨f0,f1,f2,f3,f4,f5⟩:=hf it (by simp)
  have hl:=rv.length
  exact wpAny_pyNext_list_end (I.ok.hd hc) st p.isList (by simp;omega) fun h' eb=>⟨rfl,I.turned (t':=s.toks) (fun b o hb e=>eb b o hb e) f0 f1 f3 f4 f5⟩
 self:=fun _ _ _ _ _ st h=>wpAny_pyIter_listiter st h
theorem si {P:Program} {w:World} {K:PySem.W.Frag} {tg:Expr} (a it:Addr):Turn P w K tg (pG K a) [it] it (fun i h=>h.IsTupleIter it a i) where
 mem:=by simp
 obj:=fun i h st b hb=>by
  have e:b=it:=by simpa using hb
  subst e
  obtain⟨o,e,c,d⟩:=st
  exact⟨o,e,fun v z=>by rw [d] at z;cases z⟩
 keep:=fun i h h' st k=>st.at fun o e=>k it (by simp) o e
 item:=by
  intro X hP hw hK hc i pins s σ H E I hf st hg
  subst hP hw hK
  obtain⟨xs,x,hq,hx⟩:=hg
  obtain⟨its,rv,p,hz⟩:=I.tuple hq
  obtain⟨u,hu,ru⟩:=rv.get hx
  obtain⟨f0,f1,f2,f3,f4,f5⟩:=hf it (by simp)
  refine wpAny_pyNext_tuple_item st (show s.heap.IsTuple a its.toArray from p) (x:=u) (by simpa using hu) fun h' st' sb=>?_
  have I1:Inv X pins σ H { s with heap:=h' }:=I.turned (t':=s.toks) (fun b o hb e=>(sb.2 b hb).trans e) f0 f1 f3 f4 f5
  obtain⟨o,e,c,d⟩:=id st'
  exact⟨u,rfl,o5 (s:={ s with heap:=h' }) e c d (by decide) ⟨x,H,I1,ru,⟨rfl,fun ys hy=>by rw [I.ki hy hq];exact hx⟩,st',fun b hb=>(hf b hb).1⟩⟩
 done:=by
  intro X hP hw hK hc i pins s σ H E I hf st hg
  subst hP hw hK
  obtain⟨xs,hq,hx⟩:=hg
  obtain⟨its,rv,p,hz⟩:=I.tuple hq
  obtain⟨f0,f1,f2,f3,f4,f5⟩:=hf it (by simp)
  have hl:=rv.length
  exact wpAny_pyNext_tuple_end (I.ok.hd hc) st (show s.heap.IsTuple a its.toArray from p) (by simp;omega) fun h' eb=>⟨rfl,I.turned (t':=s.toks) (fun b o hb e=>eb b o hb e) f0 f1 f3 f4 f5⟩
 self:=fun _ _ _ _ _ st h=>wpAny_pyIter_tupleiter st h
theorem sj {P:Program} {w:World} {K:PySem.W.Frag} {tg:Expr} (it:Addr) (lo:Int) (n:Nat):Turn P w K tg (pH lo n) [it] it (fun i h=>IsRangeIter h it (lo+(i:Nat) * 1) ((n:Int) - (i:Nat)) 1) where
 mem:=by simp
 obj:=fun i h st b hb=>by
  have e:b=it:=by simpa using hb
  subst e
  exact⟨_,st,fun v z=>by
   have z':Data.fields _=Data.cell v:=z
   cases z'⟩
 keep:=fun i h h' st k=>k it (by simp) _ st
 item:=by
  intro X hP hw hK hc i pins s σ H E I hf st hg
  subst hP hw hK
  obtain⟨f0,f1,f2,f3,f4,f5⟩:=hf it (by simp)
  have W:=Walks.range (prog:=X.prog) (w:=X.w) (I.ok.hd hc) it lo 1 n
  refine W.item i s _ _ hg st fun v h' tk hv st' kk=>?_
  obtain⟨t,rfl⟩:=hv
  have I1:Inv X pins σ H { s with heap:=h',toks:=tk }:=I.turned (fun b o hb e=>kk b o (by simpa using hb) e) f0 f1 f3 f4 f5
  refine⟨_,rfl,o5 (s:={ s with heap:=h',toks:=tk }) (n := "range_iterator") st' rfl rfl (by decide) ⟨.int (lo+i),H,I1,⟨t,?_⟩,⟨rfl,rfl⟩,st',fun b hb=>(hf b hb).1⟩⟩
  rw [Int.mul_one]
 done:=by
  intro X hP hw hK hc i pins s σ H E I hf st hg
  subst hP hw hK
  obtain⟨f0,f1,f2,f3,f4,f5⟩:=hf it (by simp)
  exact wpAny_pyNext_range_end (I.ok.hd hc) st (by have:n<=i:=hg;omega) fun h' eb=>⟨rfl,I.turned (t':=s.toks) (fun b o hb e=>eb b o hb e) f0 f1 f3 f4 f5⟩
 self:=fun _ _ _ _ _ st h=>wpAny_pyIter_rangeiter st h
section
variable {X:Cx} {tg:Expr}
def y7 (K:PySem.W.Frag) (tl:TE):TI:=fun σ H R=>tl σ H fun x H1=>∃ a,x=.ref a/\(∃ xs,aX K H1 a xs)/\R (rD K a) H1
def zT (K:PySem.W.Frag) (tl:TE):TI:=fun σ H R=>tl σ H fun x H1=>∃ a,x=.ref a/\(∃ xs,ay K H1 a xs)/\R (pG K a) H1
theorem hR {l:Expr} {tl:TE} (hl:PE X l tl):PI X tg l (y7 X.K tl):=by
 intro pins s σ H R I h
 refine bh (hl pins s σ H _ I h) fun v s1 ⟨x,H1,I1,r1,q1⟩=>?_
 obtain⟨a,e,⟨xs,hq⟩,q⟩:=q1
 subst e
 cases r1
 obtain⟨its,rv,p,hz⟩:=I1.list hq
 refine wpAny_pyIter_list p.isList ?_
 refine⟨s1.heap.objs.size,[s1.heap.objs.size],_,_,H1,rfl,I1.kept (t':=s1.toks) fun b o e=>Heap.get?_push_of_some _ e,tR a _,⟨_,Heap.get?_push_size _ rfl,rfl,rfl⟩,fun b hb=>?_,q⟩
 have e:b=s1.heap.objs.size:=by simpa using hb
 subst e
 exact I1.lZ (Nat.le_refl _) (I1.aG.fresh (Nat.le_refl _))
theorem e7 {l:Expr} {tl:TE} (hl:PE X l tl):PI X tg l (zT X.K tl):=by
 intro pins s σ H R I h
 refine bh (hl pins s σ H _ I h) fun v s1 ⟨x,H1,I1,r1,q1⟩=>?_
 obtain⟨a,e,⟨xs,hq⟩,q⟩:=q1
 subst e
 cases r1
 obtain⟨its,rv,p,hz⟩:=I1.tuple hq
 refine wpAny_pyIter_tuple (show s1.heap.IsTuple a its.toArray from p) ?_
 refine⟨s1.heap.objs.size,[s1.heap.objs.size],_,_,H1,rfl,I1.kept (t':=s1.toks) fun b o e=>Heap.get?_push_of_some _ e,si a _,⟨_,Heap.get?_push_size _ rfl,rfl,rfl⟩,fun b hb=>?_,q⟩
 have e:b=s1.heap.objs.size:=by simpa using hb
 subst e
 exact I1.lZ (Nat.le_refl _) (I1.aG.fresh (Nat.le_refl _))
theorem vc {pins:List (Addr × Obj)} {σ : St} {H:Hp} {s:Shared} {R:It->Hp->Prop} {E:Value->Shared->Prop} {lo hi:Int} {t u v:Tok} {tk:Nat} (I:Inv X pins σ H s) (h1:-(2 ^ 62)<=lo) (h2:lo < 2 ^ 62) (h3:-(2 ^ 62)<=hi) (h4:hi < 2 ^ 62)
  (q:R (pH lo (hi - lo).toNat) H):wpAny (model X.prog X.w) X.A (pyIter (.ref s.heap.objs.size)) (zv X pins σ tg R) E { s with heap:=s.heap.push { cls:=.type "range",data:=.fields #[.int lo t,.int hi u,.int 1 v] },toks:=tk }:=by
 refine wpAny_pyIter_range (IsRange.new ..) (small_one h1 h2 h3 h4) ?_
 have I1:Inv X pins σ H { s with heap:=s.heap.push { cls:=.type "range",data:=.fields #[.int lo t,.int hi u,.int 1 v] },toks:=tk }:=I.kept fun b o e=>Heap.get?_push_of_some _ e
 refine⟨(s.heap.push { cls:=.type "range",data:=.fields #[.int lo t,.int hi u,.int 1 v] }).objs.size,[(s.heap.push { cls:=.type "range",data:=.fields #[.int lo t,.int hi u,.int 1 v] }).objs.size],_,_,H,rfl,
  I1.kept (t':=tk) fun b o e=>Heap.get?_push_of_some _ e,sj _ lo (hi - lo).toNat,?_,fun b hb=>?_,q⟩
 ·have e1:lo+((0:Nat):Int) * 1=lo:=by simp
  have e2:(((hi - lo).toNat:Nat):Int) - ((0:Nat):Int)=Builtin.Range.rangeSize lo hi 1:=by rw [rangeSize_one];split <;> omega
  show IsRangeIter _ _ (lo+((0:Nat):Int) * 1) ((((hi - lo).toNat:Nat):Int) - ((0:Nat):Int)) 1
  rw [e1,e2]
  exact Heap.get?_push_size _ rfl
 ·have e:b=(s.heap.push { cls:=.type "range",data:=.fields #[.int lo t,.int hi u,.int 1 v] }).objs.size:=by simpa using hb
  subst e
  exact I1.lZ (Nat.le_refl _) (I1.aG.fresh (Nat.le_refl _))
def y8 (ta:TA):TI:=fun σ H R=>ta σ H fun vs H1=>∃ j:Int,vs = [.int j]/\-(2 ^ 62)<=j/\j < 2 ^ 62/\R (pH 0 j.toNat) H1
theorem fz {a:Expr} {ta:TA} {p pos:Pos} (hg:Gl X "range") (hm:X.mg "range" = none) (ha:PA X [a] ta) (hs:starEach [a] X.env = [(false,eval a X.env)]:=by rfl):PI X tg (.Call (.Name "range" p) [a] [] pos) (y8 ta):=by
 intro pins s σ H R I h
 refine Call_ (mO I hg hm boot_range (PyProof.Rows.callWith_type1 (bh (ha pos pins s σ H _ I h) fun us s1 ⟨vs,H1,I1,r1,q1⟩=>?_) hs rfl))
 obtain⟨j,e,q1,q2,q⟩:=q1
 subst e
 cases r1 with
 | cons r rr =>
  cases rr
  obtain⟨t,rfl⟩:=r
  exact call_range_1 (vc I1 (by omega) (by omega) q1 q2 (by simpa using q))
def zU (wi:TI) (g:TG) (tb:TS):TS:=fun D σ H=>wi σ H fun J H1=>∃ W:Nat->Nat->St->Hp->Prop,(∃ m,W 0 m σ H1)/\∀ i m σ H,W i m σ H ->
 (J.stop i H/\D.nx σ H)\/(J.go i H/\∃ N:St->Hp->Prop,(∀ σ' H',N σ' H'->∃ m',m' < m/\W (i+1) m' σ' H')/\∀ x H',J.pF i H x H'->g x σ H' fun σ2 H2=>tb { D with nx:=N,ct:=N,bk:=D.nx } σ2 H2)
def jH (fp:List Addr) (h:Heap):List (Addr × Obj):=fp.filterMap fun b=>(h.get? b).map fun o=>(b,o)
theorem fG {fp:List Addr} {h:Heap} {b:Addr} {o:Obj} (hb:b ∈ fp) (e:h.get? b=some o):(b,o) ∈ jH fp h:=List.mem_filterMap.mpr ⟨b,hb,by rw [e];rfl⟩
theorem tS {fp:List Addr} {h:Heap} {p:Addr × Obj} (hp:p ∈ jH fp h):p.1 ∈ fp/\h.get? p.1=some p.2:=by
 obtain⟨b,hb,e⟩:=List.mem_filterMap.mp hp
 cases q:h.get? b with
 | none=>rw [q] at e;cases e
 | some o =>
  rw [q] at e
  have e':(b,o)=p:=Option.some.inj e
  subst e'
  exact⟨hb,q⟩
theorem Inv.pinned {pins:List (Addr × Obj)} {σ : St} {H:Hp} {s:Shared} {fp:List Addr} (I:Inv X pins σ H s) (hf:∀ b ∈ fp,hJ X pins H b) (ho:∀ b ∈ fp,∃ o,s.heap.get? b=some o/\∀ v,o.data ≠ .cell v):Inv X (pins++jH fp s.heap) σ H s :=
 I.rB fun p hp=>(List.mem_append.mp hp).elim (fun z=>I.pin p (List.mem_append_right _ z)) fun z=>by
  obtain⟨hb,e⟩:=tS z
  obtain⟨f0,f1,f2,_⟩:=hf p.1 hb
  obtain⟨o,e',d⟩:=ho p.1 hb
  rw [e] at e';cases e'
  exact⟨e,f0,f1,f2,d⟩
theorem Inv.gn {pins pl:List (Addr × Obj)} {σ : St} {H:Hp} {s:Shared} (I:Inv X (pins++pl) σ H s):Inv X pins σ H s:=I.rB fun p hp=>I.pin p (List.mem_append_right _ (List.mem_append_left _ hp))
theorem dH {iter:Expr} {body:List Stmt} {wi:TI} {g:TG} {tb:TS} {pos:Pos} (hp:PassesOwn (model X.prog X.w) X.A X.env X.xe) (hc:X.calm=true) (hi:PI X tg iter wi) (hg:PG X tg g) (hb:je X body tb)
  (hs:∀ x,foldedSetIterable iter X.env x=pure x:=by intro _;rfl):PS X (.For tg iter body [] pos) (zU wi g tb):=by
 intro pins s σ H D I h
 refine wpAny_For (bh (hi pins s σ H _ I h) fun v s1 h1=>bh h1 fun itv s2 h2=>?_) hs
 obtain⟨it,fp,tn,J,H2,e,I2,T,st2,f2,W,⟨m0,w0⟩,turn⟩:=h2
 subst e
 have stat:∀ {H':Hp},(∀ b ∈ fp,H' b=none)->∀ b ∈ fp,hJ X pins H' b:=fun hn b hb=>⟨hn b hb,(f2 b hb).2⟩
 refine codeAny_forLoop_any (fun n s'=>∃ i σ' H',Inv X pins σ' H' s'/\tn i s'.heap/\(∀ b ∈ fp,H' b=none)/\W i n σ' H') ?_ m0 ⟨0,σ,H2,I2,st2,fun b hb=>(f2 b hb).1,w0⟩
 rintro n s3 ⟨i,σ3,H3,I3,st3,fr3,w3⟩
 rcases turn i n σ3 H3 w3 with ⟨stop,qn⟩ | ⟨go,N,hN,step⟩
 ·refine wpAny_passesOwn hp (bh (T.done X rfl rfl rfl hc i pins s3 σ3 H3 X.xe I3 (stat fr3) st3 stop) fun r s4 ⟨hr,I4⟩=>?_)
  subst hr
  exact wpAny_execs_nil ⟨σ3,H3,I4,qn⟩
 ·refine wpAny_passesOwn hp (bh (T.item X rfl rfl rfl hc i pins s3 σ3 H3 X.xe I3 (stat fr3) st3 go) fun r s4 ⟨u,hr,h4⟩=>?_)
  subst hr
  refine wpAny_passesOwn hp (bh h4 fun _ s5 ⟨x,H5,I5,r5,y5,st5,fr5⟩=>?_)
  have I5':=I5.pinned (stat fr5) (T.obj _ _ st5)
  refine wpAny_passesOwn hp (bh (hg _ s5 σ3 H5 x u _ I5' r5 (step x H5 y5)) fun _ s6 ⟨σ6,H6,I6,q6⟩=>?_)
  refine wpAny_passesOwn hp (bh (hb _ s6 σ6 H6 _ I6 q6) fun f s7 q7=>?_)
  have again:∀ {σ7:St} {H7:Hp},Inv X (pins++jH fp s5.heap) σ7 H7 s7->N σ7 H7->∃ m,m < n/\∃ i σ' H',Inv X pins σ' H' s7/\tn i s7.heap/\(∀ b ∈ fp,H' b=none)/\W i m σ' H':=fun {σ7 H7} I7 n7=>by
   obtain⟨m',hm,w7⟩:=hN σ7 H7 n7
   refine⟨m',hm,i+1,σ7,H7,I7.gn,T.keep _ _ _ st5 fun b hb o e=>(I7.pin (b,o) (List.mem_append_right _ (List.mem_append_right _ (fG hb e)))).1,fun b hb=>?_,w7⟩
   obtain⟨o,e,d⟩:=T.obj _ _ st5 b hb
   exact (I7.pin (b,o) (List.mem_append_right _ (List.mem_append_right _ (fG hb e)))).2.1
  cases f with
  | next=>obtain⟨σ7,H7,I7,n7⟩:=q7;exact again I7 n7
  | cont=>obtain⟨σ7,H7,I7,n7⟩:=q7;exact again I7 n7
  | brk=>obtain⟨σ7,H7,I7,q7⟩:=q7;exact⟨σ7,H7,I7.gn,q7⟩
  | ret v=>obtain⟨x7,σ7,H7,I7,r7,q7⟩:=q7;exact⟨x7,σ7,H7,I7.gn,r7,q7⟩
end
theorem ma {K:PySem.W.Frag} {a:Addr} {xs:List V} {g:TG} {tb:TS} {D:Ends} {σ : St} {H:Hp} (Pv:Nat->St->Hp->Prop) (h0:Pv 0 σ H) (hl:∀ i σ H,i<=xs.length->Pv i σ H->aX K H a xs)
  (hs:∀ i x σ H,xs[i]? = some x->Pv i σ H->g x σ H fun σ2 H2=>tb { D with nx:=Pv (i+1),ct:=Pv (i+1),bk:=D.nx } σ2 H2) (hd:∀ σ H,Pv xs.length σ H->D.nx σ H) :
  ∃ W:Nat->Nat->St->Hp->Prop,(∃ m,W 0 m σ H)/\∀ i m σ H,W i m σ H ->
   ((rD K a).stop i H/\D.nx σ H)\/((rD K a).go i H/\∃ N:St->Hp->Prop,(∀ σ' H',N σ' H'->∃ m',m' < m/\W (i+1) m' σ' H')/\∀ x H',(rD K a).pF i H x H'->g x σ H' fun σ2 H2=>tb { D with nx:=N,ct:=N,bk:=D.nx } σ2 H2):=by
 refine⟨fun i m σ H=>m=xs.length - i/\i<=xs.length/\Pv i σ H,⟨xs.length,by simp,Nat.zero_le _,h0⟩,?_⟩
 rintro i m σ H ⟨rfl,hi,p⟩
 have q:=hl i σ H hi p
 by_cases hlt:i < xs.length
 ·refine .inr ⟨⟨xs,xs[i],q,by simp [hlt]⟩,Pv (i+1),fun σ' H' p'=>⟨xs.length - (i+1),by omega,rfl,hlt,p'⟩,fun x H' y=>?_⟩
  obtain⟨e,y⟩:=y
  subst e
  exact hs i x σ _ (y xs q) p
 ·have e:i=xs.length:=by omega
  subst e
  exact .inl ⟨⟨xs,q,Nat.le_refl _⟩,hd σ H p⟩
theorem hV {K:PySem.W.Frag} {a:Addr} {xs:List V} {g:TG} {tb:TS} {D:Ends} {σ : St} {H:Hp} (Pv:Nat->St->Hp->Prop) (h0:Pv 0 σ H) (hl:∀ i σ H,i<=xs.length->Pv i σ H->ay K H a xs)
  (hs:∀ i x σ H,xs[i]? = some x->Pv i σ H->g x σ H fun σ2 H2=>tb { D with nx:=Pv (i+1),ct:=Pv (i+1),bk:=D.nx } σ2 H2) (hd:∀ σ H,Pv xs.length σ H->D.nx σ H) :
  ∃ W:Nat->Nat->St->Hp->Prop,(∃ m,W 0 m σ H)/\∀ i m σ H,W i m σ H ->
   ((pG K a).stop i H/\D.nx σ H)\/((pG K a).go i H/\∃ N:St->Hp->Prop,(∀ σ' H',N σ' H'->∃ m',m' < m/\W (i+1) m' σ' H')/\∀ x H',(pG K a).pF i H x H'->g x σ H' fun σ2 H2=>tb { D with nx:=N,ct:=N,bk:=D.nx } σ2 H2):=by
 refine⟨fun i m σ H=>m=xs.length - i/\i<=xs.length/\Pv i σ H,⟨xs.length,by simp,Nat.zero_le _,h0⟩,?_⟩
 rintro i m σ H ⟨rfl,hi,p⟩
 have q:=hl i σ H hi p
 by_cases hlt:i < xs.length
 ·refine .inr ⟨⟨xs,xs[i],q,by simp [hlt]⟩,Pv (i+1),fun σ' H' p'=>⟨xs.length - (i+1),by omega,rfl,hlt,p'⟩,fun x H' y=>?_⟩
  obtain⟨e,y⟩:=y
  subst e
  exact hs i x σ _ (y xs q) p
 ·have e:i=xs.length:=by omega
  subst e
  exact .inl ⟨⟨xs,q,Nat.le_refl _⟩,hd σ H p⟩
theorem jf {lo:Int} {n:Nat} {g:TG} {tb:TS} {D:Ends} {σ : St} {H:Hp} (Pv:Nat->St->Hp->Prop) (h0:Pv 0 σ H)
  (hs:∀ i σ H,i < n->Pv i σ H->g (.int (lo+i)) σ H fun σ2 H2=>tb { D with nx:=Pv (i+1),ct:=Pv (i+1),bk:=D.nx } σ2 H2) (hd:∀ σ H,Pv n σ H->D.nx σ H) :
  ∃ W:Nat->Nat->St->Hp->Prop,(∃ m,W 0 m σ H)/\∀ i m σ H,W i m σ H ->
   ((pH lo n).stop i H/\D.nx σ H)\/((pH lo n).go i H/\∃ N:St->Hp->Prop,(∀ σ' H',N σ' H'->∃ m',m' < m/\W (i+1) m' σ' H')/\∀ x H',(pH lo n).pF i H x H'->g x σ H' fun σ2 H2=>tb { D with nx:=N,ct:=N,bk:=D.nx } σ2 H2):=by
 refine⟨fun i m σ H=>m=n - i/\i<=n/\Pv i σ H,⟨n,by simp,Nat.zero_le _,h0⟩,?_⟩
 rintro i m σ H ⟨rfl,hi,p⟩
 by_cases hlt:i < n
 ·refine .inr ⟨hlt,Pv (i+1),fun σ' H' p'=>⟨n - (i+1),by omega,rfl,hlt,p'⟩,fun x H' y=>?_⟩
  obtain⟨e,y⟩:=y
  subst e y
  exact hs i σ _ hlt p
 ·have e:i=n:=by omega
  subst e
  exact .inl ⟨Nat.le_refl _,hd σ H p⟩
abbrev R2:=V->V->Hp->VK->Prop
def en (X:Cx) (f:Value->Value->Sem Value) (r:R2):Prop :=
 ∀ (pins:List (Addr × Obj)) (s:Shared) (σ : St) (H:Hp) (x y:V) (v u:Value) (Q:VK),Inv X pins σ H s->RelV x v->RelV y u->r x y H Q ->
  wpAny (model X.prog X.w) X.A (f v u) (EP X pins σ Q) X.xe s
def d9 (X:Cx) (f:Value) (r:List V->Hp->VK->Prop):Prop :=
 ∀ (pins:List (Addr × Obj)) (s:Shared) (σ : St) (H:Hp) (xs:List V) (us:List Value) (Q:VK),Inv X pins σ H s->Vals xs us->r xs H Q ->
  wpAny (model X.prog X.w) X.A (call f us) (EP X pins σ Q) X.xe s
def zV (X:Cx) (r:V->Hp->(Bool->Hp->Prop)->Prop):Prop :=
 ∀ (pins:List (Addr × Obj)) (s:Shared) (σ : St) (H:Hp) (x:V) (v:Value) (Q:Bool->Hp->Prop),Inv X pins σ H s->RelV x v->r x H Q ->
  wpAny (model X.prog X.w) X.A (truthy v) (TP X pins σ Q) X.xe s
def wJ (r:R2) (ta tb:TE):TE:=fun σ H Q=>ta σ H fun x H1=>tb σ H1 fun y H2=>r x y H2 Q
def rI (C:Int->Int->Prop) (g:Int->Int->V):R2:=fun x y H Q=>∃ i j,x=.int i/\y=.int j/\C i j/\Q (g i j) H
def oi (g:Int->Int->V):R2:=fun x y H Q=>∃ i j,x=.int i/\y=.int j/\Q (g i j) H
section
variable {X:Cx} {a b c:Expr} {ta tb tc:TE} {pos:Pos}
theorem vd (ha:PE X a ta) (hb:PE X b tb) {pins:List (Addr × Obj)} {s:Shared} {σ : St} {H:Hp} {R:V->V->Hp->Prop} (I:Inv X pins σ H s)
  (h:ta σ H fun x H1=>tb σ H1 fun y H2=>R x y H2) {Q:Value->Shared->Prop} {f:Value->Value->Sem Value}
  (hf:∀ v u s2 x y H2,Inv X pins σ H2 s2->RelV x v->RelV y u->R x y H2->wpAny (model X.prog X.w) X.A (f v u) Q X.xe s2) :
  wpAny (model X.prog X.w) X.A (eval a X.env) (fun v s₁=>wpAny (model X.prog X.w) X.A (eval b X.env) (fun u s₂=>wpAny (model X.prog X.w) X.A (f v u) Q X.xe s₂) X.xe s₁) X.xe s:=by
 refine bh (ha pins s σ H _ I h) fun v s1 ⟨x,H1,I1,r1,q1⟩=>?_
 refine bh (hb pins s1 σ H1 _ I1 q1) fun u s2 ⟨y,H2,I2,r2,q2⟩=>?_
 exact hf v u s2 x y H2 I2 r1 r2 q2
theorem ba {op:Operator} {r:R2} (ho:en X (binaryOp op) r) (ha:PE X a ta) (hb:PE X b tb):PE X (.BinOp a op b pos) (wJ r ta tb):=by
 intro pins s σ H Q I h
 exact wpAny_BinOp (vd ha hb I h fun v u s2 x y H2 I2 rx ry q=>ho pins s2 σ H2 x y v u Q I2 rx ry q)
theorem rE {f:Value->Value->Sem Value} {C:Int->Int->Prop} {g:Int->Int->Int}
  (rule:∀ (i j:Int) (t u:Tok) (s:Shared) (Q:Value->Shared->Prop) (E:Value->Shared->Prop),C i j->Q (.int (g i j) s.toks) { s with toks:=s.toks+1 }->wpAny (model X.prog X.w) X.A (f (.int i t) (.int j u)) Q E s) :
  en X f (rI C fun i j=>.int (g i j)):=by
 intro pins s σ H x y v u Q I rx ry h
 obtain⟨i,j,rfl,rfl,hc,q⟩:=h
 obtain⟨t,rfl⟩:=rx
 obtain⟨t',rfl⟩:=ry
 exact rule i j t t' s _ _ hc ⟨.int (g i j),H,I.tok _,⟨_,rfl⟩,q⟩
theorem yb {f:Value->Value->Sem Value} {g:Int->Int->Int}
  (rule:∀ (i j:Int) (t u:Tok) (s:Shared) (Q:Value->Shared->Prop) (E:Value->Shared->Prop),Q (.int (g i j) s.toks) { s with toks:=s.toks+1 }->wpAny (model X.prog X.w) X.A (f (.int i t) (.int j u)) Q E s) :
  en X f (oi fun i j=>.int (g i j)):=by
 intro pins s σ H x y v u Q I rx ry h
 obtain⟨i,j,rfl,rfl,q⟩:=h
 obtain⟨t,rfl⟩:=rx
 obtain⟨t',rfl⟩:=ry
 exact rule i j t t' s _ _ ⟨.int (g i j),H,I.tok _,⟨_,rfl⟩,q⟩
theorem sk {f:Value->Value->Sem Value} {g:Int->Int->Bool}
  (rule:∀ (i j:Int) (t u:Tok) (s:Shared) (Q:Value->Shared->Prop) (E:Value->Shared->Prop),Q (.bool (g i j)) s->wpAny (model X.prog X.w) X.A (f (.int i t) (.int j u)) Q E s) :
  en X f (oi fun i j=>.bl (g i j)):=by
 intro pins s σ H x y v u Q I rx ry h
 obtain⟨i,j,rfl,rfl,q⟩:=h
 obtain⟨t,rfl⟩:=rx
 obtain⟨t',rfl⟩:=ry
 exact rule i j t t' s _ _ ⟨.bl (g i j),H,I,rfl,q⟩
def zW (i j:Int):Prop:=0 < j/\j < 1073741824
def zX (i j:Int):Prop:=0<=j/\j<=1000000/\i.natAbs < 2 ^ 64
def ve (i j:Int):Prop:=(-(2 ^ 64) < i/\i < 2 ^ 64)\/(-(2 ^ 64) < j/\j < 2 ^ 64)
theorem ve.ok {i j:Int} (h:ve i j):IntMulOk i j:=by
 rcases h with ⟨h1,h2⟩ | ⟨h1,h2⟩
 ·exact .of_left (intBits_le_64 h1 h2)
 ·exact .of_right (intBits_le_64 h1 h2)
theorem cL:en X (binaryOp .Add) (oi fun i j=>.int (i+j)):=yb fun _ _ _ _ _ _ _ q=>add_int q
theorem fZ:en X (binaryOp .Sub) (oi fun i j=>.int (i - j)):=yb fun _ _ _ _ _ _ _ q=>sub_int q
theorem iZ:en X (binaryOp .Mult) (rI ve fun i j=>.int (i * j)):=rE fun _ _ _ _ _ _ _ hc q=>mul_int q hc.ok
theorem nE:en X (binaryOp .FloorDiv) (rI zW fun i j=>.int (i / j)):=rE fun i j _ _ _ _ _ hc q=>by
 have h1:(0:Int) < j:=hc.1
 have h2:j < 1073741824:=hc.2
 exact floordiv_int (by omega) (by rw [Int.fdiv_eq_ediv_of_nonneg i (by omega)];exact q) (.inl (PyProof.noPylong_small (by omega)))
theorem gP:en X (binaryOp .Mod) (rI (fun _ j=>0 < j) fun i j=>.int (i % j)):=rE fun i j _ _ _ _ _ hc q=>by
 have h1:(0:Int) < j:=hc
 exact mod_int' (by omega) (by rw [Int.fmod_eq_emod_of_nonneg i (by omega)];exact q)
theorem mP:en X (binaryOp .Pow) (rI zX fun i j=>.int (i ^ j.toNat)):=rE fun _ _ _ _ _ _ _ hc q=>pow_int_small hc.1 hc.2.1 hc.2.2 q
end
def yc:V->V->Bool
 | .aB,.aB=>true | .aB,.int _=>true | .int _,.aB=>true | .aB,.bl _=>true | .bl _,.aB=>true | .aB,.str _=>true | .str _,.aB=>true
 | .int _,.int _=>true | .bl _,.bl _=>true | .str _,.str _=>true | .j5 _,.j5 _=>true
 | .int _,.str _=>true | .str _,.int _=>true | .bl _,.str _=>true | .str _,.bl _=>true
 | _,_=>false
def Al:R2:=fun x y H Q=>yc x y=true/\Q (.bl (decide (x=y))) H
theorem w6 {i j:Int}:decide (V.int i=V.int j)=(i == j):=by
 rw [Bool.eq_iff_iff]
 simp
theorem yd {i j:Bool}:decide (V.bl i=V.bl j)=(i == j):=by
 rw [Bool.eq_iff_iff]
 simp
theorem w9 {i j:Str}:decide (V.str i=V.str j)=(i == j):=by
 rw [Bool.eq_iff_iff]
 simp
theorem xa {i j:Array UInt8}:decide (V.j5 i=V.j5 j)=(i.toList == j.toList):=by
 rw [Bool.eq_iff_iff]
 cases i
 cases j
 simp
section
variable {X:Cx} {a b c:Expr} {ta tb tc:TE} {pos:Pos}
theorem dI {pins:List (Addr × Obj)} {σ : St} {H:Hp} {s:Shared} {Q:VK} {k k':Bool} (I:Inv X pins σ H s) (q:Q (.bl k) H) (e:k=k'):EP X pins σ Q (.bool k') s:=by
 subst e
 exact⟨.bl k,H,I,rfl,q⟩
theorem cg:en X (compareOp .Eq) Al:=by
 intro pins s σ H x y v u Q I rx ry h
 obtain⟨hs,q⟩:=h
 cases x with
 | aB =>
  cases rx
  cases y with
  | aB=>cases ry;exact PySem.EqNone.eq_none_none (dI I q (by simp))
  | bl j=>cases ry;exact PySem.EqNone.eq_none_bool (dI I q (by simp))
  | int j=>obtain⟨t',rfl⟩:=ry;exact PySem.EqNone.eq_none_int (dI I q (by simp))
  | str j=>obtain⟨t',rfl⟩:=ry;exact PySem.EqNone.eq_none_str (dI I q (by simp))
  | _=>exact absurd (show false=true from hs) Bool.false_ne_true
 | bl i =>
  cases rx
  cases y with
  | aB=>cases ry;exact PySem.EqNone.eq_bool_none (dI I q (by simp))
  | bl j=>cases ry;exact eq_bool (dI I q yd)
  | str j=>obtain⟨t',rfl⟩:=ry;exact PySem.EqMixed.eq_bool_str (dI I q (by simp))
  | _=>exact absurd (show false=true from hs) Bool.false_ne_true
 | int i =>
  obtain⟨t,rfl⟩:=rx
  cases y with
  | aB=>cases ry;exact PySem.EqNone.eq_int_none (dI I q (by simp))
  | int j=>obtain⟨t',rfl⟩:=ry;exact eq_int (dI I q w6)
  | str j=>obtain⟨t',rfl⟩:=ry;exact PySem.EqMixed.eq_int_str (dI I q (by simp))
  | _=>exact absurd (show false=true from hs) Bool.false_ne_true
 | str i =>
  obtain⟨t,rfl⟩:=rx
  cases y with
  | aB=>cases ry;exact PySem.EqNone.eq_str_none (dI I q (by simp))
  | bl j=>cases ry;exact PySem.EqMixed.eq_str_bool (dI I q (by simp))
  | int j=>obtain⟨t',rfl⟩:=ry;exact PySem.EqMixed.eq_str_int (dI I q (by simp))
  | str j=>obtain⟨t',rfl⟩:=ry;exact eq_str (dI I q w9)
  | _=>exact absurd (show false=true from hs) Bool.false_ne_true
 | j5 i =>
  obtain⟨t,rfl⟩:=rx
  cases y with
  | j5 j=>obtain⟨t',rfl⟩:=ry;exact PySem.W.eq_bytes (dI I q xa)
  | _=>exact absurd (show false=true from hs) Bool.false_ne_true
 | _=>cases y <;> exact absurd (show false=true from hs) Bool.false_ne_true
theorem jg:en X (compareOp .Lt) (oi fun i j=>.bl (decide (i < j))):=sk fun _ _ _ _ _ _ _ q=>lt_int q
theorem o6:en X (compareOp .LtE) (oi fun i j=>.bl (decide (i<=j))):=sk fun _ _ _ _ _ _ _ q=>le_int q
theorem jh:en X (compareOp .Gt) (oi fun i j=>.bl (decide (j < i))):=sk fun _ _ _ _ _ _ _ q=>gt_int q
theorem y9:en X (compareOp .GtE) (oi fun i j=>.bl (decide (j<=i))):=sk fun _ _ _ _ _ _ _ q=>ge_int q
theorem aS (b:Expr) {op:CmpOp} (h:op ≠ .In:=by decide) (h2:op ≠ .NotIn:=by decide):behindInMarks op b=false:=by
 have e1:(op == CmpOp.In)=false:=by cases op <;> first | rfl | exact absurd rfl h
 have e2:(op == CmpOp.NotIn)=false:=by cases op <;> first | rfl | exact absurd rfl h2
 cases b <;> simp [behindInMarks,e1,e2]
theorem fH {op:CmpOp} {r:R2} (ho:en X (compareOp op) r) (ha:PE X a ta) (hb:PE X b tb) (hm:behindInMarks op b=false):PE X (.Compare a [op] [b] pos) (wJ r ta tb):=by
 intro pins s σ H Q I h
 exact wpAny_Compare1 (vd ha hb I h fun v u s2 x y H2 I2 rx ry q=>ho pins s2 σ H2 x y v u Q I2 rx ry q) hm
def za (t:TE):TT:=fun σ H Q=>t σ H fun x H'=>∃ k,x=.bl k/\Q k H'
theorem aP {op:CmpOp} {r:R2} (ho:en X (compareOp op) r) (ha:PE X a ta) (hb:PE X b tb) (hm:behindInMarks op b=false):PT X (.Compare a [op] [b] pos) (za (wJ r ta tb)):=by
 intro pins s σ H Q I h
 refine wpAny_isTrue_Compare1 (bh (ha pins s σ H _ I h) fun v s1 ⟨x,H1,I1,r1,q1⟩=>bh (hb pins s1 σ H1 _ I1 q1) fun u s2 ⟨y,H2,I2,r2,q2⟩ =>
  bh (ho pins s2 σ H2 x y v u _ I2 r1 r2 q2) fun c s3 ⟨z,H3,I3,r3,k,e,q3⟩=>?_) hm
 subst e
 cases r3
 exact wpAny_truthy_bool ⟨H3,I3,q3⟩
def ye (K:PySem.W.Frag) (x:V) (H:Hp) (k:Bool):Prop :=
 match x with
 | .aB=>k=false
 | .bl b=>k=b
 | .int i=>k=(i != 0)
 | .str y=>y.length<=sizeLine/\k=((y.length:Int) != 0)
 | .j5 y=>y.size<=sizeLine/\k=((y.size:Int) != 0)
 | .ref p=>(∃ xs,aX K H p xs/\k = !xs.isEmpty)\/(∃ xs,ay K H p xs/\k = !xs.isEmpty)\/∃ kvs,H p=some (.dK kvs)/\k = !kvs.isEmpty
 | _=>False
theorem so {κ : Type} {kvs:List (κ × V)} {vs:List (κ × Value)} (r:KV kvs vs):(!vs.isEmpty) = !kvs.isEmpty:=by
 cases r <;> rfl
theorem mQ {xs:List V} {its:List Value} (r:Vals xs its):(!its.toArray.isEmpty) = !xs.isEmpty:=by
 cases r <;> simp
theorem i0:(sizeLine:Nat) < 2 ^ 63:=by rw [sizeLine_eq];decide
theorem yf:zV X (fun x H Q=>∃ k,ye X.K x H k/\Q k H):=by
 intro pins s σ H x v Q I rx h
 obtain⟨k,e,q⟩:=h
 have hl:=i0
 have hs:sizeLine=16777216:=sizeLine_eq
 cases x with
 | aB =>
  cases rx
  have e':k=false:=e
  subst e'
  exact truthy_none ⟨H,I,q⟩
 | bl b =>
  cases rx
  have e':k=b:=e
  subst e'
  exact wpAny_truthy_bool ⟨H,I,q⟩
 | int i =>
  obtain⟨t,rfl⟩:=rx
  have e':k=(i != 0):=e
  subst e'
  exact PySem.P.truthy_int ⟨H,I,q⟩
 | str y =>
  obtain⟨t,rfl⟩:=rx
  obtain⟨hy,e'⟩:y.length<=sizeLine/\k=((y.length:Int) != 0):=e
  subst e'
  exact PySem.P.truthy_str (by omega) ⟨H,I.tok _,q⟩
 | j5 y =>
  obtain⟨t,rfl⟩:=rx
  obtain⟨hy,e'⟩:y.size<=sizeLine/\k=((y.size:Int) != 0):=e
  subst e'
  exact PySem.W.truthy_bytes (by omega) ⟨H,I.tok _,q⟩
 | ref p =>
  cases rx
  have e':(∃ xs,aX X.K H p xs/\k = !xs.isEmpty)\/(∃ xs,ay X.K H p xs/\k = !xs.isEmpty)\/∃ kvs,H p=some (.dK kvs)/\k = !kvs.isEmpty:=e
  rcases e' with ⟨xs,hx,e'⟩ | ⟨xs,hx,e'⟩ | ⟨kvs,hx,e'⟩
  ·subst e'
   obtain⟨its,r,pl,hz⟩:=I.list hx
   have hlen:=r.length
   exact wpAny_truthy_list pl.isList (by simp only [List.size_toArray];omega) ⟨H,I.tok _,by rw [mQ r];exact q⟩
  ·subst e'
   obtain⟨its,r,pl,hz⟩:=I.tuple hx
   have hlen:=r.length
   exact truthy_tuple pl (by simp only [List.size_toArray];omega) ⟨H,I.tok _,by rw [mQ r];exact q⟩
  ·subst e'
   obtain⟨hz,hS,vs,r,m⟩:kvs.length<=sizeLine/\(p == sysModules)=false/\∃ vs,KV kvs vs/\s.heap.DictOf (aL X.prog X.w) p vs:=I.aG p _ hx
   have hlen:kvs.length=vs.length:=Paired.length r
   exact wpAny_truthy_dict hS m (by omega) ⟨H,I.tok _,by rw [so r];exact q⟩
 | _=>exact (show False from e).elim
theorem sr:en X (binaryOp .Add) (fun x y H Q=>∃ i j,x=.str i/\y=.str j/\i.length+j.length<=sizeLine/\Q (.str (i++j)) H):=by
 intro pins s σ H x y v u Q I rx ry h
 obtain⟨i,j,rfl,rfl,hz,q⟩:=h
 obtain⟨t,rfl⟩:=rx
 obtain⟨t',rfl⟩:=ry
 exact add_str (fun t' tk=>⟨.str (i++j),H,I.tok _,⟨_,rfl⟩,q⟩) hz
theorem vals1 {x:V} {us:List Value} (r:Vals [x] us):∃ u,us = [u]/\RelV x u:=by
 cases r with
 | cons r1 r2=>cases r2;exact⟨_,rfl,r1⟩
theorem vals2 {x y:V} {us:List Value} (r:Vals [x,y] us):∃ u w',us = [u,w']/\RelV x u/\RelV y w':=by
 cases r with
 | cons r1 r2 =>
  cases r2 with
  | cons r3 r4=>cases r4;exact⟨_,_,rfl,r1,r3⟩
theorem tT (hc:X.calm=true):d9 X (.builtin "max") (fun xs H Q=>∃ i j,xs = [.int i,.int j]/\Q (.int (if j > i then j else i)) H):=by
 intro pins s σ H xs us Q I r h
 obtain⟨i,j,rfl,q⟩:=h
 obtain⟨u,w',rfl,⟨t,rfl⟩,⟨t',rfl⟩⟩:=vals2 r
 refine max_two_ints (I.ok.hd hc) fun h' tk k=>⟨_,H,I.kept k,?_,q⟩
 by_cases hj:j > i
 ·rw [if_pos hj,if_pos hj];exact⟨_,rfl⟩
 ·rw [if_neg hj,if_neg hj];exact⟨_,rfl⟩
theorem om (hc:X.calm=true):d9 X (.builtin "min") (fun xs H Q=>∃ i j,xs = [.int i,.int j]/\Q (.int (if j < i then j else i)) H):=by
 intro pins s σ H xs us Q I r h
 obtain⟨i,j,rfl,q⟩:=h
 obtain⟨u,w',rfl,⟨t,rfl⟩,⟨t',rfl⟩⟩:=vals2 r
 refine min_two_ints (I.ok.hd hc) fun h' tk k=>⟨_,H,I.kept k,?_,q⟩
 by_cases hj:j < i
 ·rw [if_pos hj,if_pos hj];exact⟨_,rfl⟩
 ·rw [if_neg hj,if_neg hj];exact⟨_,rfl⟩
theorem ix:d9 X (.type "int") (fun xs H Q=>(∃ i,xs = [.int i]/\Q (.int i) H)\/∃ k,xs = [.bl k]/\Q (.int (if k then 1 else 0)) H):=by
 intro pins s σ H xs us Q I r h
 rcases h with ⟨i,rfl,q⟩ | ⟨k,rfl,q⟩
 ·obtain⟨u,rfl,t,rfl⟩:=vals1 r
  exact call_int_int ⟨.int i,H,I,⟨_,rfl⟩,q⟩
 ·obtain⟨u,rfl,r1⟩:=vals1 r
  cases r1
  exact call_int_bool ⟨.int (if k then 1 else 0),H,I.tok _,⟨_,rfl⟩,q⟩
end
section
variable {prog:Program} {w:World} {A:Around} {E:Value->Shared->Prop} {s:Shared} {K:PySem.W.Frag} {x dx C f:Addr} {mA:Str->Option Value} {name:Str} {v:Value}
end
theorem fW.some_of {v:V} {o:Option Value} (r:fW (some v) o):∃ u,o=some u/\RelV v u:=by
 cases o with
 | none=>exact (show False from r).elim
 | some u=>exact⟨u,rfl,r⟩
theorem fW.none_of {o:Option Value} (r:fW none o):o=none:=by
 cases o with
 | none=>rfl
 | some u=>exact (show False from r).elim
section
variable {P:Program} {w:World} {H H':Hp} {h h':Heap} {a C dx:Addr} {fs fs':List (Str × V)}
end
section
variable {X:Cx} {pins:List (Addr × Obj)} {σ : St} {H:Hp} {s:Shared} {a C dx:Addr} {fs:List (Str × V)} {f:Str} {v:V} {A:Around} {E:Value->Shared->Prop}
end
section
variable {X:Cx} {o e value:Expr} {f:Str} {pos pos' tpos:Pos} {ta tv:TE}
end
section
variable {X:Cx} {pins:List (Addr × Obj)} {σ : St} {H:Hp} {s:Shared} {A:Around} {E:Value->Shared->Prop} {Q:Value->Shared->Prop} {c:Value} {b:Bool}
end
structure eX (k:Nat) (A:Around):Prop where
 hd:A.handled=none
 dp:A.depth+3 * k+5 < recursionLimit
 un:A.units+16 * k+200 < cLine
theorem eX.mono {j k:Nat} {A:Around} (r:eX k A) (h:j<=k):eX j A:=⟨r.hd,by have:=r.dp;omega,by have:=r.un;omega⟩
theorem eX.deeper {k:Nat} {A:Around} (r:eX (k+1) A) (env:Env):eX k (A.deeper env) :=
 ⟨r.hd,by have:=r.dp;show A.depth+1+3 * k+5 < _;omega,by have:=r.un;show A.units+3+16 * k+200 < _;omega⟩
theorem eX.depth {k:Nat} {A:Around} (r:eX k A):A.depth < recursionLimit:=by have:=r.dp;omega
theorem eX.units {k:Nat} {A:Around} (r:eX k A):A.units+64 < cLine:=by have:=r.un;omega
def yg:TA:=fun _ H Q=>Q [] H
def sy (ta:TE) (tr:TA):TA:=fun σ H Q=>ta σ H fun x H1=>tr σ H1 fun xs H2=>Q (x :: xs) H2
section
variable {X:Cx} {e:Expr} {es:List Expr} {te:TE} {t:TA} {pos:Pos}
theorem af:PA X [] yg:=fun _ _ _ _ H Q I h=>Calls.spliced_nil ⟨[],H,I,.nil,h⟩
theorem aa (ha:PE X e te) (hr:PA X es t) (hs:starEach (e :: es) X.env=(false,eval e X.env) :: starEach es X.env:=by rfl):PA X (e :: es) (sy te t):=by
 intro pos pins s σ H Q I h
 rw [hs]
 show wpAny _ _ (spliced ((false,eval e X.env) :: backTo pos (starEach es X.env))) _ _ s
 refine Calls.spliced_cons (bh (ha pins s σ H _ I h) fun u s1 ⟨x,H1,I1,r1,q1⟩=>?_)
 exact bh (hr pos pins s1 σ H1 _ I1 q1) fun us s2 ⟨xs,H2,I2,r2,q2⟩=>⟨x :: xs,H2,I2,.cons r1 r2,q2⟩
def yh (t:TA):TE:=fun σ H Q=>t σ H fun xs H1=>xs.length<=sizeLine/\∀ p,H1 p=none->Q (.ref p) (upd H1 p (.tup xs))
def zY (t:TA):TE:=fun σ H Q=>t σ H fun xs H1=>xs.length<=sizeLine/\∀ p,H1 p=none->Q (.ref p) (upd H1 p (.lst xs))
theorem bp {x1} (h:PA X es t):PE X (.Tuple es x1 pos) (yh t):=by
 intro pins s σ H Q I hq
 refine wpAny_Tuple_spliced (bh (h pos pins s σ H _ I hq) fun us s1 ⟨xs,H1,I1,r,z,q⟩=>⟨by rw [<-r.length];exact z,?_⟩)
 have hf:H1 s1.heap.objs.size=none:=I1.aG.fresh (Nat.le_refl _)
 refine⟨.ref s1.heap.objs.size,upd H1 s1.heap.objs.size (.tup xs),I1.laid (t':=s1.toks) (fun b u e=>Heap.get?_push_of_some _ e) (Nat.le_refl _) ?_,rfl,q _ hf⟩
 exact⟨z,us,r,⟨_,Heap.get?_push_size _ rfl,rfl,_,rfl,rfl⟩⟩
theorem cD (h:PA X es t):PE X (.List es pos) (zY t):=by
 intro pins s σ H Q I hq
 refine wpAny_List_spliced (bh (h pos pins s σ H _ I hq) fun us s1 ⟨xs,H1,I1,r,z,q⟩=>⟨by rw [<-r.length];exact z,?_⟩)
 have hf:H1 s1.heap.objs.size=none:=I1.aG.fresh (Nat.le_refl _)
 refine⟨.ref s1.heap.objs.size,upd H1 s1.heap.objs.size (.lst xs),I1.laid (t':=s1.toks) (fun b u e=>Heap.get?_push_of_some _ e) (Nat.le_refl _) ?_,rfl,q _ hf⟩
 exact⟨z,us,0,r,Heap.get?_push_size _ rfl⟩
end
abbrev Sp:=List V->Hp->VK->XK->Prop
abbrev kj:=List Env->Hp->Shared->XK->Value->Shared->Prop
structure sA (P:Program) (w:World) (K:PySem.W.Frag) (mg:Str->Option Value) (base:Heap) (A:Around) (outer:List Env) (s:Shared) (H:Hp):Prop where
 frames:A.frames=some outer
 mod:Mod K mg base
 bs:∀ b o,base.get? b=some o->s.heap.get? b=some o/\H b=none
 n5:base.objs.size<=s.heap.objs.size
 iY:s.heap.FunFrames base outer
 rq:∀ b ∈ ke outer,H b=none
 aG:dG P w H s.heap
 bare:AllBare s.gens
def CE (outer:List Env) (P:Program) (w:World) (H:Hp) (s:Shared) (Q:VK) (u:Value) (s':Shared):Prop :=
 ∃ v H',s'.os=s.os/\AllBare s'.gens/\Un (ke outer) [] H H' s.heap s'.heap/\dG P w H' s'.heap/\RelV v u/\Q v H'
def CR (CX:kj) (outer:List Env) (P:Program) (w:World) (H:Hp) (s:Shared) (Q:VK) (E:XK) (r:Result) (s':Shared):Prop :=
 match r with
 | .ok (.ret u)=>CE outer P w H s Q u s'
 | .ok _=>False
 | .error e=>CX outer H s E e s'
structure bD (P:Program) (w:World) (K:PySem.W.Frag) (mg:Str->Option Value) (base:Heap) (CX:kj) (k:Nat) (f:Addr) (fd:FuncData) (ps:List Str) (sp:Sp):Prop where
 len:∀ vs H Q E,sp vs H Q E->vs.length=ps.length
 run:∀ (A:Around) (outer:List Env) (s:Shared) (H:Hp) (args:Args) (us:List Value) (vs:List V) (Q:VK) (E:XK),eX k A->sA P w K mg base A outer s H->BindsTo s fd args (ps.zip us)->Vals vs us->sp vs H Q E ->
  codeAny (model P w) A (.call (.ref f) args) (CR CX outer P w H s Q E) s
section
variable {X:Cx} {pins:List (Addr × Obj)} {σ : St} {H:Hp} {s s':Shared}
theorem Inv.zZ (I:Inv X pins σ H s):sA X.prog X.w X.K X.mg X.base X.A X.stack s H :=
 ⟨I.ok.frames,I.ok.mod,I.bs,Nat.le_trans I.ok.n5 I.sz,I.stack,I.rA,I.aG,I.bare⟩
theorem Inv.after {Q:VK} {u:Value} (I:Inv X pins σ H s) (h:CE X.stack X.prog X.w H s Q u s'):EP X pins σ Q u s':=by
 obtain⟨v,H',os,bare,un,aG,r,q⟩:=h
 obtain⟨hh,g,d,t,os'⟩:=s'
 obtain rfl:os' = s.os:=os
 exact⟨v,H',I.call (h':=hh) (g':=g) (d':=d) (t':=t) (ch:=[]) un aG bare (fun b z=>absurd z (by simp)),r,q⟩
end
def wK (sp:Sp) (dvs:List V) (E:XK) (t:TA):TE:=fun σ H Q=>t σ H fun vs H1=>sp (vs++dvs) H1 Q E
def Binds (K:PySem.W.Frag) (fd:FuncData) (ps:List Str) (ds:List Value):Prop :=
 ∀ (s:Shared) (us:List Value),K.In s.heap->(us++ds).length=ps.length->BindsTo s fd ⟨us,[]⟩ (ps.zip (us++ds))
theorem Binds.all {K:PySem.W.Frag} {fd:FuncData} {ps:List Str} (h:∀ us:List Value,us.length=ps.length->bindArgs fd ⟨us,[]⟩=pure (ps.zip us)):Binds K fd ps []:=fun s us _ hl=>by
 rw [List.append_nil] at hl ⊢
 exact .of_eq (h us hl)
def Passes (CX:kj) (X:Cx) (E:XK):Prop:=∀ (pins:List (Addr × Obj)) (σ : St) (H:Hp) (s:Shared) (e:Value) (s':Shared),Inv X pins σ H s->CX X.stack H s E e s'->X.xe e s'
section
variable {X:Cx} {CX:kj} {k:Nat} {f C:Addr} {fd:FuncData} {ps:List Str} {sp:Sp} {dvs:List V} {ds:List Value} {E:XK} {x m:Str} {p pos apos:Pos} {e o:Expr} {es:List Expr} {ta:TE} {t:TA}
theorem yi {pins:List (Addr × Obj)} {σ : St} {H:Hp} {s:Shared} {Q:VK} {us:List Value} {vs:List V} (F:bD X.prog X.w X.K X.mg X.base CX k f fd ps sp) (hr:eX k X.A) (hb:Binds X.K fd ps ds) (hd:Vals dvs ds) (hx:Passes CX X E)
  (I:Inv X pins σ H s) (r:Vals vs us) (h:sp (vs++dvs) H Q E):wpAny (model X.prog X.w) X.A (call (.ref f) us) (EP X pins σ Q) X.xe s:=by
 have r2:Vals (vs++dvs) (us++ds):=r.append hd
 have hl:(us++ds).length=ps.length:=by rw [<-r2.length];exact F.len _ _ _ _ h
 refine wpAny_call (codeAny_mono (F.run X.A X.stack s H ⟨us,[]⟩ (us++ds) (vs++dvs) Q E hr I.zZ (hb s us I.oa hl) r2 h) fun r s' hq=>?_)
 cases r with
 | error e=>exact hx pins σ H s e s' I hq
 | ok fl =>
  cases fl with
  | ret u=>exact I.after hq
  | next=>exact False.elim hq
  | brk=>exact False.elim hq
  | cont=>exact False.elim hq
theorem xb (F:bD X.prog X.w X.K X.mg X.base CX k f fd ps sp) (hr:eX k X.A) (hg:Gl X x) (hm:X.mg x=some (.ref f)) (hk:PySem.W.keepIn X.K (.ref f)=true) (hb:Binds X.K fd ps ds) (hd:Vals dvs ds) (hx:Passes CX X E)
  (ha:PA X (e :: es) t) (hdb:(x == ("__debug__" : Str))=false:=by decide) (he:starEach (e :: es) X.env=(false,eval e X.env) :: starEach es X.env:=by rfl) (hpl:(backTo pos (starEach es X.env)).any (·.1)=false:=by rfl) :
  PE X (.Call (.Name x p) (e :: es) [] pos) (wK sp dvs E t):=by
 intro pins s σ H Q I h
 refine wpAny_Call_Name_kw (rC I hg hm ?_ hdb)
 refine PySem.W.callWith_K (h₀:=X.base) I.ok.mod.xV hk (bh (ha pos pins s σ H _ I h) fun us s1 ⟨vs,H1,I1,r,q⟩=>⟨I1.oa,?_⟩) he hpl
 exact yi F hr hb hd hx I1 r q
end
section
variable {X:Cx} {CX:kj} {k:Nat} {f C:Addr} {fd:FuncData} {ps ks:List Str} {sp:Sp} {E:XK} {x m:Str} {p pos apos kpos:Pos} {e o:Expr} {es:List Expr} {kws:List Keyword} {te ta:TE} {t tk:TA} {nm:Option Str}
variable {g:List Value->List Value->List Value} {gV:List V->List V->List V}
end
structure aQ (N P:List Str) (sc:Scope):Prop where
 kind:sc.kind=.function
 co:sc.isCoroutine=false
 gen:sc.isGenerator=false
 nd:N.Nodup
 pre:N.take P.length=P
 par:∀ x ∈ P,sc.names.lookup x=some .local\/sc.names.lookup x=some .cell
 yj:∀ y ∈ sc.names,y.2 ≠ .free
theorem oo {kindOf:Str->Option NameKind} {x:Str}:∀ {binds:List (Str × Value)} {m:Str->Option Value},(∀ v,(x,v) ∉ binds)->bindL kindOf binds m x=m x
 | [],_,_=>rfl
 | (n,v) :: r,m,h=>by
  unfold bindL
  rw [oo fun w hw=>h w (List.mem_cons_of_mem _ hw)]
  split
  ·have:x ≠ n:=by rintro rfl;exact h v List.mem_cons_self
   simp [this]
  ·rfl
theorem oq {kindOf:Str->Option NameKind} {x:Str}:∀ {binds:List (Str × Value)} {m:Str->Option Value},(∀ v,(x,v) ∉ binds)->bindC kindOf binds m x=m x
 | [],_,_=>rfl
 | (n,v) :: r,m,h=>by
  unfold bindC
  rw [oq fun w hw=>h w (List.mem_cons_of_mem _ hw)]
  split
  ·rfl
  ·have:x ≠ n:=by rintro rfl;exact h v List.mem_cons_self
   simp [this]
theorem ou {kindOf:Str->Option NameKind} {x:Str} {v:Value}:∀ {P:List Str} {vs:List Value} {i:Nat} {m:Str->Option Value},P.Nodup->P[i]? = some x->vs[i]? = some v->kindOf x=some .local ->
  bindL kindOf (P.zip vs) m x=some v
 | [],_,_,_,_,h,_,_=>by simp at h
 | _ :: _,[],_,_,_,_,h,_=>by simp at h
 | p :: P,w :: vs,0,m,nd,h1,h2,hk=>by
  simp at h1 h2;subst h1;subst h2
  show bindL kindOf ((p,w) :: P.zip vs) m p=_
  unfold bindL
  rw [oo fun v hv=>(List.nodup_cons.mp nd).1 (List.of_mem_zip hv).1,if_pos hk]
  simp
 | p :: P,w :: vs,i+1,m,nd,h1,h2,hk=>by
  show bindL kindOf ((p,w) :: P.zip vs) m x=_
  unfold bindL
  exact ou (i:=i) (List.nodup_cons.mp nd).2 (by simpa using h1) (by simpa using h2) hk
theorem ow {kindOf:Str->Option NameKind} {x:Str} {v:Value}:∀ {P:List Str} {vs:List Value} {i:Nat} {m:Str->Option Value},P.Nodup->P[i]? = some x->vs[i]? = some v->kindOf x ≠ some .local ->
  bindC kindOf (P.zip vs) m x=some v
 | [],_,_,_,_,h,_,_=>by simp at h
 | _ :: _,[],_,_,_,_,h,_=>by simp at h
 | p :: P,w :: vs,0,m,nd,h1,h2,hk=>by
  simp at h1 h2;subst h1;subst h2
  show bindC kindOf ((p,w) :: P.zip vs) m p=_
  unfold bindC
  rw [oq fun v hv=>(List.nodup_cons.mp nd).1 (List.of_mem_zip hv).1,if_neg hk]
  simp
 | p :: P,w :: vs,i+1,m,nd,h1,h2,hk=>by
  show bindC kindOf ((p,w) :: P.zip vs) m x=_
  unfold bindC
  exact ow (i:=i) (List.nodup_cons.mp nd).2 (by simpa using h1) (by simpa using h2) hk
def start (N:List Str) (vs:List V):St:=vs.map some++List.replicate (N.length - vs.length) none
def nF (CX:kj) (P:Program) (w:World) (K:PySem.W.Frag) (mg:Str->Option Value) (base:Heap) (N:List Str) (qual:Str) (scope:Scope) (f:Addr) (cd:Value) (A:Around) (outer:List Env) (s:Shared) (H:Hp) (E:XK):Cx where
 prog:=P
 w:=w
 K:=K
 mg:=mg
 base:=base
 A:=A.deeper (envOfC qual scope s.heap.objs.size f cd)
 N:=N
 du:=s
 jR:=H
 env:=envOfC qual scope s.heap.objs.size f cd
 outer:=outer
 stack:=envOfC qual scope s.heap.objs.size f cd :: outer
 ex:=[]
 calm:=true
 fn:=fun _=>true
 pn:=[]
 xe:=fun e s'=>wpAny (model P w) (A.deeper (envOfC qual scope s.heap.objs.size f cd)) (leaving (envOfC qual scope s.heap.objs.size f cd) e) (fun _ s''=>CX outer H s E e s'') (fun e' s''=>CX outer H s E e' s'') s'
theorem pI {sc:Scope} {n:Nat} {x:Str} (h:sc.names.lookup x=some .cell):∃ c,(cellsFrom n sc.names []).lookup x=some c:=by
 have q:=PySem.W.cellsFrom_some sc.names n [] (.inl h)
 exact Option.isSome_iff_exists.mp q
theorem tU {CX:kj} {P:Program} {w:World} {K:PySem.W.Frag} {mg:Str->Option Value} {base:Heap} {N ps:List Str} {qual:Str} {scope:Scope} {f:Addr} {cd:Value} {A:Around} {outer:List Env} {s s1:Shared} {H:Hp} {E:XK} {us:List Value} {vs:List V}
  (S:aQ N ps scope) (hd:A.handled=none) (e0:sA P w K mg base A outer s H) (hl:vs.length=ps.length) (r:Vals vs us)
  (x:InCallC s s.heap.objs.size (bindL (envOfC qual scope s.heap.objs.size f cd).kindOf (ps.zip us) fun _=>none) (cellsFrom (s.heap.objs.size+1) scope.names []) (bindC (envOfC qual scope s.heap.objs.size f cd).kindOf (ps.zip us) fun _=>none) s1) :
  Inv (nF CX P w K mg base N qual scope f cd A outer s H E) [] (start N vs) H s1:=by
 have hpl:ps.length<=N.length:=by have:=congrArg List.length S.pre;rw [List.length_take] at this;omega
 obtain⟨h1,tk,rfl,hk⟩:=x.done
 have noA:∀ b:Addr,b ∉ (nF CX P w K mg base N qual scope f cd A outer s H E).ex:=fun b z=>absurd (show b ∈ ([]:List Addr) from z) (by simp)
 refine⟨⟨e0.mod,S.kind,rfl,rfl,Nat.le_refl _,fun y z c h1 h2=>?_,fun y hy=>?_,fun y c _ h=>?_,fun _=>hd,Around.frames_deeper e0.frames,.inr ⟨rfl,rfl⟩,fun b z=>absurd z (noA b),e0.bs,e0.n5,fun b _ _=>noA b,fun b z=>absurd z (noA b),e0.iY,e0.rq⟩,
  rfl,e0.bare,Un.kept hk,⟨_,x.toInCall.ns,fun i y v h1 h2 h3=>?_⟩,fun y c h=>⟨_,x.cell y c h⟩,e0.aG.fresh (Nat.le_refl _),fun y c h=>?_,fun p hp=>absurd (show p ∈ ([]:List (Addr × Obj)) from hp) (by simp),e0.aG.kept hk,?_⟩
 ·exact name_of_addr x.apart (PySem.mem_of_lookup h1) (PySem.mem_of_lookup h2)
 ·have hy:scope.names.lookup y=some .cell\/scope.names.lookup y=some .free:=hy
  rcases hy with hy | hy
  ·exact pI hy
  ·exact absurd rfl (S.yj _ (PySem.mem_of_lookup hy))
 ·exact Nat.le_of_lt (x.above y c (PySem.mem_of_lookup h))
 ·have hi:i < vs.length:=by
   unfold start at h2
   by_cases hi:i < vs.length
   ·exact hi
   ·rw [List.getElem?_append_right (by simpa using hi)] at h2
    rw [List.getElem?_replicate] at h2
    split at h2 <;> cases h2
  have ha:vs[i]? = some v:=by
   unfold start at h2
   rw [List.getElem?_append_left (by simpa using hi),List.getElem?_map] at h2
   cases e:vs[i]? with
   | none=>rw [e] at h2;cases h2
   | some a=>rw [e] at h2;cases h2;rfl
  obtain⟨u,hu,rv⟩:=r.get ha
  have hp:ps[i]? = some y:=by
   rw [<-S.pre,List.getElem?_take_of_lt (by omega)];exact h1
  have ndP:ps.Nodup:=by rw [<-S.pre];exact S.nd.sublist (List.take_sublist _ _)
  refine⟨u,rv,?_⟩
  rcases S.par y (List.mem_of_getElem? hp) with k | k
  ·exact .inl ⟨k,ou ndP hp hu k⟩
  ·obtain⟨c,e⟩:=pI (n:=s.heap.objs.size+1) k
   refine .inr ⟨.inl k,c,e,?_⟩
   have q:=x.cell y c e
   rw [ow ndP hp hu (by show scope.names.lookup y ≠ _;rw [k];decide)] at q
   exact q
 ·exact e0.aG.fresh (Nat.le_of_lt (x.above y c (PySem.mem_of_lookup h)))
 ·unfold start
  show _=N.length
  rw [List.length_append,List.length_map,List.length_replicate]
  omega
theorem zb {CX:kj} {P:Program} {w:World} {K:PySem.W.Frag} {mg:Str->Option Value} {base:Heap} {k:Nat} {f:Addr} {name qual:Str} {params:Arguments} {body:List Stmt} {scope:Scope} {dV kV doc pm cdv ct oc:Value} {an od:Option Addr}
  {osl:Array (Option Value)} {N ps:List Str} {sp:Sp} (lk:K.lookup f=some ⟨oc,od,.func (PySem.W.fnOf name qual params body scope dV kV doc pm an cdv ct),osl⟩) (hcd:PySem.W.codeIn K cdv qual=true) (S:aQ N ps scope)
  (len:∀ vs H Q E,sp vs H Q E->vs.length=ps.length)
  (hbody:∀ (A:Around) (outer:List Env) (s:Shared) (H:Hp) (vs:List V) (Q:VK) (E:XK),eX k (A.deeper (envOfC qual scope s.heap.objs.size f cdv))->sp vs H Q E ->
   ∃ t,je (nF CX P w K mg base N qual scope f cdv A outer s H E) body t/\t { nx:=fun _ H'=>Q .aB H',rt:=Q } (start N vs) H) :
  bD P w K mg base CX (k+1) f (PySem.W.fnOf name qual params body scope dV kV doc pm an cdv ct) ps sp:=by
 refine⟨len,fun A outer s H args us vs Q E hr e0 hb r hsp=>?_⟩
 have hl:=len _ _ _ _ hsp
 have KX:K.In s.heap:=e0.mod.xV.keeps fun b o e=>(e0.bs b o e).1
 have lim:s.heap.NoLimit:=e0.mod.nolimit.keeps fun b o e=>(e0.bs b o e).1
 have hkind:∀ y ∈ ps.zip us,scope.names.lookup y.1=some .local\/(scope.names.lookup y.1=some .cell/\((cellsFrom (s.heap.objs.size+1) scope.names []).lookup y.1).isSome=true):=fun ⟨n,v⟩ hy=>by
  rcases S.par n (List.of_mem_zip hy).1 with q | q
  ·exact .inl q
  ·exact .inr ⟨q,PySem.W.cellsFrom_some _ _ _ (.inl q)⟩
 refine codeAny_call_function hr.depth (KX _ _ lk) rfl S.co S.gen rfl (PySem.W.codeRec_of KX hcd) (hb _ _ _ _ ?_)
 refine wpAny_newFunctionEnv_cells S.kind hkind fun env he s1 x=>?_
 subst he
 refine⟨lim.keeps x.toInCall.keep,codeAny_func ?_⟩
 obtain⟨t,ht,hq⟩:=hbody A outer s H vs Q E (hr.deeper _) hsp
 have I:Inv (nF CX P w K mg base N qual scope f cdv A outer s H E) [] (start N vs) H s1:=tU S hr.hd e0 hl r x
 refine wpAny_mono (ht [] s1 (start N vs) H _ I hq) (fun fl s' hs=>?_) fun e s' hs=>hs
 have fin:∀ {σ':St} {H':Hp} {v:V} {u:Value},Inv (nF CX P w K mg base N qual scope f cdv A outer s H E) [] σ' H' s'->RelV v u->Q v H'->CE outer P w H s Q u s' :=
  fun {σ' H' v u} J rv q=>⟨v,H',J.os,J.bare,J.base,J.aG,rv,q⟩
 cases fl with
 | ret u =>
  obtain⟨v,σ',H',J,rv,q⟩:=hs
  exact fin J rv q
 | next =>
  obtain⟨σ',H',J,q⟩:=hs
  exact fin (v:=V.aB) (u:=Value.none) J rfl q
 | brk =>
  obtain⟨_,_,_,q⟩:=hs
  exact False.elim q
 | cont =>
  obtain⟨_,_,_,q⟩:=hs
  exact False.elim q
section
variable {X:Cx} {x:Str} {p pos:Pos} {e:Expr} {es:List Expr} {t:TA} {id T:String} {r:List V->Hp->VK->Prop}
def zw (r:List V->Hp->VK->Prop) (t:TA):TE:=fun σ H Q=>t σ H fun vs H1=>r vs H1 Q
theorem bO (hc:d9 X (.builtin id) r) (hg:Gl X x) (hm:X.mg x=none) (hv:bootBuiltins x=some (.builtin id)) (ha:PA X (e :: es) t) (hn:x ≠ "__name__" := by decide) (hdb:(x == ("__debug__" : Str))=false:=by decide)
  (he:starEach (e :: es) X.env=(false,eval e X.env) :: starEach es X.env:=by rfl) (hpl:(backTo pos (starEach es X.env)).any (·.1)=false:=by rfl):PE X (.Call (.Name x p) (e :: es) [] pos) (zw r t):=by
 intro pins s σ H Q I h
 refine wpAny_Call_Name_kw (mO I hg hm hv ?_ hn hdb)
 exact PyProof.Rows.callWith_builtin1 (bh (ha pos pins s σ H _ I h) fun us s1 ⟨vs,H1,I1,r1,q1⟩=>hc pins s1 σ H1 vs us Q I1 r1 q1) he hpl
theorem bw (hc:d9 X (.type T) r) (hg:Gl X x) (hm:X.mg x=none) (hv:bootBuiltins x=some (.type T)) (ha:PA X (e :: es) t) (hn:x ≠ "__name__" := by decide) (hdb:(x == ("__debug__" : Str))=false:=by decide)
  (he:starEach (e :: es) X.env=(false,eval e X.env) :: starEach es X.env:=by rfl) (hpl:(backTo pos (starEach es X.env)).any (·.1)=false:=by rfl):PE X (.Call (.Name x p) (e :: es) [] pos) (zw r t):=by
 intro pins s σ H Q I h
 refine wpAny_Call_Name_kw (mO I hg hm hv ?_ hn hdb)
 exact PyProof.Rows.callWith_type1 (bh (ha pos pins s σ H _ I h) fun us s1 ⟨vs,H1,I1,r1,q1⟩=>hc pins s1 σ H1 vs us Q I1 r1 q1) he hpl
end
end L2
namespace HT
open PySem PyProof.Rows
section
open PySem.SeqAt
open PySem.AutoSeq1 (wpAny_loadPart')
open PySem.MeetsSeq PySem.MeetsSeq2 PySem.MeetsSeq3
end
section
variable {prog:Program} {w:World} {A:Around} {E:Value->Shared->Prop} {s:Shared}
def bP (n d:Nat):Option Int->Nat
 | none=>d
 | some v=>if v < 0 then (v+(n:Int)).toNat else min v.toNat n
theorem yk (n d:Nat) (hd:d<=n) (o:Option Int):bP n d o<=n:=by
 cases o with
 | none=>exact hd
 | some v =>
  show (if v < 0 then (v+(n:Int)).toNat else min v.toNat n)<=n
  by_cases hv:v < 0
  ·rw [if_pos hv];omega
  ·rw [if_neg hv];exact Nat.min_le_right _ _
theorem rF (v:Int) (n d:Nat):(if v < 0 then max (v+(n:Int)) 0 else min v (n:Int))=((bP n d (some v):Nat):Int):=by
 show (if v < 0 then max (v+(n:Int)) 0 else min v (n:Int))=(((if v < 0 then (v+(n:Int)).toNat else min v.toNat n):Nat):Int)
 by_cases hv:v < 0
 ·simp only [if_pos hv];omega
 ·simp only [if_neg hv];omega
theorem sC (lo hi:Option Int) (n:Nat):Builtin.Slice.sliceAdjust lo hi 1 (n:Int)=(((bP n 0 lo:Nat):Int),((bP n n hi:Nat):Int)):=by
 have h1:¬ ((1:Int) < 0):=by omega
 unfold Builtin.Slice.sliceAdjust
 simp only [h1,if_false]
 refine Prod.ext ?_ ?_
 ·cases lo with
  | none=>rfl
  | some v=>exact rF v n 0
 ·cases hi with
  | none=>rfl
  | some v=>exact rF v n n
theorem sD (i j:Nat):Builtin.Slice.slicePlaces (i:Int) (j:Int) 1=j - i:=by
 unfold Builtin.Slice.slicePlaces
 have h1:(1:Int) > 0:=by omega
 simp only [h1,if_true,Int.ediv_one]
 split <;> omega
theorem mR {v:Value} {o:Option Int} {Q:Option Int->Shared->Prop} (p:IsPart v o) (h:Q o s):wpAny (model prog w) A (Builtin.Slice.slicePartIndex v) Q E s:=by
 cases p with
 | none=>exact slicePart_none h
 | int i t=>exact slicePart_int h
theorem i1 {sl:Addr} {vl vu:Value} {lo hi:Option Int} {n:Nat} {Q:Int × Int × Nat->Shared->Prop} (hs:s.heap.IsSliceOf sl vl vu .none) (pl:IsPart vl lo) (pu:IsPart vu hi)
  (h:Q (((bP n 0 lo:Nat):Int),1,bP n n hi - bP n 0 lo) s):wpAny (model prog w) A (Builtin.Slice.sliceApplied (.ref sl) (pure (n:Int))) Q E s:=by
 obtain⟨os,hos,hcs,hds⟩:=id hs
 unfold Builtin.Slice.sliceApplied Builtin.Slice.sliceFields
 refine wpAny_bind (wpAny_bind (wpAny_field hos hds (x:=vl) rfl (wpAny_bind (wpAny_field hos hds (x:=vu) rfl (wpAny_bind (wpAny_field hos hds (x:=.none) rfl (wpAny_pure ?_)))))))
 refine wpAny_bind (slicePart_none ?_)
 show wpAny _ _ (if ((1:Int) == 0)=true then _ else _) _ _ s
 rw [if_neg (by decide)]
 refine wpAny_bind (mR pl (wpAny_bind (mR pu (wpAny_bind (wpAny_pure ?_)))))
 show wpAny _ _ (match Builtin.Slice.sliceAdjust lo hi 1 (n:Int) with | (lo,hi)=>pure (lo,(1:Int),Builtin.Slice.slicePlaces lo hi 1)) _ _ s
 rw [sC lo hi n]
 show wpAny _ _ (pure (((bP n 0 lo:Nat):Int),(1:Int),Builtin.Slice.slicePlaces ((bP n 0 lo:Nat):Int) ((bP n n hi:Nat):Int) 1)) _ _ s
 rw [sD]
 exact wpAny_pure h
theorem vf (xs:Array Value) (i k:Nat):((List.range k).filterMap fun (m:Nat)=>xs[((i:Int)+(m:Int) * 1).toNat]?).toArray=((xs.toList.drop i).take k).toArray:=by
 have e:(fun (m:Nat)=>xs[((i:Int)+(m:Int) * 1).toNat]?)=fun m=>xs[i+m]?:=by
  funext m
  have:((i:Int)+(m:Int) * 1).toNat=i+m:=by omega
  rw [this]
 rw [e]
 have:=pick_run xs i k
 rw [List.filterMap_map] at this
 have e2:((fun x=>xs[x]?) ∘ fun x=>i+x)=fun m=>xs[i+m]?:=rfl
 rw [e2] at this
 rw [this]
theorem lK {t sl:Addr} {items:Array Value} {vl vu:Value} {lo hi:Option Int} {Q:Value->Shared->Prop} (ht:IsTup s.heap t items) (hs:s.heap.IsSliceOf sl vl vu .none) (pl:IsPart vl lo) (pu:IsPart vu hi)
  (hw:¬ (bP items.size 0 lo=0/\bP items.size items.size hi=items.size))
  (h:Q (.ref s.heap.objs.size) { s with heap:=s.heap.push { cls:=.type "tuple",data:=.seq ((items.toList.drop (bP items.size 0 lo)).take (bP items.size items.size hi - bP items.size 0 lo)).toArray } })
  (hsz:items.size<=sizeLine):wpAny (model prog w) A (getItem (.ref t) (.ref sl)) Q E s:=by
 have htake:sizeOk (.seq ((items.toList.drop (bP items.size 0 lo)).take (bP items.size items.size hi - bP items.size 0 lo)).toArray):=by
  show ((items.toList.drop (bP items.size 0 lo)).take (bP items.size items.size hi - bP items.size 0 lo)).toArray.size<=sizeLine
  rw [List.size_toArray,List.length_take,List.length_drop,Array.length_toList]
  omega
 have hj:bP items.size items.size hi<=items.size:=yk _ _ (Nat.le_refl _) hi
 obtain⟨os,hos,hcs,hds⟩:=id hs
 have hTs:s.TypeIs (.ref sl) "slice" := ⟨os,hos,hcs⟩
 unfold getItem
 try with_reducible refine wpAny_holding ?_
 first | refine wpAny_bind (wpAny_pure ?_) | skip
 refine wpAny_bind (wpAny_sequenceKey ht.typeIs (by decide) ?_)
 refine wpAny_bind (wpAny_callSpecial?_slot (name:=Str.ofString "__getitem__") ht.typeIs PyProof.Rows.slot_tuple_getitem
  (wpAny_call_entry PyProof.Rows.slot_tuple_getitem ht.typeIs entry_tuple_getitem ?_ (args_tuple_getitem _ _)))
 show wpAny _ _ (Builtin.Tuple.tupleItemsOf (.ref t) >>= _) _ _ s
 refine wpAny_bind (tupleItemsOf_ ht ?_)
 refine wpAny_bind (wpAny_typeOf hTs ?_)
 rw [if_pos (by decide)]
 refine wpAny_bind (i1 hs pl pu ?_)
 have hno:¬ ((((bP items.size 0 lo:Nat):Int) == 0 && (1:Int) == 1 && (bP items.size items.size hi - bP items.size 0 lo) == items.size)=true):=by
  intro q
  rw [Bool.and_eq_true,Bool.and_eq_true] at q
  have q1:((bP items.size 0 lo:Nat):Int)=0:=eq_of_beq q.1.1
  have q2:bP items.size items.size hi - bP items.size 0 lo=items.size:=eq_of_beq q.2
  exact hw ⟨by omega,by omega⟩
 show wpAny _ _ (if (((bP items.size 0 lo:Nat):Int) == 0 && (1:Int) == 1 && (bP items.size items.size hi - bP items.size 0 lo) == items.size)=true then _ else _) _ _ s
 rw [if_neg hno,vf]
 first
  | exact wpAny_bind (m:=Builtin.Tuple.tupleExact _) (wpAny_newObj_type (wpAny_pure ⟨_,rfl,wpAny_pure h⟩) htake)
  | exact wpAny_bind (m:=Builtin.Tuple.tupleExact _) (wpAny_newObj_type (wpAny_bind (wpAny_pure (wpAny_pure ⟨_,rfl,wpAny_pure h⟩))) htake)
  | exact wpAny_bind (wpAny_bind (m:=Builtin.Tuple.tupleExact _) (wpAny_newObj_type (wpAny_pure (wpAny_pure ⟨_,rfl,wpAny_pure h⟩)) htake))
  | exact wpAny_bind (wpAny_bind (m:=Builtin.Tuple.tupleExact _) (wpAny_newObj_type (wpAny_pure ⟨_,rfl,wpAny_pure h⟩) htake))
end
end HT
namespace L2
open PySem PySem.Spec PyProof.Rows
abbrev TO:=St->Hp->(Option Int->Hp->Prop)->Prop
def PO (X:Cx) (e:Option Expr) (t:TO):Prop :=
 ∀ (pins:List (Addr × Obj)) (s:Shared) (σ : St) (H:Hp) (Q:Option Int->Hp->Prop),Inv X pins σ H s->t σ H Q ->
  wpAny (model X.prog X.w) X.A (evalPart e X.env) (fun u s'=>∃ o H',Inv X pins σ H' s'/\IsPart u o/\Q o H') X.xe s
def xc:TO:=fun _ H Q=>Q none H
def zc (t:TE):TO:=fun σ H Q=>t σ H fun x H1=>∃ i,x=.int i/\Q (some i) H1
theorem intsAre_of {ns:List Int}:∀ {us:List Value},Vals (ns.map V.int) us->IntsAre us ns:=by
 induction ns with
 | nil=>intro us r;rw [List.map_nil] at r;cases r;exact .nil
 | cons n ns ih =>
  intro us r
  rw [List.map_cons] at r
  cases r with
  | cons r1 r2 =>
   obtain⟨t,e⟩:=r1
   subst e
   exact .cons n t (ih r2)
section
variable {X:Cx} {e:Expr} {te:TE} {lo hi:Option Expr} {tl th:TO} {pos p2:Pos}
theorem xf:PO X none xc:=by
 intro pins s σ H Q I h
 rw [evalPart_none]
 exact wpAny_pure ⟨none,H,I,.none,h⟩
theorem xg (h:PE X e te):PO X (some e) (zc te):=by
 intro pins s σ H Q I hw
 rw [evalPart_some]
 refine bh (h pins s σ H _ I hw) fun u s1 ⟨x,H1,I1,r1,q1⟩=>?_
 obtain⟨i,rfl,q⟩:=q1
 obtain⟨t,rfl⟩:=r1
 exact⟨some i,H1,I1,.int i t,q⟩
def yl (X:Cx) (r:V->Option Int->Option Int->Hp->VK->Prop):Prop :=
 ∀ (pins:List (Addr × Obj)) (s:Shared) (σ : St) (H:Hp) (x:V) (v vl vu:Value) (lo hi:Option Int) (sl:Addr) (Q:VK),Inv X pins σ H s->RelV x v->s.heap.IsSliceOf sl vl vu .none->IsPart vl lo->IsPart vu hi->r x lo hi H Q ->
  ∃ T id,typeLookup (.type T) "__getitem__" = pure (some (.builtin id))/\s.TypeIs v T/\wpAny (model X.prog X.w) X.A (getItem v (.ref sl)) (EP X pins σ Q) X.xe s
def Am (r:V->Option Int->Option Int->Hp->VK->Prop) (te:TE) (tl th:TO):TE:=fun σ H Q=>te σ H fun x H1=>tl σ H1 fun l H2=>th σ H2 fun u H3=>r x l u H3 Q
theorem vg {r:V->Option Int->Option Int->Hp->VK->Prop} (hr:yl X r) (he:PE X e te) (hl:PO X lo tl) (hu:PO X hi th):PE X (.Subscript e (.Slice lo hi none p2) pos) (Am r te tl th):=by
 intro pins s σ H Q I h
 refine Subscript_ (bh (he pins s σ H _ I h) fun v s1 ⟨x,H1,I1,r1,q1⟩=>?_)
 refine wpAny_Slice (bh (hl pins s1 σ H1 _ I1 q1) fun vl s2 ⟨l,H2,I2,pl,q2⟩=>bh (hu pins s2 σ H2 _ I2 q2) fun vu s3 ⟨u,H3,I3,pu,q3⟩=>?_)
 rw [evalPart_none]
 refine wpAny_pure ?_
 have I4:Inv X pins σ H3 { s3 with heap:=s3.heap.push { cls:=.type "slice",data:=.fields #[vl,vu,.none] } }:=I3.kept (t':=s3.toks) fun b ob q=>Heap.get?_push_of_some _ q
 obtain⟨T,id,hT,ht,hg⟩:=hr pins { s3 with heap:=s3.heap.push { cls:=.type "slice",data:=.fields #[vl,vu,.none] } } σ H3 x v vl vu l u s3.heap.objs.size Q I4 r1 (Heap.IsSliceOf.new ..) pl pu q3
 show wpAny (model X.prog X.w) X.A (subscriptTail e (.Slice lo hi none p2) v (.ref s3.heap.objs.size)) (EP X pins σ Q) X.xe { s3 with heap:=s3.heap.push { cls:=.type "slice",data:=.fields #[vl,vu,.none] } }
 exact tail_any (ops:=[.ref s3.heap.objs.size,v]) ht hT hg (by with_unfolding_all rfl)
def me (xs:List V) (lo hi:Option Int):List V:=(xs.drop (HT.bP xs.length 0 lo)).take (HT.bP xs.length xs.length hi - HT.bP xs.length 0 lo)
theorem qK (xs:List V) (lo hi:Option Int):(me xs lo hi).length<=xs.length:=by
 unfold me
 rw [List.length_take,List.length_drop]
 omega
def z5 (K:PySem.W.Frag):V->Option Int->Option Int->Hp->VK->Prop:=fun x lo hi H Q=>∃ a xs,x=.ref a/\ay K H a xs /\
 ¬ (HT.bP xs.length 0 lo=0/\HT.bP xs.length xs.length hi=xs.length)/\∀ p,H p=none->Q (.ref p) (upd H p (.tup (me xs lo hi)))
theorem ym:yl X (z5 X.K):=by
 intro pins s σ H x v vl vu lo hi sl Q I rx hs pl pu h
 obtain⟨a,xs,rfl,hx,hw,q⟩:=h
 cases rx
 obtain⟨its,r,ht,hz⟩:=I.tuple hx
 have hlen:its.toArray.size=xs.length:=by rw [List.size_toArray];exact r.length.symm
 refine⟨"tuple",_,PyProof.Rows.slot_tuple_getitem.lookup,ht.typeIs,?_⟩
 refine HT.lK ht hs pl pu (by rw [hlen];exact hw) ?_ (by rw [hlen];exact hz)
 rw [hlen]
 refine⟨.ref s.heap.objs.size,_,I.laid (t':=s.toks) (o:=.tup (me xs lo hi)) (fun b ob q=>Heap.get?_push_of_some _ q) (Nat.le_refl _) ?_,rfl,q _ (I.aG.fresh (Nat.le_refl _))⟩
 exact⟨Nat.le_trans (qK xs lo hi) hz,_,(r.drop (HT.bP xs.length 0 lo)).take (HT.bP xs.length xs.length hi - HT.bP xs.length 0 lo),⟨_,Heap.get?_push_size _ rfl,rfl,_,rfl,rfl⟩⟩
end
def km (n:Nat) (i:Int):Option Nat:=if 0<=i then (if i < n then some i.toNat else none) else if -(n:Int)<=i then some (i+n).toNat else none
def fU {α : Type} (xs:List α) (i:Int):Option α:=(km xs.length i).bind fun j=>xs[j]?
theorem rG {n:Nat} {i:Int} {j:Nat} (h:km n i=some j):seqIndex? i n=some j/\j < n/\-(n:Int)<=i/\i < n:=by
 unfold km at h
 by_cases h0:0<=i
 ·rw [if_pos h0] at h
  by_cases h1:i < n
  ·rw [if_pos h1] at h
   have e:i.toNat=j:=Option.some.inj h
   exact⟨by rw [seqIndex_of h0 h1,e],by omega,by omega,h1⟩
  ·rw [if_neg h1] at h;cases h
 ·rw [if_neg h0] at h
  by_cases h1:-(n:Int)<=i
  ·rw [if_pos h1] at h
   have e:(i+n).toNat=j:=Option.some.inj h
   exact⟨by rw [seqIndex_neg (by omega) h1,e],by omega,h1,by omega⟩
  ·rw [if_neg h1] at h;cases h
theorem nG {α : Type} {xs:List α} {i:Int} {v:α} (h:fU xs i=some v):∃ j,seqIndex? i xs.length=some j/\xs[j]? = some v/\j < xs.length/\-(xs.length:Int)<=i/\i < xs.length:=by
 unfold fU at h
 cases e:km xs.length i with
 | none=>rw [e] at h;cases h
 | some j =>
  rw [e] at h
  obtain⟨h1,h2,h3,h4⟩:=rG e
  exact⟨j,h1,h,h2,h3,h4⟩
theorem bJ {α : Type} {xs:List α} {j:Nat} {v:α} (h:xs[j]? = some v):fU xs (j:Int)=some v:=by
 have hj:j < xs.length:=(List.getElem?_eq_some_iff.mp h).1
 have e:km xs.length (j:Int)=some j:=by
  unfold km
  rw [if_pos (by omega),if_pos (by omega)];simp
 unfold fU;rw [e];exact h
def xh (b:Expr):Prop:=∀ o i,subscripted b false o i=operate [o,i] (getItem o i)
def rH (X:Cx) (r:R2):Prop :=
 ∀ (value slice:Expr) (pins:List (Addr × Obj)) (s:Shared) (σ : St) (H:Hp) (x y:V) (v u:Value) (Q:VK),Inv X pins σ H s->RelV x v->RelV y u->r x y H Q ->
  subscripted slice false v u=operate [v,u] (getItem v u)->wpAny (model X.prog X.w) X.A (subscriptTail value slice v u) (EP X pins σ Q) X.xe s
def zx (X:Cx) (id:String) (r:V->List V->Hp->VK->Prop):Prop :=
 ∀ (pins:List (Addr × Obj)) (s:Shared) (σ : St) (H:Hp) (x:V) (xs:List V) (v:Value) (us:List Value) (Q:VK),Inv X pins σ H s->RelV x v->Vals xs us->r x xs H Q ->
  wpAny (model X.prog X.w) X.A (call (.builtin id) (v :: us)) (EP X pins σ Q) X.xe s
section
variable {X:Cx} {a b:Expr} {ta tb:TE} {pos:Pos}
theorem aK {r:R2} (hr:rH X r) (ha:PE X a ta) (hb:PE X b tb) (hs:xh b):PE X (.Subscript a b pos) (wJ r ta tb):=by
 intro pins s σ H Q I h
 exact Subscript_ (vd ha hb I h fun v u s2 x y H2 I2 rx ry q=>hr a b pins s2 σ H2 x y v u Q I2 rx ry q (hs _ _))
def sE (K:PySem.W.Frag):R2:=fun x y H Q=>∃ p xs i v,x=.ref p/\y=.int i/\aX K H p xs/\fU xs i=some v/\Q v H
def vh (K:PySem.W.Frag):R2:=fun x y H Q=>∃ p xs i v,x=.ref p/\y=.int i/\ay K H p xs/\fU xs i=some v/\Q v H
def z6:R2:=fun x y H Q=>∃ z i c,x=.str z/\y=.int i/\z.length<=sizeLine/\fU z.cps.toList i=some c/\Q (.str ⟨#[c]⟩) H
theorem bK:rH X (sE X.K):=by
 intro value slice pins s σ H x y v u Q I rx ry h hs
 obtain⟨p,xs,i,z,rfl,rfl,hq,he,q⟩:=h
 cases rx
 obtain⟨t,rfl⟩:=ry
 obtain⟨its,r,pl,hz⟩:=I.list hq
 obtain⟨j,h1,h2,h3,h4,h5⟩:=nG he
 obtain⟨w,ew,rw'⟩:=r.get h2
 have hl:=r.length
 have hn:=i0
 have fin:EP X pins σ Q w s:=⟨z,H,I,rw',q⟩
 by_cases h0:0<=i
 ·have hj:i.toNat=j:=by
   rw [seqIndex_of h0 h5] at h1
   exact Option.some.inj h1
  exact item_listR pl.isList h0 (by omega) (by rw [hj];simpa using ew) fin hs
 ·have hj:(i+(its.toArray.size:Int)).toNat=j:=by
   rw [seqIndex_neg (by omega) h4] at h1
   rw [List.size_toArray,<-hl]
   exact Option.some.inj h1
  exact subscriptTail_builtinR (x:=w) pl.isList.typeIs slot_list_getitem.lookup
   (wpAny_getItem_list_neg (Q:=fun r s'=>r=w/\EP X pins σ Q r s') pl.isList (by omega) (by rw [List.size_toArray] <;> omega) (by omega) (by rw [hj];simpa using ew) ⟨rfl,fin⟩) hs
theorem aZ:rH X (vh X.K):=by
 intro value slice pins s σ H x y v u Q I rx ry h hs
 obtain⟨p,xs,i,z,rfl,rfl,hq,he,q⟩:=h
 cases rx
 obtain⟨t,rfl⟩:=ry
 obtain⟨its,r,pl,hz⟩:=I.tuple hq
 obtain⟨j,h1,h2,h3,h4,h5⟩:=nG he
 obtain⟨w,ew,rw'⟩:=r.get h2
 have hl:=r.length
 have hn:=i0
 have fin:EP X pins σ Q w s:=⟨z,H,I,rw',q⟩
 exact subscriptTail_builtinR (x:=w) pl.typeIs slot_tuple_getitem.lookup
  (getItem_tuple (j:=j) (Q:=fun r s'=>r=w/\EP X pins σ Q r s') pl (by omega) (by omega) (by rw [List.size_toArray,<-hl];exact h1) (by simpa using ew) ⟨rfl,fin⟩) hs
theorem mS:rH X z6:=by
  intro value slice pins s σ H x y v u Q I rx ry h hs
  obtain⟨z,i,c,rfl,rfl,hz,he,q⟩:=h
  obtain⟨t,rfl⟩:=rx
  obtain⟨t',rfl⟩:=ry
  obtain⟨j,h1,h2,h3,h4,h5⟩:=nG he
  have hl:z.cps.toList.length=z.length:=by simp [Str.length]
  rw [hl] at h1 h4 h5
  have hn:=i0
  exact tail_any (typeIs_str s z t) slot_str_getitem.lookup (getItem_str (c:=c) (by
    have e1:decide (i < -(2 ^ 63:Int))=false:=decide_eq_false (by omega)
    have e2:decide (i >= 2 ^ 63)=false:=decide_eq_false (by omega)
    rw [e1,e2,Bool.or_false]) (by rw [h1];simpa using h2) ⟨.str ⟨#[c]⟩,H,I.tok _,⟨_,rfl⟩,q⟩) hs
theorem sF (its:List Value) (n j:Nat) (u:Value):Obj.mapSeq (·.setIfInBounds j u) { cls:=.type "list",data:=.seq its.toArray n } = { cls:=.type "list",data:=.seq (its.set j u).toArray n }:=by
 simp [Obj.mapSeq]
theorem Inv.lst {pins:List (Addr × Obj)} {σ : St} {H:Hp} {s:Shared} {p:Addr} {xs:List V} (I:Inv X pins σ H s) (h:H p=some (.lst xs)) :
  ∃ (its:List Value) (n:Nat),Vals xs its/\s.heap.get? p=some { cls:=.type "list",data:=.seq its.toArray n }/\xs.length<=sizeLine:=by
 obtain⟨z,its,n,r,e⟩:=I.aG p _ h
 exact⟨its,n,r,e,z⟩
theorem Inv.yn {pins:List (Addr × Obj)} {σ : St} {H:Hp} {s:Shared} {p:Addr} {xs ys:List V} {its its':List Value} {n n':Nat} {f:Obj->Obj} (I:Inv X pins σ H s) (h:H p=some (.lst xs))
  (ho:s.heap.get? p=some { cls:=.type "list",data:=.seq its.toArray n }) (hf:f { cls:=.type "list",data:=.seq its.toArray n } = { cls:=.type "list",data:=.seq its'.toArray n' }) (r:Vals ys its') (hz:ys.length<=sizeLine) (t:Nat) :
  Inv X pins σ (upd H p (.lst ys)) { s with heap:=s.heap.update p f,toks:=t }:=by
 have e:(s.heap.update p f).get? p=some { cls:=.type "list",data:=.seq its'.toArray n' }:=by
  rw [Heap.get?_update_self f ho (by rw [hf] <;> rfl),hf]
 refine I.write (x:=p) (e:=p) (by rw [h];trivial) (.inl rfl) (fun b u hb q=>(Heap.get?_update_other _ _ (Ne.symm hb)).trans q) ⟨_,e⟩ ?_
 exact⟨hz,its',n',r,e⟩
def zd:V->V->V->Hp->(Hp->Prop)->Prop:=fun o i v H Q=>∃ p xs k j,o=.ref p/\i=.int k/\H p=some (.lst xs)/\km xs.length k=some j/\Q (upd H p (.lst (xs.set j v)))
theorem set_list:xZ X zd:=by
 intro pins s σ H o i v ov iv u Q I ro ri rv h
 obtain⟨p,xs,k,j,rfl,rfl,hp,hj,q⟩:=h
 cases ro
 obtain⟨t,rfl⟩:=ri
 obtain⟨its,n,r,ho,hz⟩:=I.lst hp
 obtain⟨h1,h2,h3,h4⟩:=rG hj
 have hl:=r.length
 have hn:=i0
 have I':Inv X pins σ (upd H p (.lst (xs.set j v))) { s with heap:=s.heap.update p (Obj.mapSeq (·.setIfInBounds j u)) } :=
  I.yn hp ho (sF its n j u) (r.set rv j) (by rw [List.length_set];exact hz) s.toks
 by_cases h0:0<=k
 ·have hk:k.toNat=j:=by
   rw [seqIndex_of h0 h4] at h1
   exact Option.some.inj h1
  exact PySem.W.ki_setAt ho h0 (by omega) (by rw [List.size_toArray,<-hl];exact h4) (by rw [hk];exact⟨_,I',q⟩)
 ·have hk:(k+(its.toArray.size:Int)).toNat=j:=by
   rw [seqIndex_neg (by omega) h3] at h1
   rw [List.size_toArray,<-hl]
   exact Option.some.inj h1
  exact PySem.W.ki_setBack ho (by omega) (by rw [List.size_toArray,<-hl];exact h3) (by omega) (by rw [hk];exact⟨_,I',q⟩)
def gi:V->Bool
 | .aB=>true
 | .bl _=>true
 | .int _=>true
 | .str _=>true
 | _=>false
def kn:V->V->Bool
 | .aB,.aB=>true
 | .bl a,.bl b=>a == b
 | .bl a,.int b=>(if a then 1 else 0) == b
 | .int a,.bl b=>a == (if b then 1 else 0)
 | .int a,.int b=>a == b
 | .str a,.str b=>a == b
 | _,_=>false
theorem yo {A:Around} {s:Shared} {y x:V} {u v:Value} (ry:RelV y u) (rx:RelV x v) (fy:gi y=true) (fx:gi x=true):SeqAt.EqAt A s u v (kn y x):=by
 cases y with
 | aB =>
  cases ry
  cases x with
  | aB=>cases rx;exact SeqAt.EqAt.same _
  | bl b=>cases rx;exact SeqAt.EqAt.none_bool b
  | int b=>obtain⟨t,rfl⟩:=rx;exact SeqAt.EqAt.none_int b t
  | str b=>obtain⟨t,rfl⟩:=rx;exact SeqAt.EqAt.none_str b t
  | _=>exact absurd (show false=true from fx) Bool.false_ne_true
 | bl a =>
  cases ry
  cases x with
  | aB=>cases rx;exact SeqAt.EqAt.bool_none a
  | bl b=>cases rx;exact SeqAt.EqAt.bool_bool a b
  | int b=>obtain⟨t,rfl⟩:=rx;exact SeqAt.EqAt.bool_int a b t
  | str b=>obtain⟨t,rfl⟩:=rx;exact SeqAt.EqAt.bool_str a b t
  | _=>exact absurd (show false=true from fx) Bool.false_ne_true
 | int a =>
  obtain⟨t',rfl⟩:=ry
  cases x with
  | aB=>cases rx;exact SeqAt.EqAt.int_none a t'
  | bl b=>cases rx;exact SeqAt.EqAt.int_bool a t' b
  | int b=>obtain⟨t,rfl⟩:=rx;exact SeqAt.EqAt.int_int a t' b t
  | str b=>obtain⟨t,rfl⟩:=rx;exact SeqAt.EqAt.int_str a t' b t
  | _=>exact absurd (show false=true from fx) Bool.false_ne_true
 | str a =>
  obtain⟨t',rfl⟩:=ry
  cases x with
  | aB=>cases rx;exact SeqAt.EqAt.str_none a t'
  | bl b=>cases rx;exact SeqAt.EqAt.str_bool a t' b
  | int b=>obtain⟨t,rfl⟩:=rx;exact SeqAt.EqAt.str_int a t' b t
  | str b=>obtain⟨t,rfl⟩:=rx;exact SeqAt.EqAt.str_str a t' b t
  | _=>exact absurd (show false=true from fx) Bool.false_ne_true
 | _=>exact absurd (show false=true from fy) Bool.false_ne_true
def iy (x:V) (u:Value):Bool:=match u with
 | .none=>kn .aB x
 | .bool b=>kn (.bl b) x
 | .int i _=>kn (.int i) x
 | .str z _=>kn (.str z) x
 | _=>false
theorem pJ {x y:V} {u:Value} (r:RelV y u) (f:gi y=true):iy x u=kn y x:=by
 cases y with
 | aB=>cases r;rfl
 | bl b=>cases r;rfl
 | int i=>obtain⟨t,rfl⟩:=r;rfl
 | str z=>obtain⟨t,rfl⟩:=r;rfl
 | _=>exact absurd (show false=true from f) Bool.false_ne_true
theorem jI {x:V}:∀ {xs:List V} {us:List Value},Vals xs us->xs.all gi=true->us.any (iy x)=xs.any fun y=>kn y x
 | _,_,.nil,_=>rfl
 | y :: xs,u :: us,.cons r t,f=>by
  rw [List.all_cons,Bool.and_eq_true] at f
  rw [List.any_cons,List.any_cons,pJ r f.1,jI t f.2]
theorem hX {A:Around} {s:Shared} {x:V} {v:Value} (rx:RelV x v) (fx:gi x=true):∀ {xs:List V} {us:List Value},Vals xs us->xs.all gi=true->∀ u ∈ us,SeqAt.EqAt A s u v (iy x u)
 | _,_,.nil,_=>fun u hu=>by cases hu
 | y :: xs,u :: us,.cons r t,f=>fun u' hu=>by
  rw [List.all_cons,Bool.and_eq_true] at f
  rcases List.mem_cons.mp hu with rfl | hu
  ·rw [pJ r f.1];exact yo r rx f.1 fx
  ·exact hX rx fx t f.2 u' hu
def pK (x:V) (xs:List V):Bool:=xs.any fun y=>kn y x
def zy (K:PySem.W.Frag) (neg:Bool):R2:=fun x y H Q=>∃ p xs,y=.ref p/\(aX K H p xs\/ay K H p xs)/\gi x=true/\xs.all gi=true/\Q (.bl (if neg then !pK x xs else pK x xs)) H
theorem tV:en X (compareOp .In) (zy X.K false):=by
 intro pins s σ H x y v u Q I rx ry h
 obtain⟨p,xs,rfl,hq,fx,fs,q⟩:=h
 cases ry
 rcases hq with hq | hq
 ·obtain⟨its,r,pl,hz⟩:=I.list hq
  refine SeqAt.in_listAt (iy x) pl.isList (fun w hw=>hX rx fx r fs w (by simpa using hw)) ⟨.bl _,H,I,rfl,?_⟩
  rw [show its.toArray.any (iy x)=its.any (iy x) by simp,jI r fs]
  exact q
 ·obtain⟨its,r,pl,hz⟩:=I.tuple hq
  refine SeqAt.in_tupleAt (iy x) pl (fun w hw=>hX rx fx r fs w (by simpa using hw)) ⟨.bl _,H,I,rfl,?_⟩
  rw [show its.toArray.any (iy x)=its.any (iy x) by simp,jI r fs]
  exact q
theorem pL:en X (compareOp .NotIn) (zy X.K true):=by
 intro pins s σ H x y v u Q I rx ry h
 obtain⟨p,xs,rfl,hq,fx,fs,q⟩:=h
 cases ry
 rcases hq with hq | hq
 ·obtain⟨its,r,pl,hz⟩:=I.list hq
  refine SeqAt.notIn_listAt (iy x) pl.isList (fun w hw=>hX rx fx r fs w (by simpa using hw)) ⟨.bl _,H,I,rfl,?_⟩
  rw [show its.toArray.any (iy x)=its.any (iy x) by simp,jI r fs]
  exact q
 ·obtain⟨its,r,pl,hz⟩:=I.tuple hq
  refine SeqAt.notIn_tupleAt (iy x) pl (fun w hw=>hX rx fx r fs w (by simpa using hw)) ⟨.bl _,H,I,rfl,?_⟩
  rw [show its.toArray.any (iy x)=its.any (iy x) by simp,jI r fs]
  exact q
theorem cE:d9 X (.builtin "len") (fun xs H Q=>∃ p ys,xs = [.ref p]/\(aX X.K H p ys\/ay X.K H p ys)/\Q (.int ys.length) H):=by
 intro pins s σ H xs us Q I r h
 obtain⟨p,ys,rfl,hq,q⟩:=h
 obtain⟨u,rfl,rx⟩:=vals1 r
 cases rx
 have hn:=i0
 rcases hq with hq | hq
 ·obtain⟨its,r',pl,hz⟩:=I.list hq
  have hlen:=r'.length
  exact Calls.call_len_list pl.isList (by simp only [List.size_toArray] <;> omega) ⟨.int ys.length,H,I.tok _,⟨s.toks+1,by rw [List.size_toArray,hlen]⟩,q⟩
 ·obtain⟨its,r',pl,hz⟩:=I.tuple hq
  have hlen:=r'.length
  exact len_tuple pl (by simp only [List.size_toArray] <;> omega) ⟨.int ys.length,H,I.tok _,⟨s.toks+1,by rw [List.size_toArray,hlen]⟩,q⟩
theorem pM:d9 X (.type "list") (fun xs H Q=>∃ p ys,xs = [.ref p]/\(aX X.K H p ys\/ay X.K H p ys)/\∀ l,H l=none->Q (.ref l) (upd H l (.lst ys))):=by
 intro pins s σ H xs us Q I r h
 obtain⟨p,ys,rfl,hq,q⟩:=h
 obtain⟨u,rfl,rx⟩:=vals1 r
 cases rx
 have fin:∀ (its:List Value),Vals ys its->ys.length<=sizeLine->∀ (h':Heap) (c':Nat),(∀ b o',s.heap.get? b=some o'->h'.get? b=some o') ->
   h'.get? s.heap.objs.size=some { cls:=.type "list",dict:=none,data:=.seq its.toArray c',slots:=#[] }->EP X pins σ Q (.ref s.heap.objs.size) { s with heap:=h' }:=fun its r' hz h' c' kp e =>
  ⟨.ref s.heap.objs.size,_,I.laid (t':=s.toks) kp (Nat.le_refl _) (show bS X.prog X.w _ h' _ (.lst ys) from ⟨hz,its,c',r',e⟩),rfl,q _ (I.aG.fresh (Nat.le_refl _))⟩
 rcases hq with hq | hq
 ·obtain⟨its,r',pl,hz⟩:=I.list hq
  have hlen:=r'.length
  obtain⟨o,ho,hc,n,hd⟩:=pl.isList
  exact call_list_seq p (.inl rfl) ho hc hd (fun h' c' kp e=>fin its r' hz h' c' kp e) (by simp only [List.size_toArray] <;> omega)
 ·obtain⟨its,r',pl,hz⟩:=I.tuple hq
  have hlen:=r'.length
  obtain⟨o,ho,hc,n,hd⟩:=pl
  exact call_list_seq p (.inr rfl) ho hc hd (fun h' c' kp e=>fin its r' hz h' c' kp e) (by simp only [List.size_toArray] <;> omega)
theorem bH:d9 X (.type "tuple") (fun xs H Q=>∃ p ys,xs = [.ref p]/\((aX X.K H p ys/\∀ l,H l=none->Q (.ref l) (upd H l (.tup ys)))\/(ay X.K H p ys/\Q (.ref p) H))):=by
 intro pins s σ H xs us Q I r h
 obtain⟨p,ys,rfl,h⟩:=h
 obtain⟨u,rfl,rx⟩:=vals1 r
 cases rx
 rcases h with ⟨hq,q⟩ | ⟨hq,q⟩
 ·obtain⟨its,r',pl,hz⟩:=I.list hq
  have hlen:=r'.length
  refine call_tuple_list pl.isList (fun h' kp=>?_) (by simp only [List.size_toArray] <;> omega)
  have I1:Inv X pins σ H { s with heap:=h' }:=I.kept (t':=s.toks) kp
  have I2:Inv X pins σ (upd H h'.objs.size (.tup ys)) { s with heap:=h'.push { cls:=.type "tuple",data:=.seq its.toArray } } :=
   I1.laid (t':=s.toks) (fun b o e=>Heap.get?_push_of_some _ e) (Nat.le_refl _) (show bS X.prog X.w _ _ _ (.tup ys) from ⟨hz,its,r',⟨_,Heap.get?_push_size _ rfl,rfl,_,rfl,rfl⟩⟩)
  exact⟨.ref h'.objs.size,_,I2,rfl,q _ (I1.aG.fresh (Nat.le_refl _))⟩
 ·obtain⟨its,r',pl,hz⟩:=I.tuple hq
  exact call_tuple_same pl ⟨.ref p,H,I,rfl,q⟩
def zz (K:PySem.W.Frag) (T:String) (x:V) (H:Hp):Prop:=match x with
 | .str _=>T = "str"
 | .int _=>T = "int"
 | .ref p=>(T = "list" /\ ∃ xs,aX K H p xs)\/(T = "tuple" /\ ∃ o,K.lookup p=some o/\o.cls=.type "tuple" /\ o.dict=none) \/
   (T = "dict" /\ ((∃ kvs,H p=some (.dK kvs))\/∃ kvs,H p=some (.dT kvs)))\/(T = "set" /\ ∃ S n,H p=some (.set S n))
 | _=>False
theorem yq {pins:List (Addr × Obj)} {σ : St} {H:Hp} {s:Shared} {T:String} {x:V} {v:Value} (I:Inv X pins σ H s) (r:RelV x v) (ty:zz X.K T x H) :
  s.TypeIs v T/\∀ a,v=.ref a->∃ ob,s.heap.get? a=some ob/\ob.dict=none:=by
 cases x with
 | str z =>
  obtain⟨t,rfl⟩:=r
  cases (show T = "str" from ty)
  exact⟨typeIs_str s z t,fun _ e=>nomatch e⟩
 | int i =>
  obtain⟨t,rfl⟩:=r
  cases (show T = "int" from ty)
  exact⟨typeIs_int s i t,fun _ e=>nomatch e⟩
 | ref p =>
  cases r
  rcases ty with ⟨rfl,xs,hq⟩ | ⟨rfl,o,hk,hc,hd⟩ | ⟨rfl,hk⟩ | ⟨rfl,S,n,hk⟩
  ·obtain⟨its,_,pl,_⟩:=I.list hq
   refine⟨pl.isList.typeIs,fun a e=>?_⟩
   cases e
   obtain⟨o,n,e,c,hd,_⟩:=pl
   exact⟨o,e,hd⟩
  ·refine⟨⟨o,I.oa p o hk,hc⟩,fun a e=>?_⟩
   cases e
   exact⟨o,I.oa _ o hk,hd⟩
  ·have z:∃ o,s.heap.get? p=some o/\o.ExactDict:=by
    rcases hk with ⟨kvs,hk⟩ | ⟨kvs,hk⟩
    ·obtain⟨_,_,_,_,o,_,_,e,ex,_⟩:=I.aG p _ hk
     exact⟨o,e,ex⟩
    ·obtain⟨_,_,_,_,o,_,_,e,ex,_⟩:=I.aG p _ hk
     exact⟨o,e,ex⟩
   obtain⟨o,e,ex⟩:=z
   refine⟨⟨o,e,ex.1⟩,fun a e2=>?_⟩
   cases e2
   exact⟨o,e,ex.2.1⟩
  ·obtain⟨o,_,_,_,e,ex,_⟩:=I.aG p _ hk
   refine⟨⟨o,e,ex.1⟩,fun a e2=>?_⟩
   cases e2
   exact⟨o,e,ex.2.1⟩
 | _=>exact False.elim ty
def An (K:PySem.W.Frag) (T:String) (r:V->List V->Hp->VK->Prop) (to:TE) (t:TA):TE:=fun σ H Q=>to σ H fun x H1=>zz K T x H1/\t σ H1 fun xs H2=>r x xs H2 Q
variable {o e:Expr} {es:List Expr} {to:TE} {t:TA} {name:Str} {apos cpos:Pos} {T id:String} {r:V->List V->Hp->VK->Prop}
theorem ik (pa:PlainAttrs T) (slot:Slot T name id) (hty:typeOf (.builtin id)=pure (.type "method_descriptor")) (hm:zx X id r) (ho:PE X o to) (ha:PA X (e :: es) t)
  (hbase:attributeBase o name X.env (eval o X.env)=eval o X.env:=by rfl)
  (hfew:((backTo cpos (starEach (e :: es) X.env)).all (fun x=>!x.1) && (backToKw cpos (keywordEach [] X.env)).all (fun x=>x.1.isSome)
   && decide ((e :: es).length+([]:List Keyword).length+(if ([]:List Keyword).isEmpty then 0 else 1) < 30))=true:=by rfl)
  (hline:(apos.endLine == cpos.line)=true:=by rfl) (hs:starEach (e :: es) X.env=(false,eval e X.env) :: starEach es X.env:=by rfl) (hplain:(backTo cpos (starEach es X.env)).any (·.1)=false:=by rfl) :
  PE X (.Call (.Attribute o name apos) (e :: es) [] cpos) (An X.K T r to t):=by
 intro pins s σ H Q I h
 refine wpAny_Call_method_late hbase hfew hline rfl (bh (ho pins s σ H _ I h) fun v s1 ⟨x,H1,I1,r1,ty,q1⟩=>?_)
 obtain⟨h1,h2⟩:=yq I1 r1 ty
 refine⟨T,id,pa,slot,hty,h1,h2,?_⟩
 have hA:=ha cpos pins s1 σ H1 _ I1 q1
 rw [hs] at hA ⊢
 refine Calls.callWith_builtin (by show (false || (backTo cpos (starEach es X.env)).any (·.1))=false;rw [hplain] <;> rfl) (Calls.evalArgs_plain ?_)
 exact bh hA fun us s2 ⟨vs,H2,I2,r2,q2⟩=>hm pins s2 σ H2 x vs v us Q I2 r1 r2 q2
end
def yr (X:Cx) (id:String) (r:V->List V->Hp->VK->Prop):Prop :=
 ∀ (pins:List (Addr × Obj)) (s:Shared) (σ : St) (H:Hp) (x:V) (xs:List V) (v:Value) (us:List Value) (Q:VK),Inv X pins σ H s->RelV x v->Vals xs us->r x xs H Q ->
  wpAny (model X.prog X.w) X.A (call (.builtin id) (v :: us)) (EP X pins σ Q) X.xe s
theorem Vals.one:∀ {x:V} {us:List Value},Vals [x] us->∃ u,us = [u]/\RelV x u
 | _,_,.cons r .nil=>⟨_,rfl,r⟩
theorem Vals.rep {xs:List V} {us:List Value} (h:Vals xs us):∀ k:Nat,Vals (List.replicate k xs).flatten (List.replicate k us).flatten
 | 0=>.nil
 | k+1=>by
  rw [List.replicate_succ,List.replicate_succ,List.flatten_cons,List.flatten_cons]
  exact Vals.append h (Vals.rep h k)
theorem foldl_rep (its:List Value):∀ (k:Nat) (acc:List Value),
  List.foldl (fun x1 x2=>x1++x2) acc.toArray (List.replicate k its.toArray)=(acc++(List.replicate k its).flatten).toArray
 | 0,acc=>by simp
 | k+1,acc=>by
  have e:acc.toArray++its.toArray=(acc++its).toArray:=by simp
  have e2:(acc++its)++(List.replicate k its).flatten=acc++(List.replicate (k+1) its).flatten:=by
   rw [List.replicate_succ,List.flatten_cons,List.append_assoc]
  rw [<-e2,<-foldl_rep its k (acc++its),<-e,List.replicate_succ,List.foldl_cons]
section
variable {X:Cx} {pins:List (Addr × Obj)} {σ : St} {H:Hp} {s:Shared} {l b:Addr} {xs ys zs:List V}
theorem Inv.yt {its its':List Value} {n:Nat} {f:Array Value->Array Value} {t':Nat} (I:Inv X pins σ H s) (hH:H l=some (.lst xs))
  (e:s.heap.get? l=some { cls:=.type "list",data:=.seq its.toArray n }) (hf:f its.toArray=its'.toArray) (hv:Vals ys its') (hz:ys.length<=sizeLine) :
  Inv X pins σ (upd H l (.lst ys)) { s with heap:=s.heap.update l (Obj.mapSeq f),toks:=t' }:=by
 have q:=PySem.IsL.update e f
 rw [hf] at q
 refine I.write (x:=l) (e:=l) (by rw [hH];exact trivial) (.inl rfl) (fun b' u hb hu=>(Heap.get?_update_other s.heap (Obj.mapSeq f) (Ne.symm hb)).trans hu) ⟨_,q⟩ ?_
 exact⟨hz,its',_,hv,q⟩
theorem Inv.z7 {its:List Value} {t':Nat} (I:Inv X pins σ H s) (hv:Vals ys its) (hz:ys.length<=sizeLine) :
  Inv X pins σ (upd H s.heap.objs.size (.lst ys)) { s with heap:=s.heap.push { cls:=.type "list",data:=.seq its.toArray },toks:=t' } :=
 I.laid (fun _ _ q=>Heap.get?_push_of_some _ q) (Nat.le_refl _) ⟨hz,its,0,hv,Heap.get?_push_size _ rfl⟩
theorem Inv.fresh (I:Inv X pins σ H s):H s.heap.objs.size=none:=I.aG.fresh (Nat.le_refl _)
theorem Inv.pN (I:Inv X pins σ H s) (hH:H l=some (.lst xs)):xs.length<=sizeLine/\∃ (its:List Value) (n:Nat),Vals xs its/\xs.length=its.length/\s.heap.get? l=some { cls:=.type "list",data:=.seq its.toArray n }:=by
 obtain⟨z,its,n,r,e⟩:=I.aG l _ hH
 exact⟨z,its,n,r,r.length,e⟩
theorem pO {n:Nat} (h:n<=sizeLine):Builtin.List.listTooLong n=false:=by
 unfold Builtin.List.listTooLong
 exact decide_eq_false (by omega)
end
section
variable {X:Cx}
def xi:V->List V->Hp->VK->Prop:=fun x vs H Q=>∃ l xs y,x=.ref l/\vs = [y]/\H l=some (.lst xs)/\xs.length < sizeLine/\Q .aB (upd H l (.lst (xs ++ [y])))
theorem gB:yr X "list.append" xi:=by
 intro pins s σ H x vs v us Q I rx rv h
 obtain⟨l,xs,y,rfl,rfl,hH,hz,q⟩:=h
 cases rx
 obtain⟨u,rfl,ru⟩:=rv.one
 obtain⟨z,its,n,r,hl,e⟩:=I.pN hH
 refine call_meets F.slot_list_append ⟨_,e,rfl⟩ F.entry_list_append (F.args_list_append_2 _ _) (PySem.list_append l its.toArray n u (by rw [List.size_toArray];omega)) ⟨e,?_⟩
 refine⟨.aB,_,I.yt (its':=its ++ [u]) hH e (by simp) (r.append (.cons ru .nil)) ?_,rfl,q⟩
 rw [List.length_append,List.length_singleton]
 omega
def xj:V->List V->Hp->VK->Prop:=fun x vs H Q=>∃ l b xs zs,x=.ref l/\vs = [.ref b]/\H l=some (.lst xs)/\H b=some (.lst zs)/\xs.length+zs.length<=sizeLine/\Q .aB (upd H l (.lst (xs++zs)))
theorem ox:yr X "list.extend" xj:=by
 intro pins s σ H x vs v us Q I rx rv h
 obtain⟨l,b,xs,zs,rfl,rfl,hH,hB,hz,q⟩:=h
 cases rx
 obtain⟨u,rfl,ru⟩:=rv.one
 cases ru
 obtain⟨z,its,n,r,hl,e⟩:=I.pN hH
 obtain⟨z2,its2,n2,r2,hl2,e2⟩:=I.pN hB
 have hsz:its.toArray.size+its2.toArray.size<=sizeLine:=by rw [List.size_toArray,List.size_toArray];omega
 have hlong:¬ (!its.toArray.isEmpty && Builtin.List.listTooLong (its.toArray.size+its2.toArray.size))=true:=by
  rw [pO hsz,Bool.and_false]
  exact Bool.false_ne_true
 refine call_meets F.slot_list_extend ⟨_,e,rfl⟩ F.entry_list_extend (F.args_list_extend_2 _ _)
  (AutoSeq1.list_extend_list_list_0 l its.toArray n b its2.toArray n2 hlong (by rw [List.size_toArray];omega) (by omega)) ⟨e,e2,?_⟩
 refine⟨.aB,_,I.yt (its':=its++its2) hH e (by simp) (r.append r2) ?_,rfl,q⟩
 rw [List.length_append]
 omega
def z8:R2:=fun x y H Q=>∃ l k xs,x=.ref l/\y=.int k/\H l=some (.lst xs)/\-(2 ^ 63)<=k/\k < 2 ^ 63/\xs.length * k.toNat<=sizeLine /\
 ∀ p,H p=none->Q (.ref p) (upd H p (.lst (List.replicate k.toNat xs).flatten))
theorem len_rep {α : Type} (xs:List α) (k:Nat):(List.replicate k xs).flatten.length=k * xs.length:=by
 induction k with
 | zero=>simp
 | succ k ih=>rw [List.replicate_succ,List.flatten_cons,List.length_append,ih,Nat.succ_mul,Nat.add_comm]
theorem pP:en X (binaryOp .Mult) z8:=by
 intro pins s σ H x y v u Q I rx ry h
 obtain⟨l,k,xs,rfl,rfl,hH,h1,h2,hz,q⟩:=h
 cases rx
 obtain⟨t,rfl⟩:=ry
 obtain⟨z,its,n,r,hl,e⟩:=I.pN hH
 have hlen:its.toArray.size * k.toNat<=sizeLine:=by rw [List.size_toArray,<-hl];exact hz
 have hcap:¬ its.toArray.size * k.toNat > (2 ^ 63 - 1) / 8:=by
  have:(sizeLine:Nat)<=(2 ^ 63 - 1) / 8:=by decide
  omega
 have hfit:¬ (!Builtin.List.listFitsIndex k)=true:=by
  rw [fitsIndex_both h1 h2]
  exact Bool.false_ne_true
 have hlong:¬ Builtin.List.listTooLong (its.toArray.size * k.toNat)=true:=by
  rw [pO hlen]
  exact Bool.false_ne_true
 have hnew:List.foldl (fun x1 x2=>x1++x2) #[] (List.replicate (if its.toArray.isEmpty=true then 0 else k.toNat) its.toArray)=(List.replicate k.toNat its).flatten.toArray:=by
  have f0:∀ m:Nat,List.foldl (fun x1 x2=>x1++x2) #[] (List.replicate m its.toArray)=(List.replicate m its).flatten.toArray:=fun m=>by
   have:=foldl_rep its m []
   rw [List.nil_append] at this
   exact this
  rw [f0]
  cases its with
  | nil=>simp
  | cons a r'=>rw [if_neg (by simp)]
 refine wpAny_binaryOp_repeat_ref (T := "list") (U := "int") (by decide) ⟨_,e,rfl⟩ (fun s'=>typeIs_int s' k t) noFill_list_mul F.fills_int_mul F.slot_int_rmul repeat_list F.slot_int_index.lookup
  (call_meets F.slot_int_rmul (typeIs_int s k t) F.entry_int_rmul (F.args_int_rmul_2 _ _) (int___rmul___int_list k t l its.toArray n)
   ⟨e,rfl,⟨_,e,rfl⟩,call_meets F.slot_list_mul ⟨_,e,rfl⟩ F.entry_list_mul (F.args_list_mul_2 _ _) (AutoListH.list___mul___list_int_3 l its.toArray n k t hfit hcap hlong) ⟨e,?_⟩⟩)
 rw [hnew]
 exact⟨.ref _,_,I.z7 (t':=s.toks) (r.rep k.toNat) (by rw [len_rep,Nat.mul_comm];exact hz),rfl,q _ I.fresh⟩
end
section
variable {prog:Program} {w:World} {A:Around} {E:Value->Shared->Prop} {s:Shared}
end
section
variable {X:Cx}
end
end L2
namespace zA
open PySem PySem.W PySem.Calls PyProof.Rows
theorem mT {P:Params} {h:Heap}:∀ (ns:List Int) (vs:List Value),WellAll P h vs (ns.map WData.int)->IntsAre vs ns:=by
 intro ns
 induction ns with
 | nil =>
  intro vs w
  rw [List.map_nil] at w
  cases w
  exact .nil
 | cons n ns ih =>
  intro vs w
  rw [List.map_cons] at w
  cases w with
  | cons a b =>
   cases a
   exact .cons _ _ (ih _ b)
theorem tW {l:OpenLaw} {n:Nat} (hn:l.most=some n) {P:Params} {h:Heap} {args:List WData} {vals:List Value}
  (hpre:l.row.toRowW.claim.pre args=true) (hwl:WellAll P h vals args) :
  ∃ a vs ns,vals = [Value.ref a]/\args = [WData.list (ns.map WData.int)]/\h.get? a=some { cls:=.type "list",data:=.seq vs.toArray }/\IntsAre vs ns/\ns.length<=n:=by
 have hsh:WShape.hasAll [] args [.list .int] = true:=(pre_splitW hpre).1
 have hc:l.pre.holds [] { args:=args }=true:=(pre_splitW hpre).2
 obtain⟨d,r,rfl,h1,h2⟩:=hasAllW_cons hsh
 obtain rfl:=hasAllW_nil h2
 obtain⟨xs,rfl,h3⟩:=hasW_list h1
 obtain⟨ns,rfl⟩:=items_int h3
 have hlen:ns.length<=n:=by
  unfold OpenLaw.pre at hc
  have h4:(WTm.not (.lt (.lit (.int (n:Int))) (.len (.arg 0)))).holds [] { args:=[.list (ns.map .int)] }=true:=by
   have h4:=(holds_andW hc).1
   rw [hn] at h4
   exact h4
  have h5:=condW_of h4 (w_not (w_lt w_lit (w_len_list (w_arg rfl))))
  rw [List.length_map] at h5
  refine Nat.le_of_not_lt fun q=>?_
  have q':(n:Int) < ((ns.length:Nat):Int):=by omega
  first
   | (rw [decide_eq_true q'] at h5;exact absurd h5 (by decide))
   | (simp at h5;omega)
 cases hwl with
 | cons w1 w2 =>
  cases w2
  cases w1 with
  | list ho hall=>exact⟨_,_,ns,rfl,rfl,ho,mT ns _ hall,hlen⟩
theorem tX (l:OpenLaw) (args:List WData):l.row.toRowW.claim.post args (.bool true) args=true :=
 postW_of (r:=l.row.toRowW) (X:=(true == true))
  (show WShape.has [] (.bool true) .bool=true by first | rfl | decide | simp [WShape.has,WShape.arms,WShape.armsAll])
  (show (WTm.eq .res (.lit (.bool true))).value [] { args:=args,res:=some (.bool true),after:=args }=some (.bool (true == true)) from w_eq_bool (w_res rfl) w_lit) rfl
theorem qL {l:OpenLaw} {n:Nat} {q:Program} {loose:List Str} {XP:(Str->Option Value)->Heap->Prop} {YP:World->Heap->Prop} {d:DefRec}
  (hn:l.most=some n) (hdf:d.params.defaults = [])
  (call:∀ (w:World) (du s₁ : Shared) (mg mb:Str->Option Value) (fa:Addr) (o:Obj) (pm cd doc:Value) (a:Addr) (vs:List Value) (ns:List Int),
   Ground q loose [] XP w du mg mb s₁.heap->YP w s₁.heap ->
   s₁.heap.get? fa=some o->o.data=.func (docDef d.name d.params d.body d.scope pm cd doc)->s₁.heap.CodeRec cd d.name->mg d.name=some (.ref fa) ->
   s₁.heap.get? a=some { cls:=.type "list",data:=.seq vs.toArray }->IntsAre vs ns->ns.length<=n->s₁.gens = #[] ->
   codeAny (model l.prog w) callerA (.call (.ref fa) ⟨[.ref a],[]⟩) (fun r s'=>r=.ok (.ret (.bool true))/\OldK s₁.heap s'.heap/\s'.os=s₁.os/\AllBare s'.gens) s₁) :
  WalkO q loose XP YP l.row.toRowW d [] (fun f vs=>PySem.call f vs):=by
 intro w du s₁ mg mb G Y fa o pm cd doc dV kV ho hd hcd hD hmg hg args vals as hpre hlay hrd hwl hlo
 obtain rfl:dV=.none:=Dflts.none hD hdf
 obtain rfl:kV=.none:=Dflts.noKw hD
 obtain⟨a,vs,ns,rfl,rfl,hobj,hints,hlen⟩:=tW hn hpre hwl
 refine enter_call (codeAny_mono (call w du s₁ mg mb fa o pm cd doc a vs ns G Y ho (fd_plain hd) hcd hmg hobj hints hlen hg) fun r s' hq=>?_)
 obtain⟨rfl,h2,h3,h4⟩:=hq
 exact⟨.inl ⟨.bool true,.bool true,[],rfl,fun _=>rfl,.bool true,tX l _,fun _=>⟨List.Pairwise.nil,fun _ hm=>(nomatch hm)⟩⟩,h2,h3,h4⟩
section
variable {prog:Program} {w:World} {A:Around} {E:Value->Shared->Prop} {s:Shared} {K:Frag}
def ledger (h:Heap) (L d:Addr):List (Addr × Obj):=(List.range h.objs.size).filterMap fun a=>if a=L\/a=d then none else (h.get? a).map fun o=>(a,o)
end
end zA
namespace L2
open PySem PySem.Spec PyProof.Rows
theorem ko:∀ {vs:List Value} {ns:List Int},IntsAre vs ns->Vals (ns.map V.int) vs
 | _,_,.nil=>.nil
 | _,_,.cons n t h=>.cons ⟨t,rfl⟩ (ko h)
def vi (H:Hp):Prop:=∀ b,H b=none\/∃ o xs,H b=some (.dB o (.lst xs))
theorem vj {P:Program} {w:World} {K:PySem.W.Frag} {mg mb:Str->Option Value} {CX:kj} {k:Nat} {fa a:Addr} {fd:FuncData} {x:Str} {sp:Sp} {s₁ : Shared} {vs:List Value} {ns:List Int}
    (KX:K.In s₁.heap) (hns:s₁.heap.Ns mainGlobals mg) (hb:s₁.heap.Ns builtinsNs mb) (hbb:∀ x:Str,x ≠ "__name__" -> mb x=bootBuiltins x) (hlim:s₁.heap.NoLimit) (hg:s₁.gens = #[])
    (ha:s₁.heap.get? a=some { cls:=.type "list",data:=.seq vs.toArray }) (hi:IntsAre vs ns) (hl:ns.length<=sizeLine) (hr:eX k callerA)
    (F:∀ base:Heap,K.In base->base.Ns mainGlobals mg->bD P w K mg base CX k fa fd [x] sp) (hbind:∀ (s:Shared) (u:Value),BindsTo s fd ⟨[u],[]⟩ [(x,u)])
    (hsp:∀ H:Hp,vi H->aX K H a (ns.map V.int)->sp [.ref a] H (fun v _=>v=.bl true) fun _ _ _=>False)
    (hCX:∀ H e s',CX [] H s₁ (fun _ _ _=>False) e s'->False) :
    codeAny (model P w) callerA (.call (.ref fa) ⟨[.ref a],[]⟩) (fun r s'=>r=.ok (.ret (.bool true))/\OldK s₁.heap s'.heap/\s'.os=s₁.os/\AllBare s'.gens) s₁:=by
  have rv:=ko hi
  have lenV:=hi.length
  have core:∀ H:Hp,vi H->aX K H a (ns.map V.int)->dG P w H s₁.heap->(∀ b,H b ≠ none->b=a)->(H a ≠ none->K.lookup a=none) ->
      codeAny (model P w) callerA (.call (.ref fa) ⟨[.ref a],[]⟩) (fun r s'=>r=.ok (.ret (.bool true))/\OldK s₁.heap s'.heap/\s'.os=s₁.os/\AllBare s'.gens) s₁:=by
    intro H hO hS aG hA hK
    have base_of:∀ {b:Addr} {o:Obj},s₁.heap.get? b=some o->H b=none->(jQ s₁.heap H).get? b=some o:=fun e n=>uY e n
    have noA:∀ {b:Addr} {o:Obj} {es:Array DictEntry} {ep:Nat},s₁.heap.get? b=some o->o.data=.dict es ep->H b=none:=fun {b o es ep} e d=>by
      cases q:H b with
      | none=>rfl
      | some u =>
        have e':b=a:=hA b (by rw [q];simp)
        subst e'
        rw [ha] at e;cases e
        have d':Data.seq vs.toArray _=Data.dict es ep:=d
        cases d'
    have nsK:∀ {b:Addr} {m:Str->Option Value},s₁.heap.Ns b m->(jQ s₁.heap H).Ns b m:=fun {b m} ⟨o,es,ep,e,d,r⟩=>⟨o,es,ep,base_of e (noA e d),d,r⟩
    have hKb:K.In (jQ s₁.heap H):=fun b o e=>base_of (KX b o e) (by
      cases q:H b with
      | none=>rfl
      | some u =>
        have e':b=a:=hA b (by rw [q];simp)
        subst e'
        rw [hK (by rw [q];simp)] at e;cases e)
    have hM:Mod K mg (jQ s₁.heap H):=⟨hKb,nsK hns,⟨mb,nsK hb,hbb⟩,let ⟨mc,h1,h2⟩:=hlim;⟨mc,nsK h1,h2⟩⟩
    have e0:sA P w K mg (jQ s₁.heap H) callerA [] s₁ H:=⟨rfl,hM,fun b o e=>w4 e,Nat.le_of_eq (tO _ _),trivial,fun b hb=>absurd (show b ∈ ([]:List Addr) from hb) (by simp),aG,.of_eq hg⟩
    refine codeAny_mono ((F _ hKb (nsK hns)).run callerA [] s₁ H ⟨[.ref a],[]⟩ [.ref a] [.ref a] _ _ hr e0 (hbind s₁ (.ref a)) (.cons rfl .nil) (hsp H hO hS)) fun r s' h=>?_
    cases r with
    | error e=>exact (hCX H e s' h).elim
    | ok fl =>
      cases fl with
      | next=>exact False.elim h
      | brk=>exact False.elim h
      | cont=>exact False.elim h
      | ret u =>
        obtain⟨v,H',os,bare,un,hok',r',q⟩:=h
        have q':v=.bl true:=q
        subst q'
        obtain rfl:u=Value.bool true:=r'
        refine⟨rfl,OldK.of_keep fun b o e=>?_,os,bare⟩
        cases q:H b with
        | none=>exact un.keep b o e q (by intro z;exact absurd (show b ∈ ([]:List Addr) from z) (by simp)) (by simp)
        | some u =>
          rcases hO b with z | ⟨ob,xs,z⟩
          · rw [q] at z;cases z
          · have z2:=un.iH b ob _ z
            obtain⟨e1,_⟩:=aG b _ z
            obtain⟨e2,_⟩:=hok' b _ z2
            rw [e] at e1;cases e1
            exact e2
  cases hk:K.lookup a with
  | some o =>
    have e:=KX a o hk
    rw [ha] at e
    cases e
    refine core (fun _=>none) (fun _=>.inl rfl) (.inr ⟨_,vs.toArray,_,hk,rfl,rfl,rfl,by rw [List.size_toArray,lenV];exact hl,by simpa using rv⟩) (fun b u z=>by have z':(none:Option HO)=some u:=z;cases z') (fun b z=>absurd rfl z) fun z=>absurd rfl z
  | none =>
    refine core (fun b=>if b=a then some (.dB { cls:=.type "list",data:=.seq vs.toArray } (.lst (ns.map V.int))) else none) (fun b=>?_) (.inl (.inr ⟨{ cls:=.type "list",data:=.seq vs.toArray },if_pos rfl⟩)) (fun b u z=>?_) (fun b z=>?_) fun _=>hk
    · by_cases hb:b=a
      · exact .inr ⟨_,_,if_pos hb⟩
      · exact .inl (if_neg hb)
    · by_cases hb:b=a
      · have z':=(if_pos hb).symm.trans z
        cases z'
        subst hb
        exact⟨ha,by rw [List.length_map];exact hl,vs,_,rv,ha⟩
      · have z':=(if_neg hb).symm.trans z
        cases z'
    · by_cases hb:b=a
      · exact hb
      · exact absurd (if_neg hb) z
abbrev KOf {K:PySem.W.Frag} {h:Heap} (_:K.In h):PySem.W.Frag:=K
theorem xk {l:PySem.W.OpenLaw} {n k:Nat} {q:Program} {loose:List Str} {XP:(Str->Option Value)->Heap->Prop} {YP:World->Heap->Prop} {d:DefRec} {K:Params->PySem.W.Frag} {CX:World->kj} {sp:World->Sp} {x:Str}
  (hn:l.most=some n) (hn2:n<=sizeLine) (hdf:d.params.defaults = []) (hr:eX k callerA)
  (hY:∀ (w:World) (h:Heap),YP w h->(K w.params).In h)
  (F:∀ (w:World) (mg:Str->Option Value) (fa:Addr) (h:Heap),(K w.params).In h->h.Ns mainGlobals mg->mg d.name=some (.ref fa) ->
   ∃ fd:FuncData,(∀ (s:Shared) (u:Value),BindsTo s fd ⟨[u],[]⟩ [(x,u)]) /\
    ∀ base:Heap,(K w.params).In base->base.Ns mainGlobals mg->bD l.prog w (K w.params) mg base (CX w) k fa fd [x] (sp w))
  (hsp:∀ (w:World) (H:Hp) (a:Addr) (ns:List Int),ns.length<=n->vi H->aX (K w.params) H a (ns.map V.int)->sp w [.ref a] H (fun v _=>v=.bl true) fun _ _ _=>False)
  (hCX:∀ (w:World) (H:Hp) (s:Shared) (e:Value) (s':Shared),CX w [] H s (fun _ _ _=>False) e s'->False) :
  PySem.W.WalkO q loose XP YP l.row.toRowW d [] (fun f vs=>PySem.call f vs):=by
 refine zA.qL hn hdf fun w du s₁ mg mb fa o pm cd doc a vs ns G Y ho hd hcd hmg hobj hints hlen hg=>?_
 have KX:=hY w _ Y
 obtain⟨fd,hb,hF⟩:=F w mg fa _ KX G.T.g hmg
 exact vj KX G.T.g G.T.b G.T.builtins G.T.nolimit hg hobj hints (Nat.le_trans hlen hn2) hr hF hb (fun H hO hS=>hsp w H a ns hlen hO hS) fun H e s'=>hCX w H s₁ e s'
def aO (s:Stmt):Arguments:=match s with
 | .FunctionDef _ a _ _ _ _ _ _ _ _=>a
 | _=>{ posonlyargs:=[],args:=[],vararg:=none,kwonlyargs:=[],kw_defaults:=[],kwarg:=none,defaults:=[] }
def aN (s:Stmt):List Stmt:=match s with
 | .FunctionDef _ _ b _ _ _ _ _ _ _=>b
 | _=>[]
def av (s:Stmt):Scope:=match s with
 | .FunctionDef _ _ _ _ _ _ sc _ _ _=>sc
 | _=>{ kind:=.function,names:=[],isGenerator:=false,isCoroutine:=false }
abbrev bX:kj:=fun _ _ _ _ _ _=>False
abbrev E0:XK:=fun _ _ _=>False
theorem ze {X:Cx}:Passes bX X E0:=fun _ _ _ _ _ _ _ h=>h.elim
structure bZ (K:PySem.W.Frag) (x qual:Str) (st:Stmt) (f:Addr) (fd:FuncData):Prop where
 ex:∃ (oc:Value) (od:Option Addr) (kV doc pm:Value) (an:Option Addr) (cdv ct:Value) (osl:Array (Option Value)),
  fd=PySem.W.fnOf x qual (aO st) (aN st) (av st) .none kV doc pm an cdv ct/\K.lookup f=some ⟨oc,od,.func fd,osl⟩/\PySem.W.codeIn K cdv qual=true
 kp:PySem.W.keepIn K (.ref f)=true
section
variable {P:Program} {w:World} {K:PySem.W.Frag} {mg:Str->Option Value} {base:Heap}
theorem bZ.ok {x qual:Str} {st:Stmt} {f:Addr} {fd:FuncData} {N ps:List Str} {k:Nat} {sp:Sp} (F:bZ K x qual st f fd) (S:aQ N ps (av st)) (len:∀ vs H Q E,sp vs H Q E->vs.length=ps.length)
  (hbody:∀ (cdv:Value) (A:Around) (outer:List Env) (s:Shared) (H:Hp) (vs:List V) (Q:VK) (E:XK),eX k (A.deeper (envOfC qual (av st) s.heap.objs.size f cdv))->sp vs H Q E ->
   ∃ t,je (nF bX P w K mg base N qual (av st) f cdv A outer s H E).wH (aN st) t/\t { nx:=fun _ H'=>Q .aB H',rt:=Q } (start N vs) H):bD P w K mg base bX (k+1) f fd ps sp:=by
 obtain⟨oc,od,kV,doc,pm,an,cdv,ct,osl,rfl,lk,hcd⟩:=F.ex
 refine zb lk hcd S len fun A outer s H vs Q E hr hsp=>?_
 obtain⟨t,h,q⟩:=hbody cdv A outer s H vs Q E hr hsp
 exact⟨t,h.wH,q⟩
theorem bZ.binds {x qual:Str} {st:Stmt} {f:Addr} {fd:FuncData} {ps:List Str} (F:bZ K x qual st f fd)
  (h:∀ (kV doc pm:Value) (an:Option Addr) (cdv ct:Value) (us:List Value),us.length=ps.length->bindArgs (PySem.W.fnOf x qual (aO st) (aN st) (av st) .none kV doc pm an cdv ct) ⟨us,[]⟩=pure (ps.zip us)):Binds K fd ps []:=by
 obtain⟨oc,od,kV,doc,pm,an,cdv,ct,osl,rfl,lk,hcd⟩:=F.ex
 exact .all (h kV doc pm an cdv ct)
theorem bc {x qual:Str} {st:Stmt} {f:Addr} {oc:Value} {od an:Option Addr} {osl:Array (Option Value)} {kV doc pm cdv ct:Value} (l:K.lookup f=some ⟨oc,od,.func (PySem.W.fnOf x qual (aO st) (aN st) (av st) .none kV doc pm an cdv ct),osl⟩)
  (c:PySem.W.codeIn K cdv qual=true) (k:PySem.W.keepIn K (.ref f)=true):bZ K x qual st f (PySem.W.fnOf x qual (aO st) (aN st) (av st) .none kV doc pm an cdv ct):=⟨⟨oc,od,kV,doc,pm,an,cdv,ct,osl,rfl,l,c⟩,k⟩
end
theorem cm {A:Around} {k:Nat} (hr:eX k A):A.units+1 < cLine:=Nat.lt_of_le_of_lt (Nat.add_le_add_left (by decide:1<=64) _) hr.units
theorem br {n:Nat} (h:n<=1000):n < sizeLine:=Nat.lt_of_le_of_lt h (by decide)
section
variable {X:Cx}
theorem pv (i:Nat) {x:Str} {pos:Pos} (hN:X.N[i]? = some x:=by rfl) (hv:xW X.env.scope x:=by first | exact Or.inl rfl | exact Or.inr (Or.inl rfl) | exact Or.inr (Or.inr rfl)) (hd:(x == ("__debug__" : Str))=false:=by decide)
  (hcd:(x == ("__classdict__" : Str))=false:=by decide):PE X (.Name x pos) (nB i):=xX hN hv hd hcd
end
theorem aV {A B:Prop} (h:B):if false=true then A else B:=by
 rw [if_neg Bool.false_ne_true]
 exact h
theorem aW {A B:Prop} (h:A):if true=true then A else B:=by
 rw [if_pos rfl]
 exact h
theorem cM {c A B:Prop} [Decidable c] (h1:c->A) (h2:¬ c->B):if c then A else B:=by
 by_cases h:c
 ·rw [if_pos h]
  exact h1 h
 ·rw [if_neg h]
  exact h2 h
def ah (H H':Hp):Prop:=∀ b o,H b=some o->H' b=some o
theorem ah.refl (H:Hp):ah H H:=fun _ _ h=>h
theorem ah.trans {H H1 H2:Hp} (a:ah H H1) (b:ah H1 H2):ah H H2:=fun c o h=>b c o (a c o h)
theorem ah.free {H H':Hp} (e:ah H H') {l:Addr} (h:H' l=Option.none):H l=Option.none:=by
 cases q:H l with
 | none=>rfl
 | some o =>
  rw [e l o q] at h
  cases h
section
variable {X:Cx}
theorem xl:en X (binaryOp .Mult) (rI IntMulOk fun i j=>.int (i * j)):=rE fun _ _ _ _ _ _ _ hc q=>mul_int q hc
def zf (_i j:Int):Prop:=0 < j/\j.natAbs.log2 < 9000
theorem vk:en X (binaryOp .FloorDiv) (rI zf fun i j=>.int (i / j)):=rE fun i j _ _ _ _ _ hc q=>by
 have h1:(0:Int) < j:=hc.1
 exact floordiv_int (by omega) (by rw [Int.fdiv_eq_ediv_of_nonneg i (by omega)];exact q) (.inl (PyProof.noPylong_of_log2 hc.2))
structure Own (P:Program) (w:World) (K:PySem.W.Frag) (mg:Str->Option Value) (base:Heap) (x:Str) (k:Nat) (ps:List Str) (sp:Sp):Prop where
 ex:∃ f fd,bD P w K mg base bX k f fd ps sp/\mg x=some (.ref f)/\PySem.W.keepIn K (.ref f)=true/\Binds K fd ps []
variable {x:Str} {k:Nat} {ps:List Str} {sp:Sp} {e:Expr} {es:List Expr} {t:TA} {p pos:Pos}
theorem aC (o:Own X.prog X.w X.K X.mg X.base x k ps sp) (hr:eX k X.A) (hg:Gl X x) (ha:PA X (e :: es) t)
  (hdb:(x == ("__debug__" : Str))=false:=by decide) (he:starEach (e :: es) X.env=(false,eval e X.env) :: starEach es X.env:=by rfl)
  (hpl:(backTo pos (starEach es X.env)).any (·.1)=false:=by rfl):PE X (.Call (.Name x p) (e :: es) [] pos) (wK sp [] E0 t):=by
 obtain⟨f,fd,F,hm,hk,hb⟩:=o.ex
 exact xb F hr hg hm hk hb .nil ze ha hdb he hpl
end
theorem cf {α : Type} {x:α} {xs:List α}:fU (x :: xs) 0=some x:=bJ (j:=0) rfl
theorem cG {α : Type} {x y:α} {xs:List α}:fU (x :: y :: xs) 1=some y:=bJ (j:=1) rfl
theorem at2 {α : Type} {x y z:α} {xs:List α}:fU (x :: y :: z :: xs) 2=some z:=bJ (j:=2) rfl
theorem sG {α : Type} {xs:List α} {i:Int} (h0:0<=i) (h1:i < xs.length):∃ v,fU xs i=some v/\v ∈ xs:=by
 obtain⟨j,rfl⟩:∃ j:Nat,i=j:=⟨i.toNat,by omega⟩
 have hj:j < xs.length:=by omega
 exact⟨xs[j],bJ (by simp [hj]),List.getElem_mem hj⟩
theorem fA:bootBuiltins "len" = some (.builtin "len"):=by decide +kernel
theorem pQ:bootBuiltins "min" = some (.builtin "min"):=by decide +kernel
theorem yu:bootBuiltins "max" = some (.builtin "max"):=by decide +kernel
theorem kq:bootBuiltins "int" = some (.type "int"):=by decide +kernel
theorem cN:bootBuiltins "tuple" = some (.type "tuple"):=by decide +kernel
theorem rJ:bootBuiltins "list" = some (.type "list"):=by decide +kernel
def cK (H:Hp) (b:Addr):Prop:=∃ x y:Int,H b=some (.lst [.int x,.int y])/\0<=y/\y < 2147483648
def Fix (b:Addr) (H H':Hp):Prop:=∀ c o,H c=some o->c ≠ b->H' c=some o
theorem Fix.trans {b:Addr} {H H1 H2:Hp} (u:Fix b H H1) (v:Fix b H1 H2):Fix b H H2:=fun c o h n=>v c o (u c o h n) n
theorem Fix.wL {b:Addr} {H:Hp} {o:HO}:Fix b H (upd H b o):=fun c u h n=>by rw [au n];exact h
theorem Fix.new {b p:Addr} {H:Hp} {o:HO} (hp:H p=none):Fix b H (upd H p o):=fun c u h _=>by rw [au (aY h hp)];exact h
theorem Fix.of_same {b:Addr} {H H':Hp} (h:ah H H'):Fix b H H':=fun c o e _=>h c o e
theorem ah.new {p:Addr} {H:Hp} {o:HO} (hp:H p=none):ah H (upd H p o):=fun c u h=>by rw [au (aY h hp)];exact h
theorem cK.new {b p:Addr} {H:Hp} {o:HO} (h:cK H b) (hp:H p=none):cK (upd H p o) b:=by
 obtain⟨x,y,e,q⟩:=h
 exact⟨x,y,by rw [au (aY e hp)];exact e,q⟩
theorem cK.same {b:Addr} {H H':Hp} (h:cK H b) (s:ah H H'):cK H' b:=by
 obtain⟨x,y,e,q⟩:=h
 exact⟨x,y,s _ _ e,q⟩
theorem tY {α : Type} {x0:α}:[x0].length<=sizeLine:=by show 1<=sizeLine;decide
theorem ln2 {α : Type} {x0 x1:α}:[x0,x1].length<=sizeLine:=by show 2<=sizeLine;decide
theorem pR {α : Type} {x0 x1 x2:α}:[x0,x1,x2].length<=sizeLine:=by show 3<=sizeLine;decide
theorem Ao {α : Type} {x0 x1 x2 x3 x4:α}:[x0,x1,x2,x3,x4].length<=sizeLine:=by show 5<=sizeLine;decide
theorem Ap {α : Type} {x0 x1 x2 x3 x4 x5 x6:α}:[x0,x1,x2,x3,x4,x5,x6].length<=sizeLine:=by show 7<=sizeLine;decide
theorem ah.yw {b:Addr} {H H1 H2:Hp} (s:ah H H1) (n:H b=none) (f:Fix b H1 H2):ah H H2:=fun c o e=>f c o (s c o e) (aY e n)
theorem cK.pS {b p:Addr} {H:Hp} {xs:List V} (h:cK H b) (e:H p=some (.tup xs)):p ≠ b:=by
 obtain⟨x,y,e1,_⟩:=h
 exact bA e e1 (by intro z;cases z)
theorem cK.fb {b p:Addr} {H:Hp} (h:cK H b) (e:H p=none):p ≠ b:=by
 obtain⟨x,y,e1,_⟩:=h
 exact fun z=>aY e1 e z.symm
def sH (K:PySem.W.Frag):Sp:=fun vs H Q _=>∃ (a:Addr) (ns:List Int) (k:Int),vs = [.ref a,.int k]/\aX K H a (ns.map V.int)/\0<=k /\
 ∀ b H',H b=none->cK H' b->ah H H'->Q (.ref b) H'
def gc:Sp:=fun vs H Q _=>∃ (b:Addr) (m:Int),vs = [.ref b,.int m]/\cK H b/\(0 < m/\m.natAbs.log2 < 9000) /\
 ∀ r H',0<=r->r < m->cK H' b->Fix b H H'->Q (.int r) H'
def o7 (K:PySem.W.Frag):Sp:=fun vs H Q _=>∃ (a:Addr) (ns:List Int),vs = [.ref a]/\aX K H a (ns.map V.int)/\ns.length<=63/\∀ H',Q (.bl true) H'
def iz (cells:List (Str × Addr)):List (Str × NameKind)->List (Str × Addr)->List (Str × Addr)
 | [],cs=>cs
 | (n,k) :: r,cs=>iz cells r (if k == .free then (n,(cells.lookup n).getD 0) :: cs else cs)
theorem jT {scope:Scope} {env:Env} (hf:∀ y ∈ scope.names,y.2=.free->∃ c,env.cells.lookup y.1=some c):closureFor scope env=pure (iz env.cells scope.names []):=by
 have key:∀ (names:List (Str × NameKind)) (cs:List (Str × Addr)),(∀ y ∈ names,y.2=.free->∃ c,env.cells.lookup y.1=some c) ->
   (forIn names cs fun x r=>match x with
    | (name,kind)=>if (kind == NameKind.free)=true then (do let a <-cellOf env name;pure (ForInStep.yield ((name,a) :: r))) else pure (ForInStep.yield r):Sem (List (Str × Addr)))=pure (iz env.cells names cs):=by
  intro names
  induction names with
  | nil=>intro cs _;rfl
  | cons y r ih =>
   intro cs hy
   obtain⟨n,k⟩:=y
   have ih':=fun cs=>ih cs fun z hz=>hy z (List.mem_cons_of_mem _ hz)
   rw [List.forIn_cons]
   by_cases hk:(k == NameKind.free)=true
   ·have e:k=.free:=by simpa using hk
    obtain⟨c,hc⟩:=hy (n,k) List.mem_cons_self e
    have hc':env.cells.lookup n=some c:=hc
    simp only [hk,if_true,cellOf,hc',pure_bind,iz,Option.getD_some]
    exact ih' _
   ·have hk':(k == NameKind.free)=false:=by simpa using hk
    simp only [hk',Bool.false_eq_true,if_false,pure_bind,iz]
    exact ih' _
 unfold closureFor
 have e:=key scope.names [] hf
 show ((forIn scope.names ([]:List (Str × Addr)) fun x r=>match x with
    | (name,kind)=>if (kind == NameKind.free)=true then (do let a <-cellOf env name;pure (ForInStep.yield ((name,a) :: r))) else pure (ForInStep.yield r):Sem (List (Str × Addr))) >>= fun r=>pure r)=_
 rw [e,pure_bind]
theorem ji {cells:List (Str × Addr)}:∀ (names:List (Str × NameKind)) (cs:List (Str × Addr)),(∀ y ∈ names,y.2=.free->∃ c,cells.lookup y.1=some c) ->
  (∀ x c,cs.lookup x=some c->cells.lookup x=some c)->∀ x c,(iz cells names cs).lookup x=some c->cells.lookup x=some c
 | [],_,_,h,x,c,e=>h x c e
 | (n,k) :: r,cs,hf,h,x,c,e=>by
  refine ji r _ (fun y hy=>hf y (List.mem_cons_of_mem _ hy)) (fun z d hz=>?_) x c e
  by_cases hk:(k == NameKind.free)=true
  ·rw [if_pos hk] at hz
   obtain⟨c',hc⟩:=hf (n,k) List.mem_cons_self (by simpa using hk)
   have hc':cells.lookup n=some c':=hc
   rw [List.lookup_cons] at hz
   cases hzn:z == n with
   | true =>
    rw [hzn] at hz
    have:z=n:=by simpa using hzn
    subst this
    rw [hc'] at hz ⊢
    simpa using hz
   | false=>rw [hzn] at hz;exact h z d hz
  ·rw [if_neg hk] at hz;exact h z d hz
theorem kY {cells:List (Str × Addr)} {x:Str}:∀ (names:List (Str × NameKind)) (cs:List (Str × Addr)),((x,NameKind.free) ∈ names\/∃ c,cs.lookup x=some c)->∃ c,(iz cells names cs).lookup x=some c
 | [],_,h=>by
  rcases h with h | h
  ·cases h
  ·exact h
 | (n,k) :: r,cs,h=>by
  refine kY r _ ?_
  by_cases hk:(k == NameKind.free)=true
  ·rw [if_pos hk]
   cases hxn:x == n with
   | true=>exact .inr ⟨_,by rw [List.lookup_cons,hxn]⟩
   | false =>
    rcases h with h | ⟨c,h⟩
    ·rcases List.mem_cons.mp h with h | h
     ·have:x=n:=(Prod.mk.inj h).1
      subst this
      simp at hxn
     ·exact .inl h
    ·exact .inr ⟨c,by rw [List.lookup_cons,hxn];exact h⟩
  ·rw [if_neg hk]
   rcases h with h | h
   ·rcases List.mem_cons.mp h with h | h
    ·have:NameKind.free=k:=(Prod.mk.inj h).2
     subst this
     simp at hk
    ·exact .inl h
   ·exact .inr h
theorem i2 {env:Env} {x:Str} {k:NameKind} (hk:k=.cell\/k=.free):∀ {names:List (Str × NameKind)},(∀ y ∈ names,y.2 ≠ .cell) ->
  (names.map fun (n,k)=>if (k == NameKind.free && env.scope.kind == .function && env.kindOf n == some .cell) then (n,NameKind.cell) else (n,k)).lookup x=some k->(x,NameKind.free) ∈ names
 | [],_,h=>by simp at h
 | (n,q) :: r,hc,h=>by
  have ih:=i2 (env:=env) (x:=x) hk (names:=r) (fun y hy=>hc y (List.mem_cons_of_mem _ hy))
  have h':List.lookup x ((if (q == NameKind.free && env.scope.kind == .function && env.kindOf n == some .cell)=true then (n,NameKind.cell) else (n,q)) :: _)=some k:=h
  by_cases hq:(q == NameKind.free && env.scope.kind == .function && env.kindOf n == some .cell)=true
  ·rw [if_pos hq,List.lookup_cons] at h'
   have eq:q=.free:=by
    rw [Bool.and_eq_true,Bool.and_eq_true] at hq
    simpa using hq.1.1
   cases hxn:x == n with
   | true =>
    have:x=n:=by simpa using hxn
    subst this;subst eq
    exact List.mem_cons_self
   | false=>rw [hxn] at h';exact List.mem_cons_of_mem _ (ih h')
  ·rw [if_neg hq,List.lookup_cons] at h'
   cases hxn:x == n with
   | true =>
    rw [hxn] at h'
    have:x=n:=by simpa using hxn
    subst this
    have e:q=k:=Option.some.inj h'
    subst e
    rcases hk with hk | hk
    ·exact absurd hk (hc (x,q) List.mem_cons_self)
    ·subst hk;exact List.mem_cons_self
   | false=>rw [hxn] at h';exact List.mem_cons_of_mem _ (ih h')
theorem i3 {env:Env} {x:Str}:∀ {names:List (Str × NameKind)},names.lookup x=some .free ->
  (names.map fun (n,k)=>if (k == NameKind.free && env.scope.kind == .function && env.kindOf n == some .cell) then (n,NameKind.cell) else (n,k)).lookup x=some .cell \/
  (names.map fun (n,k)=>if (k == NameKind.free && env.scope.kind == .function && env.kindOf n == some .cell) then (n,NameKind.cell) else (n,k)).lookup x=some .free
 | [],h=>by simp at h
 | (n,q) :: r,h=>by
  have ih:=i3 (env:=env) (x:=x) (names:=r)
  show List.lookup x ((if (q == NameKind.free && env.scope.kind == .function && env.kindOf n == some .cell)=true then (n,NameKind.cell) else (n,q)) :: _)=some .cell \/
   List.lookup x ((if (q == NameKind.free && env.scope.kind == .function && env.kindOf n == some .cell)=true then (n,NameKind.cell) else (n,q)) :: _)=some .free
  rw [List.lookup_cons] at h
  by_cases hq:(q == NameKind.free && env.scope.kind == .function && env.kindOf n == some .cell)=true
  ·rw [if_pos hq,List.lookup_cons]
   cases hxn:x == n with
   | true=>exact .inl rfl
   | false=>rw [hxn] at h;exact ih h
  ·rw [if_neg hq,List.lookup_cons]
   cases hxn:x == n with
   | true=>rw [hxn] at h;exact .inr h
   | false=>rw [hxn] at h;exact ih h
def cY (X:Cx) (scope:Scope) (C:Addr) (N':List Str) (fp:List Addr) (s₁ : Shared) (H₁ : Hp):Cx where
 prog:=X.prog
 w:=X.w
 K:=X.K
 mg:=X.mg
 base:=X.base
 A:=X.A
 N:=N'
 du:=s₁
 jR:=H₁
 env:=compEnvC scope (iz X.env.cells scope.names []) C X.env
 outer:=X.stack
 stack:=X.stack
 ex:=fp
 fn:=fun _=>false
 calm:=X.calm
 pn:=[]
 xe:=fun _ _=>False
def gr (X:Cx) (scope:Scope):List Str->List Nat->Prop
 | [],[]=>True
 | x :: fr,j :: js=>(X.N[j]? = some x/\(X.env.kindOf x=some .cell\/X.env.kindOf x=some .free)/\scope.names.lookup x=some .free)/\gr X scope fr js
 | _,_=>False
theorem gr.len {X:Cx} {scope:Scope}:∀ {fr:List Str} {js:List Nat},gr X scope fr js->fr.length=js.length
 | [],[],_=>rfl
 | _ :: _,_ :: _,h=>by simp [gr.len h.2]
 | [],_ :: _,h=>h.elim
 | _ :: _,[],h=>h.elim
theorem gr.mem {X:Cx} {scope:Scope} {x:Str}:∀ {fr:List Str} {js:List Nat},gr X scope fr js->x ∈ fr->X.env.kindOf x=some .cell\/X.env.kindOf x=some .free
 | [],[],_,h=>by cases h
 | a :: fr,b :: js,h,hm=>by
  rcases List.mem_cons.mp hm with rfl | hm
  ·exact h.1.2.1
  ·exact gr.mem h.2 hm
 | [],_ :: _,h,_=>h.elim
 | _ :: _,[],h,_=>h.elim
theorem gr.get {X:Cx} {scope:Scope}:∀ {fr:List Str} {js:List Nat} {i:Nat} {x:Str} {j:Nat},gr X scope fr js->fr[i]? = some x->js[i]? = some j ->
  X.N[j]? = some x/\(X.env.kindOf x=some .cell\/X.env.kindOf x=some .free)/\scope.names.lookup x=some .free
 | [],[],_,_,_,_,h,_=>by simp at h
 | a :: fr,b :: js,0,x,j,h,h1,h2=>by
  simp at h1 h2
  subst h1;subst h2
  exact h.1
 | a :: fr,b :: js,i+1,x,j,h,h1,h2=>gr.get h.2 (by simpa using h1) (by simpa using h2)
 | [],_ :: _,_,_,_,h,_,_=>h.elim
 | _ :: _,[],_,_,_,h,_,_=>h.elim
def iA (n:Nat) (js:List Nat) (σ : St):St:=List.replicate n none++js.map fun j=>σ.getD j none
theorem tZ {X:Cx} {pins:List (Addr × Obj)} {σ : St} {H:Hp} {s:Shared} {scope:Scope} {fp:List Addr} {C:Addr} {N':List Str} (I:Inv X pins σ H s) (hk:scope.kind=.function) (hcell:∀ y ∈ scope.names,y.2 ≠ .cell)
  (hf:∀ y ∈ scope.names,y.2=.free->∃ c,X.env.cells.lookup y.1=some c) (hC:s.heap.objs.size<=C) (hfp:∀ b ∈ fp,hJ X pins H b) (hlt:∀ b ∈ fp,b < s.heap.objs.size):(cY X scope C N' fp s H).Ok:=by
 have ag:∀ x c,(iz X.env.cells scope.names []).lookup x=some c->X.env.cells.lookup x=some c:=ji scope.names [] hf fun x c e=>by simp at e
 refine⟨I.ok.mod,hk,I.ok.glob,I.ok.blt,hC,fun x y c h1 h2=>I.ok.inj x y c (ag x c h1) (ag y c h2),fun x hx=>?_,(fun x c h=>(by cases h)),I.ok.hd,I.ok.frames,.inl rfl,fun b hb=>?_,I.bs,?_,fun b o e hb=>?_,fun b hb=>?_,I.stack,I.rA⟩
 ·refine kY scope.names [] (.inl ?_)
  rcases hx with hx | hx
  ·exact i2 (.inl rfl) hcell hx
  ·exact i2 (.inr rfl) hcell hx
 ·obtain⟨h1,h2,h3,h4,h5,h6⟩:=hfp b hb
  exact⟨Nat.ne_of_lt (Nat.lt_of_lt_of_le (hlt b hb) hC),fun x c e=>h5 x c (ag x c e)⟩
 ·exact Nat.le_trans I.ok.n5 I.sz
 ·obtain⟨h1,h2,h3,h4,h5,h6⟩:=hfp b hb
  rcases h4 with h4 | h4
  ·exact I.ok.ph b o e h4
  ·exact absurd (Nat.lt_of_lt_of_le (Heap.lt_size e) (Nat.le_trans I.ok.n5 h4)) (Nat.lt_irrefl _)
 ·obtain⟨h1,h2,h3,h4,h5,h6⟩:=hfp b hb
  intro z
  rcases List.mem_cons.mp (I.kh b z) with z | z
  ·exact h2 z
  ·exact h3 z
def rK (J:It) (n:Nat) (js:List Nat) (g:TG) (ct:TT) (te:TE) (acc:Addr) (σ : St) (H1:Hp) (Q:VK):Prop :=
 ∃ W:Nat->Nat->List V->St->Hp->Prop,(∃ m,W 0 m [] (iA n js σ) (upd H1 acc (.lst [])))/\∀ i m ys τ H2,W i m ys τ H2->H2 acc=some (.lst ys)/\ys.length < sizeLine /\
  ((J.stop i H2/\Q (.ref acc) H2)\/(J.go i H2/\∃ N:List V->St->Hp->Prop,(∀ ys' τ' H',N ys' τ' H'->∃ m',m' < m/\W (i+1) m' ys' τ' H')/\∀ x H3,J.pF i H2 x H3->g x τ H3 fun τ1 H4=>ct τ1 H4 fun b H5 =>
   if b=true then te τ1 H5 fun y H6=>H6 acc=some (.lst ys)/\N (ys ++ [y]) τ1 (upd H6 acc (.lst (ys ++ [y]))) else N ys τ1 H5))
def zB (n:Nat) (js:List Nat) (wi:TI) (g:TG) (ct:TT) (te:TE):TE:=fun σ H Q=>wi σ H fun J H1=>∀ acc,H1 acc=none->rK J n js g ct te acc σ H1 Q
def pT (X:Cx) (ifs:List Expr) (t:TT):Prop :=
 ∀ (pins:List (Addr × Obj)) (s:Shared) (σ : St) (H:Hp) (Q:Bool->Hp->Prop),Inv X pins σ H s->t σ H Q ->
  wpAny (model X.prog X.w) X.A (forIn ifs true fun c r=>if r=true then do let ok <-isTrue c X.env (eval c X.env);pure (ForInStep.yield ok) else pure (ForInStep.yield r)) (TP X pins σ Q) X.xe s
def yx:TT:=fun _ H Q=>Q true H
theorem er {X:Cx}:pT X [] yx:=fun _ _ σ H Q I h=>wpAny_pure ⟨H,I,h⟩
theorem nH {X:Cx} {c:Expr} {t:TT} (h:PT X c t):pT X [c] t:=by
 intro pins s σ H Q I q
 rw [List.forIn_cons]
 simp only [if_true,bind_assoc,pure_bind]
 refine wpAny_bind (bh (h pins s σ H Q I q) fun b s1 h1=>?_)
 exact wpAny_pure h1
section
variable {X:Cx} {pos:Pos}
theorem kb {prog:Program} {w:World} {A:Around} {R:Result->Shared->Prop} {s:Shared} {elt target iter:Expr} {ifs:List Expr} {scope:Scope} {pos:Pos} {it acc:Value} {env:Env} (I:Nat->Shared->Prop)
  (turn:∀ n s,I n s->wpAny (model prog w) A (pyNext it) (fun r s₁=>match r with
   | none=>R (.ok .next) s₁
   | some v=>wpAny (model prog w) A (letOwnedTupleGo target it v) (fun _ s₁'=>wpAny (model prog w) A (assign target env v) (fun _ s₂ =>
     wpAny (model prog w) A (forIn ifs true fun c r=>if r=true then do let ok <-isTrue c env (eval c env);pure (ForInStep.yield ok) else pure (ForInStep.yield r)) (fun ok s₃ =>
      if ok=true then wpAny (model prog w) A (eval elt env) (fun x s₄ =>
       wpAny (model prog w) A (call (.builtin "list.append") [acc,x]) (fun _ s₅=>∃ m,m < n/\I m s₅) (fun _ _=>False) s₄) (fun _ _=>False) s₃
      else ∃ m,m < n/\I m s₃) (fun _ _=>False) s₂) (fun _ _=>False) s₁') (fun _ _=>False) s₁) (fun _ _=>False) s)
  (n:Nat) (h:I n s) :
  codeAny (model prog w) A (.compLoop (.ListComp elt [⟨target,iter,ifs,0⟩] scope pos) 0 it acc env) R s:=by
 refine codeAny_loop rfl I (fun n s hI=>?_) n h
 show wpAny _ A ((compTurn (.ListComp elt [⟨target,iter,ifs,0⟩] scope pos) 0 it acc env).onRaise (fun x=>do noteFrame x env;theTreesLotGoes x)) _ _ s
 refine wpAny_noted ?_
 rw [compTurn_list]
 refine wpAny_bind (wpAny_standAt (wpAny_bind (wpAny_mono (turn n s hI) (fun r s₁ h₁=>?_) fun _ _ h'=>h'.elim)))
 cases r with
 | none=>exact wpAny_pure h₁
 | some v =>
  refine wpAny_bind (wpAny_mono h₁ (fun _ s₁' h₁'=>?_) fun _ _ h'=>h'.elim)
  refine wpAny_bind (wpAny_mono h₁' (fun _ s₂ h₂=>wpAny_bind (wpAny_mono h₂ (fun ok s₃ h₃=>?_) fun _ _ h'=>h'.elim)) fun _ _ h'=>h'.elim)
  cases ok with
  | false=>exact wpAny_pure ⟨rfl,h₃⟩
  | true =>
   exact wpAny_bind (wpAny_bind (wpAny_mono h₃ (fun x s₄ h₄=>wpAny_bind (wpAny_mono h₄ (fun _ s₅ h₅=>wpAny_pure (wpAny_pure ⟨rfl,h₅⟩)) fun _ _ h'=>h'.elim)) fun _ _ h'=>h'.elim))
theorem rL {pins:List (Addr × Obj)} {σ : St} {H:Hp} {s:Shared} {E:Value->Shared->Prop} {tg elt iter:Expr} {ifs:List Expr} {scope:Scope} {g:TG} {ct:TT} {te:TE} {ts fr:List Str} {js:List Nat}
    {it:Addr} {fp:List Addr} {tn:Nat->Heap->Prop} {J:It} {Q:VK} {RR:Value->Addr->Result->Shared->Prop}
    (hc:X.calm=true) (hkind:scope.kind=.function) (hcell:∀ y ∈ scope.names,y.2 ≠ .cell) (hfree:∀ y ∈ scope.names,y.2=.free->X.env.kindOf y.1=some .cell\/X.env.kindOf y.1=some .free)
    (hfr:gr X scope fr js) (htg:∀ C fp s₁ H₁,PG (cY X scope C (ts++fr) fp s₁ H₁) tg g) (hct:∀ C fp s₁ H₁,pT (cY X scope C (ts++fr) fp s₁ H₁) ifs ct) (hte:∀ C fp s₁ H₁,PE (cY X scope C (ts++fr) fp s₁ H₁) elt te)
    (I:Inv X pins σ H s) (T:Turn X.prog X.w X.K tg J fp it tn) (st:tn 0 s.heap) (hfp:∀ b ∈ fp,hJ X pins H b)
    (h:∀ acc,H acc=none->rK J ts.length js g ct te acc σ H Q)
    (hRR:∀ acc C H' s' m,Inv X pins σ H' s'->s'.heap.Ns C m->H' C=none->s.heap.objs.size<=C->Q (.ref acc) H'->RR (.ref acc) C (.ok .next) s') :
    wpAny (model X.prog X.w) X.A (newList []) (fun acc s₃=>wpAny (model X.prog X.w) X.A (newFunctionEnv scope X.env.globals (iz X.env.cells scope.names []) [] X.env.qual none .none (some X.env)) (fun cenv s₄ =>
      codeAny (model X.prog X.w) X.A (.compStart (.ListComp elt [⟨tg,iter,ifs,0⟩] scope pos) 0 (.ref it) acc { cenv with scope:=relabel scope X.env }) (RR acc cenv.locals) s₄) E s₃) E s:=by
  have hf:∀ y ∈ scope.names,y.2=.free->∃ c,X.env.cells.lookup y.1=some c:=fun y hy e=>I.ok.has y.1 (hfree y hy e)
  have ag:∀ x c,(iz X.env.cells scope.names []).lookup x=some c->X.env.cells.lookup x=some c:=ji scope.names [] hf fun x c e=>by simp at e
  have hlt:∀ b ∈ fp,b < s.heap.objs.size:=fun b hb=>by
    obtain⟨o,e,_⟩:=T.obj _ _ st b hb
    exact Heap.lt_size e
  refine wpAny_newObj_type (wpAny_newFunctionEnv hcell (by intro y hy;simp at hy) (fun h₁ hns₁ hsb₁=>?_) hkind)
  dsimp only at hns₁ hsb₁ ⊢
  generalize hH2:s.heap.push { cls:=.type "list",dict:=none,data:=.seq ([]:List Value).toArray }=G2 at hns₁ hsb₁ ⊢
  have hC:G2.objs.size=s.heap.objs.size+1:=by rw [<-hH2,Heap.size_push]
  have hDC:s.heap.objs.size ≠ G2.objs.size:=by rw [hC];exact Nat.ne_of_lt (Nat.lt_succ_self _)
  have hCle:s.heap.objs.size<=G2.objs.size:=by rw [hC];exact Nat.le_succ _
  have below:∀ b,b < s.heap.objs.size->b ≠ G2.objs.size/\b ≠ s.heap.objs.size:=fun b hb=>⟨by rw [hC];exact Nat.ne_of_lt (Nat.lt_succ_of_lt hb),Nat.ne_of_lt hb⟩
  have old:∀ b o,s.heap.get? b=some o->h₁.get? b=some o:=fun b o e=>hsb₁.extBut b o (below b (Heap.lt_size e)).1 (Heap.get?_push_of_some _ (hH2 ▸ Heap.get?_push_of_some _ e))
  have hacc:h₁.get? s.heap.objs.size=some { cls:=.type "list",data:=.seq ([]:List Value).toArray }:=hsb₁.extBut _ _ hDC (Heap.get?_push_of_some _ (hH2 ▸ Heap.get?_push_size _ rfl))
  have nD:H s.heap.objs.size=none:=I.aG.fresh (Nat.le_refl _)
  have nC:H G2.objs.size=none:=I.aG.fresh hCle
  obtain⟨W,⟨m0,w0⟩,turn⟩:=h s.heap.objs.size nD
  generalize hXb:cY X scope G2.objs.size (ts++fr) fp s H=Xb
  have Ib:∀ tk,Inv Xb [] (iA ts.length js σ) (upd H s.heap.objs.size (.lst [])) { s with heap:=h₁,toks:=tk }:=by
    intro tk
    subst hXb
    refine⟨tZ I hkind hcell hf hCle hfp hlt,rfl,I.bare,Un.laid old (Nat.le_refl _) nD,⟨_,hns₁,fun i x v e1 e2 e3=>?_⟩,fun x c e=>?_,?_,fun x c e=>?_,fun p hp=>absurd (show p ∈ ([]:List (Addr × Obj)) from hp) (by simp),I.aG.laid old (Nat.le_refl _) ⟨by show 0<=sizeLine;decide,[],_,.nil,hacc⟩,?_⟩
    · have hi:ts.length<=i:=by
        refine Nat.le_of_not_lt fun hi=>?_
        unfold iA at e2
        rw [List.getElem?_append_left (by simpa using hi),List.getElem?_replicate] at e2
        split at e2 <;> cases e2
      have e1':fr[i - ts.length]? = some x:=by
        have e1'':(ts++fr)[i]? = some x:=e1
        rw [List.getElem?_append_right hi] at e1''
        exact e1''
      unfold iA at e2
      rw [List.getElem?_append_right (by simpa using hi),List.length_replicate,List.getElem?_map] at e2
      cases ej:js[i - ts.length]? with
      | none=>rw [ej] at e2;cases e2
      | some j =>
        rw [ej] at e2
        have e2':σ.getD j none=some v:=by simpa using e2
        obtain⟨q1,q2,q3⟩:=hfr.get e1' ej
        have e2'':σ[j]? = some (some v):=by
          rw [List.getD_eq_getElem?_getD] at e2'
          cases ez:σ[j]? with
          | none=>rw [ez] at e2';cases e2'
          | some z=>rw [ez] at e2';rw [show z=some v from e2']
        obtain⟨m,hn,hl⟩:=I.loc
        obtain⟨u,r,l⟩:=hl j x v q1 e2'' (by
          rcases q2 with q2 | q2
          · exact .inr (.inl q2)
          · exact .inr (.inr q2))
        refine⟨u,r,.inr ⟨i3 q3,?_⟩⟩
        rcases l with ⟨l,_⟩ | ⟨_,c,lc,lv⟩
        · rcases q2 with q2 | q2 <;> (rw [l] at q2;cases q2)
        · obtain⟨c',hc'⟩:=kY (cells:=X.env.cells) scope.names [] (.inl (PySem.mem_of_lookup q3))
          have:=ag x c' hc'
          rw [lc] at this
          cases this
          obtain⟨o,ho,hd⟩:=lv
          exact⟨c,hc',o,old _ _ ho,hd⟩
    · obtain⟨v,o,ho,hd⟩:=I.cell x c (ag x c e)
      exact⟨v,o,old _ _ ho,hd⟩
    · show upd H s.heap.objs.size (.lst []) G2.objs.size=none
      rw [au hDC.symm];exact nC
    · obtain⟨v,o,ho,hd⟩:=I.cell x c (ag x c e)
      rw [au (Nat.ne_of_lt (Heap.lt_size ho))]
      exact I.d8 x c (ag x c e)
    · show (iA ts.length js σ).length=(ts++fr).length
      unfold iA
      rw [List.length_append,List.length_replicate,List.length_map,List.length_append,hfr.len]
  have fpB:∀ {H':Hp},(∀ b ∈ fp,H' b=none)->∀ b ∈ fp,hJ Xb [] H' b:=fun {H'} hn b hb=>by
    subst hXb
    obtain⟨h1,h2,h3,h4,h5,h6⟩:=hfp b hb
    refine⟨hn b hb,(below b (hlt b hb)).1,fun z=>?_,.inl hb,fun x c e=>h5 x c (ag x c e),fun p hp=>absurd (show p ∈ ([]:List (Addr × Obj)) from hp) (by simp)⟩
    rcases List.mem_cons.mp (I.kh b z) with z | z
    · exact h2 z
    · exact h3 z
  have fin:∀ {τ : St} {H':Hp} {s':Shared},Inv Xb [] τ H' s'->Q (.ref s.heap.objs.size) H'->RR (.ref s.heap.objs.size) G2.objs.size (.ok .next) s':=fun {τ H' s'} Jb q=>by
    subst hXb
    obtain⟨m,hn,_⟩:=Jb.loc
    refine hRR _ _ H' s' m (I.wG (ch:=fp) Jb.os Jb.base Jb.aG Jb.bare fun b hb=>?_) hn Jb.free hCle q
    obtain⟨h1,h2,h3,h4,h5,h6⟩:=hfp b hb
    exact⟨h4,h2,h5,h6⟩
  have loop:∀ tk,codeAny (model X.prog X.w) X.A (.compLoop (.ListComp elt [⟨tg,iter,ifs,0⟩] scope pos) 0 (.ref it) (.ref s.heap.objs.size) (compEnvC scope (iz X.env.cells scope.names []) G2.objs.size X.env))
        (RR (.ref s.heap.objs.size) G2.objs.size) { s with heap:=h₁,toks:=tk }:=by
    intro tk
    refine kb (fun n s'=>∃ i ys τ H',Inv Xb [] τ H' s'/\tn i s'.heap/\(∀ b ∈ fp,H' b=none)/\W i n ys τ H') ?_ m0 ⟨0,[],_,_,Ib tk,T.keep _ _ _ st fun b hb o e=>old b o e,fun b hb=>?_,w0⟩
    · rintro n s3 ⟨i,ys,τ,H3,I3,st3,fr3,w3⟩
      have htg':=htg G2.objs.size fp s H
      have hct':=hct G2.objs.size fp s H
      have hte':=hte G2.objs.size fp s H
      rw [hXb] at htg' hct' hte'
      have eP:Xb.prog=X.prog:=by subst hXb;rfl
      have ew:Xb.w=X.w:=by subst hXb;rfl
      have eK:Xb.K=X.K:=by subst hXb;rfl
      have eA:Xb.A=X.A:=by subst hXb;rfl
      have ec:Xb.calm=true:=by subst hXb;exact hc
      have ee:Xb.env=compEnvC scope (iz X.env.cells scope.names []) G2.objs.size X.env:=by subst hXb;rfl
      have ex:Xb.xe=fun _ _=>False:=by subst hXb;rfl
      rw [<-eP,<-ew,<-eA,<-ee]
      obtain⟨ha,hl,turn'⟩:=turn i n ys τ H3 w3
      rcases turn' with ⟨stop,q⟩ | ⟨go,N,hN,step⟩
      · have hd:=T.done Xb eP ew eK ec i [] s3 τ H3 (fun _ _=>False) I3 (fpB fr3) st3 stop
        rw [<-eP,<-ew] at hd
        refine wpAny_mono hd (fun r s4 hr4=>?_) fun _ _ z=>z
        obtain⟨hr,I4⟩:=hr4
        subst hr
        exact fin I4 q
      · have hd:=T.item Xb eP ew eK ec i [] s3 τ H3 (fun _ _=>False) I3 (fpB fr3) st3 go
        rw [<-eP,<-ew] at hd
        refine wpAny_mono hd (fun r s4 hr4=>?_) fun _ _ z=>z
        obtain⟨u,hr,h4⟩:=hr4
        subst hr
        refine wpAny_mono h4 (fun _ s5 ⟨x,H5,I5,r5,y5,st5,fr5⟩=>?_) fun _ _ z=>z
        have I5':=I5.pinned (fpB fr5) (T.obj _ _ st5)
        have keepT:∀ {σ7:St} {H7:Hp} {s7:Shared},Inv Xb ([] ++ jH fp s5.heap) σ7 H7 s7->tn (i+1) s7.heap/\∀ b ∈ fp,H7 b=none:=fun {σ7 H7 s7} I7=>by
          refine⟨T.keep _ _ _ st5 fun b hb o e=>(I7.pin (b,o) (List.mem_append_right _ (List.mem_append_right _ (fG hb e)))).1,fun b hb=>?_⟩
          obtain⟨o,e,d⟩:=T.obj _ _ st5 b hb
          exact (I7.pin (b,o) (List.mem_append_right _ (List.mem_append_right _ (fG hb e)))).2.1
        refine wpAny_mono (htg' _ s5 τ H5 x u _ I5' r5 (step x H5 y5)) (fun _ s6 ⟨τ6,H6,I6,q6⟩=>?_) (fun _ _ z=>by rw [ex] at z;exact z)
        refine wpAny_mono (hct' _ s6 τ6 H6 _ I6 q6) (fun ok s7 ⟨H7,I7,q7⟩=>?_) (fun _ _ z=>by rw [ex] at z;exact z)
        cases ok with
        | false =>
          have q7':N ys τ6 H7:=by rw [if_neg (by simp)] at q7;exact q7
          rw [if_neg (by simp)]
          obtain⟨m',hm,w7⟩:=hN _ _ _ q7'
          exact⟨m',hm,i+1,ys,τ6,H7,I7.gn,(keepT I7).1,(keepT I7).2,w7⟩
        | true =>
          rw [if_pos rfl] at q7 ⊢
          refine wpAny_mono (hte' _ s7 τ6 H7 _ I7 q7) (fun v s8 ⟨y,H8,I8,r8,ha8,n8⟩=>?_) (fun _ _ z=>by rw [ex] at z;exact z)
          refine wpAny_mono (gB (X:=Xb) _ s8 τ6 H8 (.ref s.heap.objs.size) [y] (.ref s.heap.objs.size) [v] (fun _ H9=>H9=upd H8 s.heap.objs.size (.lst (ys ++ [y]))) I8 rfl (.cons r8 .nil) ⟨_,ys,y,rfl,rfl,ha8,hl,rfl⟩) (fun _ s9 ⟨_,H9,I9,_,e9⟩=>?_) (fun _ _ z=>by rw [ex] at z;exact z)
          subst e9
          obtain⟨m',hm,w8⟩:=hN _ _ _ n8
          exact⟨m',hm,i+1,_,τ6,_,I9.gn,(keepT I9).1,(keepT I9).2,w8⟩
    · rw [au (Nat.ne_of_lt (hlt b hb))]
      exact (hfp b hb).1
  exact codeAny_compStart_list (loop _) (T.self _ 0 _ _ _ (T.keep _ _ _ st fun b hb o e=>old b o e) (loop _))
theorem Inv.pU {pins:List (Addr × Obj)} {σ : St} {H H':Hp} {s s':Shared} {C:Addr} {h':Heap} (I:Inv X pins σ H s) {σ':St} (I':Inv X pins σ' H' s') (hC:H' C=none) (hle:s.heap.objs.size<=C) (hsb:Heap.SameBut C s'.heap h') :
  Inv X pins σ' H' { s' with heap:=h' }:=by
 obtain⟨h1,h2,h3,h4,h5,h6⟩:=I.lZ (H':=H') hle hC
 exact I'.turned (t':=s'.toks) (fun b o hb e=>hsb.extBut b o hb e) hC h2 h4 h5 h6
theorem dJ {tg elt iter:Expr} {ifs:List Expr} {scope:Scope} {wi:TI} {g:TG} {ct:TT} {te:TE} (ts fr:List Str) (js:List Nat)
  (hc:X.calm=true) (hi:PI X tg iter wi) (hkind:scope.kind=.function) (hcell:∀ y ∈ scope.names,y.2 ≠ .cell) (hnames:∀ y ∈ scope.names,y.2=.local->scope.names.lookup y.1=some .local)
  (hfree0:∀ y ∈ scope.names,y.2=.free->y.1 ∈ fr) (hfr:gr X scope fr js)
  (htg:∀ C fp s₁ H₁,PG (cY X scope C (ts++fr) fp s₁ H₁) tg g) (hct:∀ C fp s₁ H₁,pT (cY X scope C (ts++fr) fp s₁ H₁) ifs ct) (hte:∀ C fp s₁ H₁,PE (cY X scope C (ts++fr) fp s₁ H₁) elt te)
  (hs:∀ x,foldedSetIterable iter X.env x=pure x:=by intro _;rfl):PE X (.ListComp elt [⟨tg,iter,ifs,0⟩] scope pos) (zB ts.length js wi g ct te):=by
 have hfree:∀ y ∈ scope.names,y.2=.free->X.env.kindOf y.1=some .cell\/X.env.kindOf y.1=some .free:=fun y hy e=>hfr.mem (hfree0 y hy e)
 intro pins s σ H Q I h
 rw [eval_ListComp]
 refine wpAny_comprehension_free (use:=none) rfl hs (jT fun y hy e=>I.ok.has y.1 (hfree y hy e)) hkind hnames (bh (hi pins s σ H _ I h) fun xv s1 h1=>bh h1 fun itv s2 h2=>?_)
 obtain⟨it,fp,tn,J,H2,e,I2,T,st2,f2,hW⟩:=h2
 subst e
 refine rL (RR:=fun acc C=>compPost (model X.prog X.w) X.A X.xe none (EP X pins σ Q) acc C) hc hkind hcell hfree hfr htg hct hte I2 T st2 f2 hW ?_
 intro acc C H' s' m I' hn hC hle q
 exact⟨m,hn,fun h' hsb=>⟨.ref acc,H',I2.pU I' hC hle hsb,rfl,q⟩⟩
theorem pV {tg elt iter:Expr} {ifs:List Expr} {scope:Scope} {wi:TI} {g:TG} {ct:TT} {te:TE} {i:Nat} {y:Str} {py spos:Pos} (ts fr:List Str) (js:List Nat)
  (hsw:swapsWith (.ListComp elt [⟨tg,iter,ifs,0⟩] scope pos) (some (.Name y py)) spos.line X.env=pure true) (hN:X.N.Nodup) (hi0:X.N[i]? = some y) (hx:X.env.scope.names.lookup y=some .local)
  (hc:X.calm=true) (hi:PI X tg iter wi) (hkind:scope.kind=.function) (hcell:∀ y ∈ scope.names,y.2 ≠ .cell) (hnames:∀ y ∈ scope.names,y.2=.local->scope.names.lookup y.1=some .local)
  (hfree0:∀ y ∈ scope.names,y.2=.free->y.1 ∈ fr) (hfr:gr X scope fr js)
  (htg:∀ C fp s₁ H₁,PG (cY X scope C (ts++fr) fp s₁ H₁) tg g) (hct:∀ C fp s₁ H₁,pT (cY X scope C (ts++fr) fp s₁ H₁) ifs ct) (hte:∀ C fp s₁ H₁,PE (cY X scope C (ts++fr) fp s₁ H₁) elt te)
  (hs:∀ x,foldedSetIterable iter X.env x=pure x:=by intro _;rfl):PS X (.Assign [.Name y py] (.ListComp elt [⟨tg,iter,ifs,0⟩] scope pos) spos) (vb (zB ts.length js wi g ct te) (o4 i)):=by
 have hfree:∀ y ∈ scope.names,y.2=.free->X.env.kindOf y.1=some .cell\/X.env.kindOf y.1=some .free:=fun y hy e=>hfr.mem (hfree0 y hy e)
 intro pins s σ H D I h
 rw [exec_Assign_Name_used _ _ _ _ hsw]
 refine wpAny_bind (wpAny_standAt (wpAny_bind ?_))
 show wpAny _ X.A (do let _ <-comprehension (.ListComp elt [⟨tg,iter,ifs,0⟩] scope pos) scope X.env _ (newList []) false (eval iter X.env) (some (assign (.Name y py) X.env))) _ _ s
 refine wpAny_bind (wpAny_mono (wpAny_comprehension_free (use:=some (assign (.Name y py) X.env)) (Q:=fun _ s'=>SP X pins D .next s') rfl hs (jT fun y hy e=>I.ok.has y.1 (hfree y hy e)) hkind hnames
  (bh (hi pins s σ H _ I h) fun xv s1 h1=>bh h1 fun itv s2 h2=>?_)) (fun _ s' hq=>wpAny_pure (wpAny_pure hq)) fun _ _ e=>e)
 obtain⟨it,fp,tn,J,H2,e,I2,T,st2,f2,hW⟩:=h2
 subst e
 refine rL (Q:=fun v H'=>D.nx (σ.set i (some v)) H') (RR:=fun acc C=>compPost (model X.prog X.w) X.A X.xe (some (assign (.Name y py) X.env)) (fun _ s'=>SP X pins D .next s') acc C) hc hkind hcell hfree hfr htg hct hte I2 T st2 f2 hW ?_
 intro acc C H' s' m I' hn hC hle q
 show wpAny _ X.A (assign (.Name y py) X.env (.ref acc)) _ _ _
 refine wpAny_assign_Name (og I' hN hi0 (.inl hx) (v:=.ref acc) rfl (fun s'' I'' hch=>?_) (.inr hx))
 obtain⟨h1,h2,h3,h4,h5,h6⟩:=I2.lZ (H':=H') hle hC
 obtain⟨a,hsb,ha⟩:=hch
 refine⟨m,hn.sameBut hsb ?_,fun h' hsb'=>⟨_,H',I2.pU I'' hC hle hsb',q⟩⟩
 rcases ha with ha | ha
 ·rw [ha];exact h2
 ·exact fun z=>h5 y a ha z.symm
end
theorem kZ {K:PySem.W.Frag} {a acc:Addr} {xs:List V} {n:Nat} {js:List Nat} {g:TG} {ct:TT} {te:TE} {σ : St} {H1:Hp} {Q:VK} (Pv:Nat->List V->St->Hp->Prop) (h0:Pv 0 [] (iA n js σ) (upd H1 acc (.lst [])))
  (hl:∀ i ys τ H,i<=xs.length->Pv i ys τ H->aX K H a xs/\H acc=some (.lst ys)/\ys.length < sizeLine)
  (hs:∀ i x ys τ H,xs[i]? = some x->Pv i ys τ H->g x τ H fun τ1 H4=>ct τ1 H4 fun b H5=>if b=true then te τ1 H5 fun y H6=>H6 acc=some (.lst ys)/\Pv (i+1) (ys ++ [y]) τ1 (upd H6 acc (.lst (ys ++ [y]))) else Pv (i+1) ys τ1 H5)
  (hd:∀ ys τ H,Pv xs.length ys τ H->Q (.ref acc) H) :
  rK (rD K a) n js g ct te acc σ H1 Q:=by
 refine⟨fun i m ys τ H=>m=xs.length - i/\i<=xs.length/\Pv i ys τ H,⟨xs.length,by simp,Nat.zero_le _,h0⟩,?_⟩
 rintro i m ys τ H ⟨rfl,hi,p⟩
 obtain⟨q,q2,q3⟩:=hl i ys τ H hi p
 refine⟨q2,q3,?_⟩
 by_cases hlt:i < xs.length
 ·refine .inr ⟨⟨xs,xs[i],q,by simp [hlt]⟩,Pv (i+1),fun ys' τ' H' p'=>⟨xs.length - (i+1),by omega,rfl,hlt,p'⟩,fun x H' y=>?_⟩
  obtain⟨e,y⟩:=y
  subst e
  exact hs i x ys τ _ (y xs q) p
 ·have e:i=xs.length:=by omega
  subst e
  exact .inl ⟨⟨xs,q,Nat.le_refl _⟩,hd ys τ H p⟩
theorem mU {K:PySem.W.Frag} {a acc:Addr} {xs:List V} {n:Nat} {js:List Nat} {g:TG} {ct:TT} {te:TE} {σ : St} {H1:Hp} {Q:VK} (Pv:Nat->List V->St->Hp->Prop) (h0:Pv 0 [] (iA n js σ) (upd H1 acc (.lst [])))
  (hl:∀ i ys τ H,i<=xs.length->Pv i ys τ H->ay K H a xs/\H acc=some (.lst ys)/\ys.length < sizeLine)
  (hs:∀ i x ys τ H,xs[i]? = some x->Pv i ys τ H->g x τ H fun τ1 H4=>ct τ1 H4 fun b H5=>if b=true then te τ1 H5 fun y H6=>H6 acc=some (.lst ys)/\Pv (i+1) (ys ++ [y]) τ1 (upd H6 acc (.lst (ys ++ [y]))) else Pv (i+1) ys τ1 H5)
  (hd:∀ ys τ H,Pv xs.length ys τ H->Q (.ref acc) H) :
  rK (pG K a) n js g ct te acc σ H1 Q:=by
 refine⟨fun i m ys τ H=>m=xs.length - i/\i<=xs.length/\Pv i ys τ H,⟨xs.length,by simp,Nat.zero_le _,h0⟩,?_⟩
 rintro i m ys τ H ⟨rfl,hi,p⟩
 obtain⟨q,q2,q3⟩:=hl i ys τ H hi p
 refine⟨q2,q3,?_⟩
 by_cases hlt:i < xs.length
 ·refine .inr ⟨⟨xs,xs[i],q,by simp [hlt]⟩,Pv (i+1),fun ys' τ' H' p'=>⟨xs.length - (i+1),by omega,rfl,hlt,p'⟩,fun x H' y=>?_⟩
  obtain⟨e,y⟩:=y
  subst e
  exact hs i x ys τ _ (y xs q) p
 ·have e:i=xs.length:=by omega
  subst e
  exact .inl ⟨⟨xs,q,Nat.le_refl _⟩,hd ys τ H p⟩
theorem mf {lo:Int} {k:Nat} {acc:Addr} {n:Nat} {js:List Nat} {g:TG} {ct:TT} {te:TE} {σ : St} {H1:Hp} {Q:VK} (Pv:Nat->List V->St->Hp->Prop) (h0:Pv 0 [] (iA n js σ) (upd H1 acc (.lst [])))
  (hl:∀ i ys τ H,i<=k->Pv i ys τ H->H acc=some (.lst ys)/\ys.length < sizeLine)
  (hs:∀ i ys τ H,i < k->Pv i ys τ H->g (.int (lo+i)) τ H fun τ1 H4=>ct τ1 H4 fun b H5=>if b=true then te τ1 H5 fun y H6=>H6 acc=some (.lst ys)/\Pv (i+1) (ys ++ [y]) τ1 (upd H6 acc (.lst (ys ++ [y]))) else Pv (i+1) ys τ1 H5)
  (hd:∀ ys τ H,Pv k ys τ H->Q (.ref acc) H) :
  rK (pH lo k) n js g ct te acc σ H1 Q:=by
 refine⟨fun i m ys τ H=>m=k - i/\i<=k/\Pv i ys τ H,⟨k,by simp,Nat.zero_le _,h0⟩,?_⟩
 rintro i m ys τ H ⟨rfl,hi,p⟩
 obtain⟨q2,q3⟩:=hl i ys τ H hi p
 refine⟨q2,q3,?_⟩
 by_cases hlt:i < k
 ·refine .inr ⟨hlt,Pv (i+1),fun ys' τ' H' p'=>⟨k - (i+1),by omega,rfl,hlt,p'⟩,fun x H' y=>?_⟩
  obtain⟨e,y⟩:=y
  subst e y
  exact hs i ys τ _ hlt p
 ·have e:i=k:=by omega
  subst e
  exact .inl ⟨Nat.le_refl _,hd ys τ H p⟩
section
variable {X:Cx}
end
def z9 (t:TS):TS:=fun D σ H=>∃ M:St->Hp->Prop,t { D with nx:=M } σ H/\∀ σ' H',M σ' H'->D.nx σ' H'
theorem dW {X:Cx} {st:Stmt} {t:TS} (h:PS X st t):PS X st (z9 t):=by
 intro pins s σ H D I q
 obtain⟨M,q,hM⟩:=q
 refine bh (h pins s σ H _ I q) fun f s' hs=>?_
 cases f with
 | next =>
  obtain⟨σ',H',I',m⟩:=hs
  exact⟨σ',H',I',hM _ _ m⟩
 | brk=>exact hs
 | cont=>exact hs
 | ret u=>exact hs
theorem iB {m:Int} (h0:0 < m) (h1:m < 1073741824):m.natAbs.log2 < 9000:=by
 have h:m.natAbs.log2 < 30:=(Nat.log2_lt (by omega)).mpr (by omega)
 omega
theorem lg {X:Cx} {K:PySem.W.Frag} {es:List Expr} {k:Nat} {t:oh} {n:Nat} {pos:Pos} (hK:X.K=K) (h:PG X (.Tuple es k pos) (va X.K n t)):PG X (.Tuple es k pos) (va K n t):=by
 subst hK
 exact h
mutual
inductive bB (H:Hp):V->PyData->Prop
 | aB:bB H .aB .none
 | bl (b:Bool):bB H (.bl b) (.bool b)
 | int (i:Int):bB H (.int i) (.int i)
 | str (x:Str):bB H (.str x) (.str x)
 | lst {p:Addr} {xs:List V} {ds:List PyData}:H p=some (.lst xs)->bg H xs ds->bB H (.ref p) (.list ds)
 | tup {p:Addr} {xs:List V} {ds:List PyData}:H p=some (.tup xs)->bg H xs ds->bB H (.ref p) (.tuple ds)
inductive bg (H:Hp):List V->List PyData->Prop
 | nil:bg H [] []
 | cons {x:V} {xs:List V} {d:PyData} {ds:List PyData}:bB H x d->bg H xs ds->bg H (x :: xs) (d :: ds)
end
section
variable {P:Program} {w:World} {H:Hp} {h:Heap}
mutual
theorem bB.reads (ok:dG P w H h):∀ {x:V} {d:PyData} {v:Value},bB H x d->RelV x v->∃ as,Reads h v d as
 | _,_,v,.aB,r=>by
  cases (show v=Value.none from r)
  exact⟨_,.none⟩
 | _,_,v,.bl b,r=>by
  cases (show v=Value.bool b from r)
  exact⟨_,.bool b⟩
 | _,_,v,.int i,r=>by
  obtain⟨t,e⟩:=(show ∃ t,v=Value.int i t from r)
  cases e
  exact⟨_,.int i t⟩
 | _,_,v,.str x,r=>by
  obtain⟨t,e⟩:=(show ∃ t,v=Value.str x t from r)
  cases e
  exact⟨_,.str x t⟩
 | _,_,v,.lst (p:=p) (xs:=xs) e ds,r=>by
  cases (show v=Value.ref p from r)
  obtain⟨_,its,n,rv,h1⟩:=(show bS P w H h p (.lst xs) from ok p _ e)
  obtain⟨as,ra⟩:=bg.reads ok ds rv
  exact⟨_,.list (vs:=its.toArray) h1 rfl rfl (by simpa using ra)⟩
 | _,_,v,.tup (p:=p) (xs:=xs) e ds,r=>by
  cases (show v=Value.ref p from r)
  obtain⟨_,its,rv,o,h1,h2,n,h3⟩:=(show bS P w H h p (.tup xs) from ok p _ e)
  obtain⟨as,ra⟩:=bg.reads ok ds rv
  exact⟨_,.tuple (vs:=its.toArray) h1 h2 h3.1 (by simpa using ra)⟩
theorem bg.reads (ok:dG P w H h):∀ {xs:List V} {ds:List PyData} {vs:List Value},bg H xs ds->Vals xs vs->∃ as,ReadsAll h vs ds as
 | _,_,_,.nil,.nil=>⟨_,.nil⟩
 | _,_,_,.cons r rs,.cons q qs=>by
  obtain⟨as,ra⟩:=bB.reads ok r q
  obtain⟨bs,rb⟩:=bg.reads ok rs qs
  exact⟨_,.cons ra rb⟩
end
end
section
variable {X:Cx}
def yy (neg:Bool):R2:=fun x y H Q=>∃ dx dy,bB H x dx/\bB H y dy/\dx.canLay0=true/\dy.canLay0=true/\min dx.depth dy.depth<=60/\Q (.bl (if neg then !PyData.eqv dx dy else PyData.eqv dx dy)) H
theorem t6 (hu:X.A.units+64 < cLine):en X (compareOp .Eq) (yy false):=by
 intro pins s σ H x y v u Q I rx ry h
 obtain⟨dx,dy,r1,r2,c1,c2,hd,q⟩:=h
 obtain⟨as,ra⟩:=r1.reads I.aG rx
 obtain⟨bs,rb⟩:=r2.reads I.aG ry
 exact PySem.SeqAt.compareEq_reads ra rb c1 c2 (by omega) ⟨.bl _,H,I,rfl,q⟩
theorem t9 (hu:X.A.units+64 < cLine):en X (compareOp .NotEq) (yy true):=by
 intro pins s σ H x y v u Q I rx ry h
 obtain⟨dx,dy,r1,r2,c1,c2,hd,q⟩:=h
 obtain⟨as,ra⟩:=r1.reads I.aG rx
 obtain⟨bs,rb⟩:=r2.reads I.aG ry
 exact PySem.SeqAt.neOverData X.prog X.w X.A X.xe s v u dx dy as bs _ ra rb c1 c2 (by omega) ⟨.bl _,H,I,rfl,q⟩
end
def one (c:Nat):Str:=⟨#[c]⟩
theorem pW (rest:List Str):∀ a:Array Nat,(rest.foldl (fun acc p=>acc++Str.empty.cps++p.cps) a).toList=a.toList++rest.flatMap (·.cps.toList):=by
 induction rest with
 | nil=>intro a;simp
 | cons x r ih =>
  intro a
  rw [List.foldl_cons,ih]
  have e:Str.empty.cps = #[]:=rfl
  simp [e]
theorem join_ones (cs:List Nat):(Txt.join Str.empty (cs.map one)).cps.toList=cs:=by
 cases cs with
 | nil=>rfl
 | cons c r =>
  show (List.foldl (fun acc p=>acc++Str.empty.cps++p.cps) (#[c]:Array Nat) (r.map one)).toList=c :: r
  rw [pW]
  simp only [List.flatMap_map,one]
  simp
theorem vm:Str.ofString "" = Str.empty:=by decide +kernel
theorem sI {ys:List Str}:∀ {us:List Value},Vals (ys.map V.str) us->StrsAre us ys:=by
 induction ys with
 | nil=>intro us r;cases r;exact .nil
 | cons y ys ih =>
  intro us r
  cases r with
  | cons h t =>
   obtain⟨k,e⟩:=h
   subst e
   exact .cons y k (ih t)
section
variable {X:Cx}
def rJoin (K:PySem.W.Frag):V->List V->Hp->VK->Prop:=fun x vs H Q=>∃ (z:Str) (p:Addr) (ys:List Str),x=.str z/\vs = [.ref p]/\aX K H p (ys.map V.str)/\(ys.map (·.length)).sum+ys.length * z.length<=16777216/\Q (.str (Txt.join z ys)) H
theorem rM:zx X "str.join" (rJoin X.K):=by
 intro pins s σ H x vs v us Q I rx rv h
 obtain⟨z,p,ys,rfl,rfl,hS,hz,q⟩:=h
 obtain⟨t,e⟩:=(show ∃ t,v=Value.str z t from rx)
 subst e
 obtain⟨u,rfl,ru⟩:=vals1 rv
 cases (show u=Value.ref p from ru)
 obtain⟨its,rv',pl,_⟩:=I.list hS
 exact join_list pl.isList (by simpa using sI rv') hz fun t' k=>⟨.str _,H,I.tok k,⟨_,rfl⟩,q⟩
end
inductive cx where
 | put (x:Str) (n:Int)
 | copy (x y:Str)
 | add (x:Str) (n:Int)
 | read (x:Str)
 | tell (x:Str)
inductive End where
 | stop
 | go (p:Nat)
 | d6 (less:Bool) (x:Str) (n:Int) (p q:Nat)
abbrev Piece:=List cx × End
def wT (b:Bool):Str:=if b=true then "less" else "is"
def dN:cx->PyData
 | .put x n=>.tuple [.str "put",.str x,.int n]
 | .copy x y=>.tuple [.str "copy",.str x,.str y]
 | .add x n=>.tuple [.str "add",.str x,.int n]
 | .read x=>.tuple [.str "read",.str x]
 | .tell x=>.tuple [.str "tell",.str x]
def pX:End->PyData
 | .stop=>.tuple [.str "stop"]
 | .go p=>.tuple [.str "go",.int p]
 | .d6 b x n p q=>.tuple [.str (wT b),.str x,.int n,.int p,.int q]
def fc (p:Piece):PyData:=.tuple [.tuple (p.1.map dN),pX p.2]
def il (ps:List Piece):PyData:=.tuple (ps.map fc)
structure gd (x:Str):Prop where
 lo:1<=x.length
 hi:x.length<=8
 az:∀ c ∈ x.cps.toList,97<=c/\c<=122
def jU (n:Int):Prop:=-(10 ^ 40) < n/\n < 10 ^ 40
def eB (xs:List Str):cx->Prop
 | .put x n=>x ∈ xs/\jU n
 | .copy x y=>x ∈ xs/\y ∈ xs
 | .add x n=>x ∈ xs/\jU n
 | .read x=>x ∈ xs
 | .tell x=>x ∈ xs
def mV (xs:List Str) (count:Nat):End->Prop
 | .stop=>True
 | .go p=>p < count
 | .d6 _ x n p q=>x ∈ xs/\jU n/\p < count/\q < count
structure fe (xs:List Str) (most:Nat) (ps:List Piece):Prop where
 lh:∀ p ∈ ps,p.1.length<=most/\∀ d ∈ p.1,eB xs d
 ends:∀ p ∈ ps,mV xs ps.length p.2
mutual
def dX:PyData->Bool
 | .list _=>false
 | .tuple xs=>cB xs
 | _=>true
def cB:List PyData->Bool
 | []=>true
 | x :: xs=>dX x && cB xs
end
mutual
theorem bB.aI {H H':Hp} (k:∀ p xs,H p=some (.tup xs)->H' p=some (.tup xs)):∀ {x:V} {d:PyData},bB H x d->dX d=true->bB H' x d
 | _,_,.aB,_=>.aB
 | _,_,.bl b,_=>.bl b
 | _,_,.int i,_=>.int i
 | _,_,.str x,_=>.str x
 | _,_,.lst _ _,h=>nomatch h
 | _,_,.tup e ds,h=>.tup (k _ _ e) (bg.aI k ds h)
theorem bg.aI {H H':Hp} (k:∀ p xs,H p=some (.tup xs)->H' p=some (.tup xs)):∀ {xs:List V} {ds:List PyData},bg H xs ds->cB ds=true->bg H' xs ds
 | _,_,.nil,_=>.nil
 | _,_,.cons r rs,h=>by
  simp only [cB,Bool.and_eq_true] at h
  exact .cons (bB.aI k r h.1) (bg.aI k rs h.2)
end
theorem bB.fix {b:Addr} {H H':Hp} {x:V} {d:PyData} (r:bB H x d) (hb:cK H b) (f:Fix b H H') (n:dX d=true):bB H' x d :=
 r.aI (fun p xs e=>f p _ e (hb.pS e)) n
theorem bB.same {H H':Hp} {x:V} {d:PyData} (r:bB H x d) (f:ah H H') (n:dX d=true):bB H' x d :=
 r.aI (fun p xs e=>f p _ e) n
theorem bg.fix {b:Addr} {H H':Hp} {xs:List V} {ds:List PyData} (r:bg H xs ds) (hb:cK H b) (f:Fix b H H') (n:cB ds=true):bg H' xs ds :=
 r.aI (fun p xs e=>f p _ e (hb.pS e)) n
theorem bg.same {H H':Hp} {xs:List V} {ds:List PyData} (r:bg H xs ds) (f:ah H H') (n:cB ds=true):bg H' xs ds :=
 r.aI (fun p xs e=>f p _ e) n
theorem bg.put {H:Hp} {xs ys:List V} {ds:List PyData} {l:Addr} {o:HO} (r:bg H xs ds) (hl:H l=some (.lst ys)) (n:cB ds=true):bg (upd H l o) xs ds :=
 r.aI (fun p zs e=>by rw [au (bA e hl (by intro z;cases z))];exact e) n
theorem bg.app {H:Hp} {x:V} {d:PyData}:∀ {xs:List V} {ds:List PyData},bg H xs ds->bB H x d->bg H (xs ++ [x]) (ds ++ [d])
 | _,_,.nil,q=>.cons q .nil
 | _,_,.cons r rs,q=>.cons r (bg.app rs q)
theorem bg.len {H:Hp}:∀ {xs:List V} {ds:List PyData},bg H xs ds->xs.length=ds.length
 | _,_,.nil=>rfl
 | _,_,.cons _ rs=>by simp [bg.len rs]
theorem jv (d:cx):dX (dN d)=true:=by cases d <;> rfl
theorem iM (e:End):dX (pX e)=true:=by cases e <;> rfl
theorem cq:∀ ds:List cx,cB (ds.map dN)=true
 | []=>rfl
 | d :: ds=>by show (dX (dN d) && cB (ds.map dN))=true;rw [jv,cq ds];rfl
theorem i4 (p:Piece):dX (fc p)=true:=by
 show (cB (p.1.map dN) && (dX (pX p.2) && true))=true
 rw [cq,iM];rfl
theorem bQ:∀ ps:List Piece,cB (ps.map fc)=true
 | []=>rfl
 | p :: ps=>by show (dX (fc p) && cB (ps.map fc))=true;rw [i4,bQ ps];rfl
theorem dC (ps:List Piece):dX (il ps)=true:=bQ ps
structure eC (H:Hp) (b l:Addr) (xs:List Str):Prop where
 at_:H l=some (.lst (xs.map V.str))
 ne:l ≠ b
 o8:xs ≠ []
 bL:xs.length<=1000
 ok:∀ x ∈ xs,gd x
theorem eC.fix {H H':Hp} {b l:Addr} {xs:List Str} (h:eC H b l xs) (f:Fix b H H'):eC H' b l xs:=⟨f l _ h.at_ h.ne,h.ne,h.o8,h.bL,h.ok⟩
theorem eC.pos {H:Hp} {b l:Addr} {xs:List Str} (h:eC H b l xs):0 < ((xs.map V.str).length:Int)/\((xs.map V.str).length:Int) < 1073741824:=by
 have h1:=h.o8
 have h2:=h.bL
 have h3:0 < xs.length:=by cases xs with | nil=>exact absurd rfl h1 | cons _ _=>simp
 rw [List.length_map]
 omega
def nI:Sp:=fun vs H Q _=>∃ (b:Addr),vs = [.ref b]/\cK H b/\∀ l xs H',eC H' b l xs->xs.length<=4->cK H' b->Fix b H H'->Q (.ref l) H'
def jV:Sp:=fun vs H Q _=>∃ (b:Addr),vs = [.ref b]/\cK H b/\∀ n H',jU n->cK H' b->Fix b H H'->Q (.int n) H'
def mW:Sp:=fun vs H Q _=>∃ (b l:Addr) (xs:List Str),vs = [.ref b,.ref l]/\cK H b/\eC H b l xs/\∀ v d H',bB H' v (dN d)->eB xs d->cK H' b->Fix b H H'->Q v H'
def mX:Sp:=fun vs H Q _=>∃ (b l:Addr) (xs:List Str) (c:Nat),vs = [.ref b,.ref l,.int c]/\cK H b/\eC H b l xs/\0 < c/\c < 1073741824/\∀ v e H',bB H' v (pX e)->mV xs c e->cK H' b->Fix b H H'->Q v H'
def pY:Sp:=fun vs H Q _=>∃ (b:Addr) (c m:Nat),vs = [.ref b,.int c,.int m]/\cK H b/\0 < c/\c<=1000/\m<=1000/\∀ v xs ps H',bB H' v (il ps)->ps.length=c->fe xs m ps->((∀ x ∈ xs,gd x)/\xs.length<=4)->cK H' b->Fix b H H'->Q v H'
def nJ:Sp:=fun vs H Q _=>∃ (b:Addr) (m:Nat),vs = [.ref b,.int m]/\cK H b/\0 < m/\m<=1000/\∀ (n:Nat) H',0 < n->n<=max m 4->cK H' b->Fix b H H'->Q (.int n) H'
def jJ:Str := "abcdefghijklmnopqrstuvwxyz"
theorem pZ:jJ.cps.toList=(List.range 26).map (· + 97):=by decide +kernel
theorem lj:jJ.length<=sizeLine:=by decide +kernel
theorem mY {r:Int} (h0:0<=r) (h1:r < 26):∃ c,fU jJ.cps.toList r=some c/\97<=c/\c<=122:=by
 have hl:jJ.cps.toList.length=26:=by rw [pZ];simp
 obtain⟨c,hc,hm⟩:=sG (xs:=jJ.cps.toList) h0 (by rw [hl];exact h1)
 refine⟨c,hc,?_⟩
 rw [pZ] at hm
 obtain⟨k,hk,rfl⟩:=List.mem_map.mp hm
 have:=List.mem_range.mp hk
 omega
theorem mh {xs:List Str} {r:Int} (h0:0<=r) (h1:r < ((xs.map V.str).length:Int)):∃ x,fU (xs.map V.str) r=some (V.str x)/\x ∈ xs:=by
 obtain⟨v,hv,hm⟩:=sG h0 h1
 obtain⟨x,hx,rfl⟩:=List.mem_map.mp hm
 exact⟨x,hv,hx⟩
theorem jw {σ : L2.St} {H:Hp} {Q:Bool->Hp->Prop} (h:Q true H):yx σ H Q:=h
theorem bM {i:Nat} {v:V} {σ : L2.St} {H:Hp} {Q:L2.St->Hp->Prop} (h:Q (σ.set i (some v)) H):o4 i v σ H Q:=h
section
variable {κ : Type} [DecidableEq κ]
def bG (kvs:List (κ × V)) (k:κ):Option V:=(kvs.find? fun kv=>decide (kv.1=k)).map (·.2)
def putK (kvs:List (κ × V)) (k:κ) (v:V):List (κ × V) :=
 if (kvs.any fun kv=>decide (kv.1=k))=true then kvs.map (fun kv=>if kv.1=k then (kv.1,v) else kv) else kvs ++ [(k,v)]
def cz (kvs:List (κ × V)) (k:κ):List (κ × V):=kvs.filter fun kv=>decide (kv.1 ≠ k)
theorem cO {p:κ × V} {r:List (κ × V)} {k:κ} (e:p.1=k):bG (p :: r) k=some p.2:=by simp [bG,List.find?_cons,e]
theorem cH {p:κ × V} {r:List (κ × V)} {k:κ} (e:¬ p.1=k):bG (p :: r) k=bG r k:=by simp [bG,List.find?_cons,e]
theorem gu (k:κ):∀ kvs:List (κ × V),(kvs.any fun kv=>decide (kv.1=k))=(bG kvs k).isSome
 | []=>rfl
 | p :: r=>by
  rw [List.any_cons]
  by_cases e:p.1=k
  ·simp only [cO e,decide_eq_true e,Bool.true_or,Option.isSome_some]
  ·rw [cH e,decide_eq_false e,Bool.false_or];exact gu k r
theorem p4 (k j:κ) (y:V):∀ kvs:List (κ × V),bG (kvs.map fun kv=>if kv.1=k then (kv.1,y) else kv) j=(bG kvs j).map fun x=>if j=k then y else x
 | []=>rfl
 | p :: r=>by
  have ih:=p4 k j y r
  rw [List.map_cons]
  by_cases h:p.1=k
  ·rw [if_pos h]
   by_cases e:p.1=j
   ·rw [cO (p:=(p.1,y)) e,cO e,Option.map_some,if_pos (e.symm.trans h)]
   ·rw [cH (p:=(p.1,y)) e,cH e,ih]
  ·rw [if_neg h]
   by_cases e:p.1=j
   ·rw [cO (p:=p) e,cO e,Option.map_some,if_neg (fun z=>h (e.trans z))]
   ·rw [cH (p:=p) e,cH e,ih]
theorem oy (k j:κ) (y:V):∀ kvs:List (κ × V),bG kvs k=none->bG (kvs ++ [(k,y)]) j=if j=k then some y else bG kvs j
 | [],_=>by
  by_cases e:k=j
  ·rw [if_pos e.symm];exact cO (p:=(k,y)) e
  ·rw [if_neg (fun z=>e z.symm)];exact cH (p:=(k,y)) e
 | p :: r,hn=>by
  rw [List.cons_append]
  have hk:¬ p.1=k:=fun z=>by rw [cO z] at hn;cases hn
  rw [cH hk] at hn
  have ih:=oy k j y r hn
  by_cases e:p.1=j
  ·rw [cO e,cO e,if_neg (fun z=>hk (e.trans z))]
  ·rw [cH e,cH e,ih]
theorem vn (kvs:List (κ × V)) (k j:κ) (y:V):bG (putK kvs k y) j=if j=k then some y else bG kvs j:=by
 unfold putK
 by_cases a:(kvs.any fun kv=>decide (kv.1=k))=true
 ·rw [if_pos a,p4]
  rw [gu] at a
  by_cases e:j=k
  ·obtain⟨x,hx⟩:=Option.isSome_iff_exists.mp a
   rw [if_pos e,e,hx,Option.map_some,if_pos rfl]
  ·rw [if_neg e]
   cases bG kvs j with
   | none=>rfl
   | some x=>rw [Option.map_some,if_neg e]
 ·rw [if_neg a]
  refine oy k j y kvs ?_
  rw [gu] at a
  cases q:bG kvs k with
  | none=>rfl
  | some x=>rw [q] at a;exact (a rfl).elim
theorem ip (kvs:List (κ × V)) (k:κ) (v:V):(putK kvs k v).length<=kvs.length+1:=by
 unfold putK
 split
 ·rw [List.length_map];omega
 ·rw [List.length_append,List.length_cons,List.length_nil];omega
theorem vo {kvs:List (κ × V)} {k:κ} (v:V) (h:bG kvs k=none):putK kvs k v=kvs ++ [(k,v)]:=by
 unfold putK
 rw [gu,h]
 exact if_neg (by decide)
theorem fW.ua {o:Option V} {u:Option Value} (r:fW o u):o.isSome=u.isSome:=by
 cases o with
 | none=>cases u with
  | none=>rfl
  | some _=>exact (show False from r).elim
 | some _=>cases u with
  | none=>exact (show False from r).elim
  | some _=>rfl
theorem fW.getD {o:Option V} {u:Option Value} {d:V} {d':Value} (r:fW o u) (rd:RelV d d'):RelV (o.getD d) (u.getD d'):=by
 cases o with
 | none=>cases u with
  | none=>exact rd
  | some _=>exact (show False from r).elim
 | some _=>cases u with
  | none=>exact (show False from r).elim
  | some _=>exact r
theorem KV.val {kvs:List (κ × V)} {vs:List (κ × Value)} (r:KV kvs vs) (k:κ):fW (bG kvs k) (valueAt vs k):=by
 unfold KV at r
 induction r with
 | nil=>exact True.intro
 | @cons p q ps qs h t ih =>
  obtain⟨h1,h2⟩:=h
  by_cases e:p.1=k
  ·have e':q.1=k:=h1.symm.trans e
   have b:valueAt (q :: qs) k=some q.2:=by simp [valueAt,List.find?_cons,e']
   rw [cO e,b];exact h2
  ·have e':¬ q.1=k:=fun z=>e (h1.trans z)
   have b:valueAt (q :: qs) k=valueAt qs k:=by simp [valueAt,List.find?_cons,e']
   rw [cH e,b];exact ih
theorem KV.any {kvs:List (κ × V)} {vs:List (κ × Value)} (r:KV kvs vs) (k:κ):(kvs.any fun kv=>decide (kv.1=k))=vs.any fun kv=>decide (kv.1=k):=by
 unfold KV at r
 induction r with
 | nil=>rfl
 | cons h t ih=>rw [List.any_cons,List.any_cons,ih,h.1]
theorem KV.vp {kvs:List (κ × V)} {vs:List (κ × Value)} (r:KV kvs vs) (k:κ) {y:V} {u:Value} (ry:RelV y u) :
  KV (kvs.map fun kv=>if kv.1=k then (kv.1,y) else kv) (vs.map fun kv=>if kv.1=k then (kv.1,u) else kv):=by
 unfold KV at r ⊢
 induction r with
 | nil=>exact .nil
 | @cons p q ps qs h t ih =>
  rw [List.map_cons,List.map_cons]
  refine .cons ?_ ih
  obtain⟨h1,h2⟩:=h
  by_cases e:p.1=k
  ·rw [if_pos e,if_pos (h1.symm.trans e)];exact⟨h1,ry⟩
  ·rw [if_neg e,if_neg (fun z=>e (h1.trans z))];exact⟨h1,h2⟩
theorem KV.put {kvs:List (κ × V)} {vs:List (κ × Value)} (r:KV kvs vs) (k:κ) {y:V} {u:Value} (ry:RelV y u):KV (putK kvs k y) (stored vs k u):=by
 unfold putK stored
 rw [r.any k]
 by_cases e:(vs.any fun kv=>decide (kv.1=k))=true
 ·rw [if_pos e,if_pos e];exact r.vp k ry
 ·rw [if_neg e,if_neg e];exact Paired.snoc r ⟨rfl,ry⟩
theorem KV.drop {kvs:List (κ × V)} {vs:List (κ × Value)} (r:KV kvs vs) (k:κ):KV (cz kvs k) (without vs k):=by
 unfold KV at r ⊢
 unfold cz without
 induction r with
 | nil=>exact .nil
 | @cons p q ps qs h t ih =>
  obtain⟨h1,h2⟩:=h
  rw [List.filter_cons,List.filter_cons]
  by_cases e:p.1=k
  ·have a:¬ decide (p.1 ≠ k)=true:=by simp [e]
   have b:¬ decide (q.1 ≠ k)=true:=by simp [h1.symm.trans e]
   rw [if_neg a,if_neg b];exact ih
  ·have e':¬ q.1=k:=fun z=>e (h1.trans z)
   have a:decide (p.1 ≠ k)=true:=by simp [e]
   have b:decide (q.1 ≠ k)=true:=by simp [e']
   rw [if_pos a,if_pos b];exact .cons ⟨h1,h2⟩ ih
theorem KV.keys {kvs:List (κ × V)} {vs:List (κ × Value)} (r:KV kvs vs):kvs.map (·.1)=vs.map (·.1):=by
 unfold KV at r
 induction r with
 | nil=>rfl
 | cons h t ih=>rw [List.map_cons,List.map_cons,ih,h.1]
theorem KV.length {kvs:List (κ × V)} {vs:List (κ × Value)} (r:KV kvs vs):kvs.length=vs.length:=Paired.length r
theorem vq (kvs:List (κ × V)) (k:κ):(cz kvs k).length<=kvs.length:=List.length_filter_le _ _
end
theorem iN {P:Program} {w:World} {k:Key} {u:Value} (r:RelV (kV k) u):(aL P w).is k u=true:=by
 cases k with
 | inl i=>obtain⟨t,e⟩:=(show ∃ t,u=Value.int i t from r);subst e;exact lN P w i t
 | inr x=>obtain⟨t,e⟩:=(show ∃ t,u=Value.str x t from r);subst e;exact lO P w x t
theorem oz {P:Program} {w:World}:∀ {ks:List Key} {us:List Value},Vals (ks.map kV) us->ItemsAre (aL P w) ks us
 | [],_,r=>by rw [List.map_nil] at r;cases r;exact .nil
 | k :: ks,_,r=>by
  rw [List.map_cons] at r
  cases r with
  | cons h t=>exact .cons (iN h) (oz t)
abbrev KT (H:Hp):List (List Key × V)->List (List Key × Addr × Value)->Prop:=Paired fun p q=>p.1=q.1/\H q.2.1=some (.tup (p.1.map kV))/\RelV p.2 q.2.2
theorem KT.val {H:Hp} {kvs:List (List Key × V)} {xs:List (List Key × Addr × Value)} (r:KT H kvs xs) (k:List Key):fW (bG kvs k) ((atKey xs k).map (·.2)):=by
 induction r with
 | nil=>exact True.intro
 | @cons p q ps qs h t ih =>
  obtain⟨h1,_,h2⟩:=h
  by_cases e:p.1=k
  ·have e':q.1=k:=h1.symm.trans e
   have b:atKey (q :: qs) k=some q.2:=by simp [atKey,List.find?_cons,e']
   rw [cO e,b];exact h2
  ·have e':¬ q.1=k:=fun z=>e (h1.trans z)
   have b:atKey (q :: qs) k=atKey qs k:=by simp [atKey,List.find?_cons,e']
   rw [cH e,b];exact ih
theorem KT.vp {H:Hp} {kvs:List (List Key × V)} {xs:List (List Key × Addr × Value)} (r:KT H kvs xs) (k:List Key) {y:V} {u:Value} (ry:RelV y u) :
  KT H (kvs.map fun kv=>if kv.1=k then (kv.1,y) else kv) (xs.map (putAt k u)):=by
 induction r with
 | nil=>exact .nil
 | @cons p q ps qs h t ih =>
  rw [List.map_cons,List.map_cons]
  refine .cons ?_ ih
  obtain⟨h1,h2,h3⟩:=h
  unfold putAt
  by_cases e:p.1=k
  ·rw [if_pos e,if_pos (h1.symm.trans e)];exact⟨h1,h2,ry⟩
  ·rw [if_neg e,if_neg (fun z=>e (h1.trans z))];exact⟨h1,h2,h3⟩
theorem KT.put {H:Hp} {kvs:List (List Key × V)} {xs:List (List Key × Addr × Value)} (r:KT H kvs xs) (k:List Key) {b:Addr} {y:V} {u:Value} (hb:H b=some (.tup (k.map kV))) (ry:RelV y u) :
  KT H (putK kvs k y) (storedH xs k b u):=by
 have e:(kvs.any fun kv=>decide (kv.1=k))=(atKey xs k).isSome:=by
  rw [gu,(r.val k).ua,Option.isSome_map]
 unfold putK storedH
 rw [e]
 by_cases q:(atKey xs k).isSome=true
 ·rw [if_pos q,if_pos q];exact r.vp k ry
 ·rw [if_neg q,if_neg q];exact Paired.snoc r ⟨rfl,hb,ry⟩
theorem KT.keeps {H H':Hp} {kvs:List (List Key × V)} {xs:List (List Key × Addr × Value)} (r:KT H kvs xs) (ht:∀ b ys,H b=some (.tup ys)->H' b=some (.tup ys)):KT H' kvs xs :=
 Paired.uX r fun _ _ z=>⟨z.1,ht _ _ z.2.1,z.2.2⟩
section
variable {P:Program} {w:World} {H:Hp} {h:Heap} {a:Addr}
theorem wM {u:HO} (ok:dG P w H h) (e:Rd H a u):bS P w H h a u:=e.ok ok
theorem jW {kvs:List (Key × V)} (ok:dG P w H h) (e:Rd H a (.dK kvs)):kvs.length<=sizeLine/\(a == sysModules)=false/\∃ vs,KV kvs vs/\h.DictOf (aL P w) a vs :=
 show bS P w H h a (.dK kvs) from wM ok e
theorem jj {kvs:List (Key × V)} (ok:dG P w H h) (e:H a=some (.dK kvs)):kvs.length<=sizeLine/\(a == sysModules)=false/\∃ vs,KV kvs vs/\h.DictOf (aL P w) a vs:=jW ok (.inl e)
theorem mZ {ks:List Key} (ok:dG P w H h) (e:H a=some (.tup (ks.map kV))):(tupleKind (aL P w)).is h ks a:=by
 obtain⟨_,its,r,o,h1,h2,n,h3⟩:=(show bS P w H h a (.tup (ks.map kV)) from ok a _ e)
 exact⟨o,its.toArray,n,h1,h2,h3.1,by simpa using oz r⟩
theorem m3 {kvs:List (List Key × V)} (ok:dG P w H h) (e:Rd H a (.dT kvs)):kvs.length<=sizeLine/\(a == sysModules)=false /\
  ∃ xs,KT H kvs xs/\h.DictOfH (tupleKind (aL P w)) a xs:=by
 obtain⟨z,y,xs,r,o,es,ep,h1,h2,h3,h4,h5⟩:=(show bS P w H h a (.dT kvs) from wM ok e)
 refine⟨z,y,xs,r,o,es,ep,h1,h2,h3,h4,fun x hx=>?_,h5⟩
 have all:∀ {l:List (List Key × V)} {m:List (List Key × Addr × Value)},KT H l m->∀ x ∈ m,(tupleKind (aL P w)).is h x.1 x.2.1:=by
  intro l m q
  induction q with
  | nil=>intro x hx;exact nomatch hx
  | @cons p q ps qs hq t ih =>
   intro x hx
   rcases List.mem_cons.mp hx with e | hx
   ·subst e
    exact mZ ok (by rw [<-hq.1];exact hq.2.1)
   ·exact ih x hx
 exact all r x hx
theorem zg {kvs:List (List Key × V)} (ok:dG P w H h) (e:H a=some (.dT kvs)):kvs.length<=sizeLine/\(a == sysModules)=false /\
  ∃ xs,KT H kvs xs/\h.DictOfH (tupleKind (aL P w)) a xs:=m3 ok (.inl e)
end
def cR (H:Hp) (a:Addr) (y:V) (r:Option V):Prop :=
 (∃ kvs k,Rd H a (.dK kvs)/\y=kV k/\r=bG kvs k)\/∃ kvs k b,Rd H a (.dT kvs)/\y=.ref b/\H b=some (.tup (k.map kV))/\r=bG kvs k
def gx (H:Hp) (a:Addr) (y v:V) (H':Hp):Prop :=
 (∃ kvs k,H a=some (.dK kvs)/\y=kV k/\kvs.length < sizeLine/\H' = upd H a (.dK (putK kvs k v))) \/
 ∃ kvs k b,H a=some (.dT kvs)/\y=.ref b/\H b=some (.tup (k.map kV))/\kvs.length < sizeLine/\H' = upd H a (.dT (putK kvs k v))
theorem cR.k {H:Hp} {a:Addr} {kvs:List (Key × V)} {k:Key} (e:H a=some (.dK kvs)):cR H a (kV k) (bG kvs k):=.inl ⟨kvs,k,.inl e,rfl,rfl⟩
theorem gx.k {H:Hp} {a:Addr} {kvs:List (Key × V)} {k:Key} {v:V} (e:H a=some (.dK kvs)) (hl:kvs.length < sizeLine):gx H a (kV k) v (upd H a (.dK (putK kvs k v))):=.inl ⟨kvs,k,e,rfl,hl,rfl⟩
section
variable {X:Cx} {pins:List (Addr × Obj)} {σ : St} {H:Hp} {s:Shared} {a:Addr} {y v:V} {u r:Value} {o:Option V} {A:Around} {E:Value->Shared->Prop}
theorem Inv.big (I:Inv X pins σ H s):sysModules < s.heap.objs.size:=by
 have h:mainGlobals < s.heap.objs.size:=(I.mod.glob.keeps I.bk).lt
 exact Nat.lt_trans (by decide) h
theorem ub {Q:Value->Shared->Prop} (hu:A.units+1 < cLine) (I:Inv X pins σ H s) (g:cR H a y (some v)) (ry:RelV y u) (h:∀ w' s',Inv X pins σ H s'->RelV v w'->Q w' s') :
  wpAny (model X.prog X.w) A (getItem (.ref a) u) Q E s:=by
 rcases g with ⟨kvs,k,e,ey,l⟩ | ⟨kvs,k,b,e,ey,eb,l⟩
 ·subst ey
  obtain⟨z,hd,vs,rel,dd⟩:=jW I.aG e
  obtain⟨w',hw,rw'⟩:=fW.some_of (v:=v) (o:=valueAt vs k) (by rw [l];exact rel.val k)
  exact wpAny_getItem_of (iN ry) dd.mapOf hw (h w' _ (I.tok _) rw')
 ·subst ey
  cases (show u=Value.ref b from ry)
  obtain⟨z,hd,xs,rel,dd⟩:=m3 I.aG e
  obtain⟨w',hw,rw'⟩:=fW.some_of (v:=v) (o:=(atKey xs k).map (·.2)) (by rw [l];exact rel.val k)
  obtain⟨p,hp,hp2⟩:=Option.map_eq_some_iff.mp hw
  refine wpAny_getItem_heap (tupleKind_room_in1 hu) (mZ I.aG eb) dd hp ?_
  rw [hp2]
  exact h w' _ (I.tok _) rw'
theorem jK {h':Heap} {t':Nat} {ob:HO} (I:Inv X pins σ H s) (mu:tN (H a)) (hs:Heap.SameBut a s.heap h') (he:∃ q,h'.get? a=some q) (new:bS X.prog X.w (upd H a ob) h' a ob) :
  Inv X pins σ (upd H a ob) { s with heap:=h',toks:=t' } :=
 I.write (x:=a) (e:=a) mu (.inl rfl) (fun b q hb z=>(hs.2 b hb).trans z) he new
theorem iC {P:Program} {w:World} {H':Hp} {h':Heap} {kvs:List (Key × V)} {vs:List (Key × Value)} (z:kvs.length<=sizeLine) (hd:(a == sysModules)=false) (rel:KV kvs vs) (dd:h'.DictOf (aL P w) a vs) :
  bS P w H' h' a (.dK kvs):=⟨z,hd,vs,rel,dd⟩
theorem uc {H':Hp} {Q:Unit->Shared->Prop} (hu:A.units+1 < cLine) (I:Inv X pins σ H s) (g:gx H a y v H') (ry:RelV y u) (rv:RelV v r) (h:∀ s',Inv X pins σ H' s'->Q () s') :
  wpAny (model X.prog X.w) A (setItem (.ref a) u r) Q E s:=by
 rcases g with ⟨kvs,k,e,ey,l,eH⟩ | ⟨kvs,k,b,e,ey,eb,l,eH⟩
 ·subst ey eH
  obtain⟨z,hd,vs,rel,dd⟩:=jj I.aG e
  have hz:vs.length<=sizeLine:=by rw [<-rel.length];exact z
  have hl:(putK kvs k v).length<=sizeLine:=by have:=ip kvs k v;omega
  refine wpAny_setItem_pairs (hsz:=hz) (iN ry) dd fun h' dd' hs=>h _ ?_
  have he:∃ q,h'.get? a=some q:=let ⟨q,_,_,hq,_⟩:=dd';⟨q,hq⟩
  exact jK I (by rw [e];exact True.intro) hs he (iC hl hd (rel.put k rv) dd')
 ·subst ey eH
  cases (show u=Value.ref b from ry)
  obtain⟨z,hd,xs,rel,dd⟩:=zg I.aG e
  have hz:xs.length<=sizeLine:=by rw [<-Paired.length rel];exact z
  have hl:(putK kvs k v).length<=sizeLine:=by have:=ip kvs k v;omega
  refine wpAny_setItem_heap (hsz:=hz) (tupleKind_room_in1 hu) (mZ I.aG eb) dd fun h' dd' hs=>h _ ?_
  obtain⟨q,es,ep,hq,h2,h3,h4,_,h5⟩:=dd'
  refine jK I (by rw [e];exact True.intro) hs ⟨q,hq⟩ ⟨hl,hd,_,(rel.put k eb rv).keeps fun c ys ec=>?_,q,es,ep,hq,h2,h3,h4,h5⟩
  rw [au (bA ec e (fun z=>nomatch z))]
  exact ec
end
section
variable {X:Cx} {pins:List (Addr × Obj)} {σ : St} {H:Hp} {s:Shared} {a:Addr} {kvs:List (Key × V)} {k:Key} {u:Value} {A:Around} {E:Value->Shared->Prop}
theorem wN {v:V} {more:List Value} {Q:Value->Shared->Prop} (I:Inv X pins σ H s) (e:H a=some (.dK kvs)) (ry:RelV (kV k) u) (l:bG kvs k=some v) (hm:more = []\/∃ x,more = [x])
  (h:∀ w' s',Inv X pins σ (upd H a (.dK (cz kvs k))) s'->RelV v w'->Q w' s'):wpAny (model X.prog X.w) A (call (.builtin "dict.pop") (.ref a :: u :: more)) Q E s:=by
 obtain⟨z,hd,vs,rel,dd⟩:=jj I.aG e
 obtain⟨w',hw,rw'⟩:=fW.some_of (v:=v) (o:=valueAt vs k) (by rw [<-l];exact rel.val k)
 have hp:(keyPart u).isSome=true:=by
  cases k with
  | inl i=>obtain⟨t,q⟩:=(show ∃ t,u=Value.int i t from ry);subst q;rfl
  | inr x=>obtain⟨t,q⟩:=(show ∃ t,u=Value.str x t from ry);subst q;rfl
 have ha:argsOk "dict.pop" ⟨.ref a :: u :: more,[]⟩:=by
  rcases hm with q | ⟨x,q⟩
  ·subst q;exact PySem.F.args_dict_pop_2 _ _
  ·subst q;exact PySem.F.args_dict_pop_3 _ _ _
 refine call_meetsIn PySem.F.slot_dict_pop dd.typeIs PySem.F.entry_dict_pop ha (meets_dict_pop_there (aL X.prog X.w) a (iN ry) more hm hp)
  ⟨vs,w',dd,by rw [<-rel.length];exact z,hw,fun h' dd' hs=>h w' _ ?_ rw'⟩
 have he:∃ q,h'.get? a=some q:=let ⟨q,_,_,hq,_⟩:=dd';⟨q,hq⟩
 exact jK I (by rw [e];exact True.intro) hs he (iC (Nat.le_trans (vq kvs k) z) hd (rel.drop k) dd')
theorem yz {r:Value} {Q:Value->Shared->Prop} (I:Inv X pins σ H s) (e:H a=some (.dK kvs)) (ry:RelV (kV k) u) (l:bG kvs k=none) (h:∀ s',Inv X pins σ H s'->Q r s') :
  wpAny (model X.prog X.w) A (call (.builtin "dict.pop") [.ref a,u,r]) Q E s:=by
 obtain⟨z,hd,vs,rel,dd⟩:=jj I.aG e
 have hn:valueAt vs k=none:=fW.none_of (by rw [<-l];exact rel.val k)
 have hp:(keyPart u).isSome=true:=by
  cases k with
  | inl i=>obtain⟨t,q⟩:=(show ∃ t,u=Value.int i t from ry);subst q;rfl
  | inr x=>obtain⟨t,q⟩:=(show ∃ t,u=Value.str x t from ry);subst q;rfl
 exact call_meetsIn PySem.F.slot_dict_pop dd.typeIs PySem.F.entry_dict_pop (PySem.F.args_dict_pop_3 _ _ _) (meets_dict_pop_default (aL X.prog X.w) a (iN ry) hd hp r) ⟨vs,dd,hn,h _ (I.tok _)⟩
theorem zh {Q:Value->Shared->Prop} (I:Inv X pins σ H s) (e:Rd H a (.dK kvs)) (h:∀ t s',Inv X pins σ H s'->Q (.int kvs.length t) s'):wpAny (model X.prog X.w) A (call (.builtin "len") [.ref a]) Q E s:=by
 obtain⟨z,hd,vs,rel,dd⟩:=jW I.aG e
 refine call_len_dict hd dd (by rw [<-rel.length];rw [sizeLine_eq] at z;omega) ?_
 rw [<-rel.length]
 exact h _ _ (I.tok _)
end
def vt (i:Expr):Prop:=∀ ov iv,subscripted i false ov iv=operate [ov,iv] (getItem ov iv)
theorem rN {prog:Program} {w:World} {A:Around} {E:Value->Shared->Prop} {s:Shared} {env:Env} {value slice:Expr} {pos:Pos} {T id:String} {Q:Value->Shared->Prop}
  (hl:typeLookup (.type T) "__getitem__" = pure (some (.builtin id))) (hs:vt slice)
  (h:wpAny (model prog w) A (eval value env) (fun o s₁=>wpAny (model prog w) A (eval slice env) (fun i s₂=>s₂.TypeIs o T/\wpAny (model prog w) A (getItem o i) Q E s₂) E s₁) E s) :
  wpAny (model prog w) A (eval (.Subscript value slice pos) env) Q E s:=by
 refine Subscript_ (wpAny_mono h (fun o s₁ h₁=>wpAny_mono h₁ (fun i s₂ h₂=>?_) fun _ _ x=>x) fun _ _ x=>x)
 obtain⟨hT,h₂⟩:=h₂
 unfold subscriptTail
 refine wpAny_bind ?_
 rw [getitemInPython_of_ne hT.not_modules]
 refine wpAny_bind (wpAny_specialOf hT hl ?_)
 have fin:wpAny (model prog w) A (subscripted slice false o i) (fun r s₃=>wpAny (model prog w) A (letTemporaryGo value o r >>= fun _=>pure r) Q E s₃) E s₂:=by
  rw [hs o i]
  exact wpAny_operating (wpAny_mono h₂ (fun r s₃ h₃=>wpAny_bind (wpAny_letTemporaryGo (wpAny_pure h₃))) fun _ _ x=>x)
 first
  | exact wpAny_pure (wpAny_bind fin)
  | exact wpAny_bind (wpAny_pure (wpAny_bind fin))
  | exact wpAny_bind fin
theorem qM {X:Cx} {pins:List (Addr × Obj)} {σ : St} {H:Hp} {s:Shared} {a:Addr} {y:V} {o:Option V} (I:Inv X pins σ H s) (g:cR H a y o):s.TypeIs (.ref a) "dict" := by
 rcases g with ⟨kvs,k,e,_,_⟩ | ⟨kvs,k,b,e,_,_,_⟩
 ·obtain⟨_,_,vs,_,dd⟩:=jW I.aG e
  exact dd.typeIs
 ·obtain⟨_,_,xs,_,dd⟩:=m3 I.aG e
  exact dd.typeIs
def zi (td ty:TE):TE:=fun σ H Q=>td σ H fun x H1=>ty σ H1 fun y H2=>∃ a v,x=.ref a/\cR H2 a y (some v)/\Q v H2
def zj (td ty tv:TE):TS:=fun D σ H=>tv σ H fun v H1=>td σ H1 fun x H2=>ty σ H2 fun y H3=>∃ a H4,x=.ref a/\gx H3 a y v H4/\D.nx σ H4
section
variable {X:Cx} {o i e value:Expr} {pos pos' tpos:Pos} {td ty tv:TE}
theorem iR (hu:X.A.units+1 < cLine) (ho:PE X o td) (hi:PE X i ty) (hs:vt i):PE X (.Subscript o i pos) (zi td ty):=by
 intro pins s σ H Q I h
 refine rN PySem.F.slot_dict_getitem.lookup hs (bh (ho pins s σ H _ I h) fun u s1 ⟨x,H1,I1,rx,q1⟩=>bh (hi pins s1 σ H1 _ I1 q1) fun iv s2 ⟨y,H2,I2,ry,a,v,ex,g,q2⟩=>?_)
 subst ex
 obtain rfl:u=Value.ref a:=rx
 exact⟨qM I2 g,ub hu I2 g ry fun w' s3 I3 rw'=>⟨v,H2,I3,rw',q2⟩⟩
theorem eD (hu:X.A.units+1 < cLine) (ho:PE X o td) (hi:PE X i ty) (hv:PE X value tv) (hs:swapsWith value (some (.Subscript o i pos')) pos.line X.env=pure false) :
  PS X (.Assign [.Subscript o i pos'] value pos) (zj td ty tv):=by
 intro pins s σ H D I h
 refine wpAny_Assign_Subscript (bh (hv pins s σ H _ I h) fun r s1 ⟨v,H1,I1,rv,q1⟩=>bh (ho pins s1 σ H1 _ I1 q1) fun u s2 ⟨x,H2,I2,rx,q2⟩=>bh (hi pins s2 σ H2 _ I2 q2) fun iv s3 ⟨y,H3,I3,ry,a,H4,ex,g,q3⟩=>?_) hs
 subst ex
 obtain rfl:u=Value.ref a:=rx
 exact uc hu I3 g ry rv fun s4 I4=>⟨σ,H4,I4,q3⟩
end
theorem p5 {P:Program} {w:World} {H:Hp} (h:Heap) (hb:sysModules < h.objs.size):bS P w H (h.push { cls:=.type "dict",data:=.dict #[] }) h.objs.size (.dK []) :=
 ⟨Nat.zero_le _,beq_eq_false_iff_ne.mpr (Ne.symm (Nat.ne_of_lt hb)),[],.nil,Heap.DictOf.new h⟩
def yA:TE:=fun _ H Q=>∀ p,H p=none->Q (.ref p) (upd H p (.dK []))
section
variable {X:Cx} {pos:Pos}
theorem i5:PE X (.Dict [] [] pos) yA:=fun pins s σ H Q I h =>
 wpAny_Dict_empty ⟨.ref s.heap.objs.size,_,I.laid (a:=s.heap.objs.size) (o:=.dK []) (t':=s.toks) (fun _ _ q=>Heap.get?_push_of_some _ q) (Nat.le_refl _) (p5 s.heap I.big),rfl,h _ (I.aG.fresh (Nat.le_refl _))⟩
end
def p6:List (TE × TE)->St->Hp->(List (V × V)->Hp->Prop)->Prop
 | [],_,H,Q=>Q [] H
 | (tk,tv) :: r,σ,H,Q=>tk σ H fun x H1=>tv σ H1 fun y H2=>p6 r σ H2 fun ps H3=>Q ((x,y) :: ps) H3
abbrev VV:List (V × V)->List (Value × Value)->Prop:=Paired fun p q=>RelV p.1 q.1/\RelV p.2 q.2
def wO (X:Cx) (pos:Pos) (keys:List (Option Expr)) (values:List Expr) (trs:List (TE × TE)):Prop :=
 ∀ (pins:List (Addr × Obj)) (s:Shared) (σ : St) (H:Hp) (Q:List (V × V)->Hp->Prop),Inv X pins σ H s->p6 trs σ H Q ->
  wpAny (model X.prog X.w) X.A (evalPairs (pairTrees keys values X.env pos)) (fun vs s'=>∃ ps H',Inv X pins σ H' s'/\VV ps vs/\Q ps H') X.xe s
theorem xm {X:Cx} {pos:Pos}:wO X pos [] [] []:=fun pins s σ H Q I h=>pairTrees_nil_walk ⟨[],H,I,.nil,h⟩
theorem vw {X:Cx} {pos:Pos} {k v:Expr} {ks:List (Option Expr)} {vs:List Expr} {tk tv:TE} {trs:List (TE × TE)} (hk:PE X k tk) (hv:PE X v tv) (hr:wO X pos ks vs trs) :
  wO X pos (some k :: ks) (v :: vs) ((tk,tv) :: trs):=fun pins s σ H Q I h =>
 pairTrees_cons_walk (bh (hk pins s σ H _ I h) fun u s1 ⟨x,H1,I1,rx,q1⟩=>bh (hv pins s1 σ H1 _ I1 q1) fun w2 s2 ⟨y,H2,I2,ry,q2⟩ =>
  bh (hr pins s2 σ H2 _ I2 q2) fun ws s3 ⟨ps,H3,I3,rel,q3⟩=>⟨(x,y) :: ps,H3,I3,.cons ⟨rx,ry⟩ rel,q3⟩)
def eE (kvs more:List (Key × V)):List (Key × V):=more.foldl (fun acc kv=>putK acc kv.1 kv.2) kvs
theorem KV.merge:∀ {more:List (Key × V)} {rs:List (Key × Value)} {kvs:List (Key × V)} {vs:List (Key × Value)},KV more rs->KV kvs vs->KV (eE kvs more) (merged vs rs):=by
 intro more rs kvs vs r
 unfold KV at r
 induction r generalizing kvs vs with
 | nil=>intro q;exact q
 | @cons p q ps qs h t ih =>
  intro r0
  have e:KV (putK kvs p.1 p.2) (stored vs q.1 q.2):=by
   have:=r0.put p.1 h.2
   rw [<-h.1];exact this
  exact ih e
theorem j6:∀ (more kvs:List (Key × V)),(eE kvs more).length<=kvs.length+more.length
 | [],kvs=>by show kvs.length<=kvs.length+0;omega
 | p :: r,kvs=>by
  have h1:=j6 r (putK kvs p.1 p.2)
  have h2:=ip kvs p.1 p.2
  show (eE (putK kvs p.1 p.2) r).length<=_
  rw [List.length_cons];omega
theorem m5 {P:Program} {w:World}:∀ {kvs:List (Key × V)} {ws:List (Value × Value)},VV (kvs.map fun kv=>(kV kv.1,kv.2)) ws->∃ rs,Carries (aL P w) ws rs/\KV kvs rs
 | [],_,r=>by rw [List.map_nil] at r;cases r;exact⟨[],True.intro,.nil⟩
 | p :: kvs,_,r=>by
  rw [List.map_cons] at r
  cases r with
  | @cons a b as bs h t =>
   obtain⟨rs,c,q⟩:=m5 (P:=P) (w:=w) t
   obtain⟨b1,b2⟩:=b
   exact⟨(p.1,b2) :: rs,⟨iN h.1,rfl,c⟩,.cons ⟨rfl,h.2⟩ q⟩
def zk (trs:List (TE × TE)):TE:=fun σ H Q=>∀ p,H p=none->p6 trs σ (upd H p (.dK [])) fun ps H2=>H2 p=some (.dK [])/\∃ kvs:List (Key × V),ps=kvs.map (fun kv=>(kV kv.1,kv.2))/\kvs.length<=15/\Q (.ref p) (upd H2 p (.dK (eE [] kvs)))
theorem xn {X:Cx} {pos:Pos} {keys:List (Option Expr)} {values:List Expr} {trs:List (TE × TE)} (h:wO X pos keys values trs) (hall:keys.all (·.isSome)=true) (hl:keys.length=values.length) (h0:keys ≠ [])
  (h15:keys.length<=15):PE X (.Dict keys values pos) (zk trs):=by
 intro pins s σ H Q I q
 have hn:=I.aG.fresh (Nat.le_refl s.heap.objs.size)
 have I1:=I.laid (a:=s.heap.objs.size) (o:=.dK []) (h':=s.heap.push { cls:=.type "dict",data:=.dict #[] }) (t':=s.toks) (fun _ _ q=>Heap.get?_push_of_some _ q) (Nat.le_refl _) (p5 s.heap I.big)
 refine wpAny_Dict_walk (knd:=aL X.prog X.w) hall hl h0 h15 (bh (h pins _ σ _ _ I1 (q _ hn)) fun ws s2 ⟨ps,H2,I2,rel,e,kvs,ep,lk,q2⟩=>?_)
 subst ep
 obtain⟨rs,c,rk⟩:=m5 (P:=X.prog) (w:=X.w) rel
 obtain⟨z,hd,vs0,r0,dd⟩:=jj I2.aG e
 cases r0
 refine⟨rs,c,dd,fun h' dd' hs=>⟨.ref s.heap.objs.size,_,?_,rfl,q2⟩⟩
 have hz:(eE [] kvs).length<=sizeLine:=by
  have h1:=j6 kvs []
  rw [List.length_nil] at h1
  rw [sizeLine_eq];omega
 have he:∃ q,h'.get? s.heap.objs.size=some q:=let ⟨q,_,_,hq,_⟩:=dd';⟨q,hq⟩
 exact jK I2 (by rw [e];exact True.intro) hs he (iC hz hd (rk.merge .nil) dd')
structure M1 (X:Cx) (o:Expr) (m:Str) (apos:Pos) (e:Expr) (cpos:Pos):Prop where
 base:attributeBase o m X.env (eval o X.env)=eval o X.env
 bL:((backTo cpos (starEach [e] X.env)).all (fun x=>!x.1) && (backToKw cpos (keywordEach [] X.env)).all (fun x=>x.1.isSome)
  && decide (([e]:List Expr).length+([]:List Keyword).length+(if ([]:List Keyword).isEmpty then 0 else 1) < 30))=true
 line:(apos.endLine == cpos.line)=true
 trees:backTo cpos (starEach [e] X.env) = [(false,eval e X.env)]
structure M2 (X:Cx) (o:Expr) (m:Str) (apos:Pos) (e f:Expr) (cpos:Pos):Prop where
 base:attributeBase o m X.env (eval o X.env)=eval o X.env
 bL:((backTo cpos (starEach [e,f] X.env)).all (fun x=>!x.1) && (backToKw cpos (keywordEach [] X.env)).all (fun x=>x.1.isSome)
  && decide (([e,f]:List Expr).length+([]:List Keyword).length+(if ([]:List Keyword).isEmpty then 0 else 1) < 30))=true
 line:(apos.endLine == cpos.line)=true
 trees:backTo cpos (starEach [e,f] X.env) = [(false,eval e X.env),(false,eval f X.env)]
def wQ (H:Hp) (a:Addr):Prop:=(∃ kvs,Rd H a (.dK kvs))\/∃ kvs,Rd H a (.dT kvs)
theorem p7 {X:Cx} {pins:List (Addr × Obj)} {σ : St} {H:Hp} {s:Shared} {a:Addr} (I:Inv X pins σ H s) (d:wQ H a) :
  s.TypeIs (.ref a) "dict" /\ (∀ b,Value.ref a=.ref b->∃ ob,s.heap.get? b=some ob/\ob.dict=none)/\(a == sysModules)=false:=by
 rcases d with ⟨kvs,e⟩ | ⟨kvs,e⟩
 ·obtain⟨_,hd,vs,_,dd⟩:=jW I.aG e
  refine⟨dd.typeIs,fun b q=>?_,hd⟩
  cases q
  obtain⟨ob,_,_,h1,h2,_⟩:=dd
  exact⟨ob,h1,h2.2.1⟩
 ·obtain⟨_,hd,xs,_,dd⟩:=m3 I.aG e
  refine⟨dd.typeIs,fun b q=>?_,hd⟩
  cases q
  obtain⟨ob,_,_,h1,h2,_⟩:=dd
  exact⟨ob,h1,h2.2.1⟩
section
variable {X:Cx} {pins:List (Addr × Obj)} {σ : St} {H:Hp} {s:Shared} {a:Addr} {y d:V} {u r:Value} {o:Option V} {A:Around} {E:Value->Shared->Prop}
theorem yB {Q:Value->Shared->Prop} (hu:A.units+1 < cLine) (I:Inv X pins σ H s) (g:cR H a y o) (ry:RelV y u) (rd:RelV d r) (h:∀ w' s',Inv X pins σ H s'->RelV (o.getD d) w'->Q w' s') :
  wpAny (model X.prog X.w) A (call (.builtin "dict.get") [.ref a,u,r]) Q E s:=by
 rcases g with ⟨kvs,k,e,ey,l⟩ | ⟨kvs,k,b,e,ey,eb,l⟩
 ·subst ey
  obtain⟨z,hd,vs,rel,dd⟩:=jW I.aG e
  refine call_meetsIn PySem.F.slot_dict_get dd.typeIs PySem.F.entry_dict_get (PySem.F.args_dict_get_3 _ _ _) (meets_dict_get_default (aL X.prog X.w) a (iN ry) hd r) ⟨_,dd.mapOf,h _ _ (I.tok _) ?_⟩
  rw [l]
  exact (rel.val k).getD rd
 ·subst ey
  cases (show u=Value.ref b from ry)
  obtain⟨z,hd,xs,rel,dd⟩:=m3 I.aG e
  refine call_meetsIn PySem.F.slot_dict_get dd.typeIs PySem.F.entry_dict_get (PySem.F.args_dict_get_3 _ _ _) (meetsH_dict_get_default (tupleKind (aL X.prog X.w)) a b hd r) ⟨tupleKind_room_in1 hu,k,xs,mZ I.aG eb,dd,h _ _ (I.tok _) ?_⟩
  rw [l]
  exact (rel.val k).getD rd
end
def yC (td ty:TE):TE:=fun σ H Q=>td σ H fun x H1=>∃ a,x=.ref a/\wQ H1 a/\ty σ H1 fun y H2=>∃ kvs k v,H2 a=some (.dK kvs)/\y=kV k/\bG kvs k=some v/\Q v (upd H2 a (.dK (cz kvs k)))
def yD (td ty tx:TE):TE:=fun σ H Q=>td σ H fun x H1=>∃ a,x=.ref a/\wQ H1 a/\ty σ H1 fun y H2=>tx σ H2 fun z H3=>∃ kvs k,H3 a=some (.dK kvs)/\y=kV k /\
 (∀ v,bG kvs k=some v->Q v (upd H3 a (.dK (cz kvs k))))/\(bG kvs k=none->Q z H3)
section
variable {X:Cx} {o e f:Expr} {apos cpos:Pos} {td ty tx:TE}
theorem vy (ho:PE X o td) (he:PE X e ty) (m:M1 X o "pop" apos e cpos):PE X (.Call (.Attribute o "pop" apos) [e] [] cpos) (yC td ty):=by
 intro pins s σ H Q I h
 refine wpAny_Call_method m.base m.bL m.line PySem.F.plainAttrs_dict PySem.F.slot_dict_pop PySem.F.type_dict_pop (bh (ho pins s σ H _ I h) fun u s1 ⟨x,H1,I1,rx,a,ex,d,q1⟩=>?_)
 subst ex
 obtain rfl:u=Value.ref a:=rx
 obtain⟨t1,t2,_⟩:=p7 I1 d
 refine⟨t1,t2,?_⟩
 rw [m.trees]
 refine Calls.callWith_builtin rfl (Calls.evalArgs_plain (Calls.spliced_cons (bh (he pins s1 σ H1 _ I1 q1) fun iv s2 ⟨y,H2,I2,ry,kvs,k,v,ea,ey,l,q2⟩=>Calls.spliced_nil ?_)))
 subst ey
 exact wN I2 ea ry l (.inl rfl) fun w' s3 I3 rw'=>⟨v,_,I3,rw',q2⟩
theorem vz (ho:PE X o td) (he:PE X e ty) (hf:PE X f tx) (m:M2 X o "pop" apos e f cpos):PE X (.Call (.Attribute o "pop" apos) [e,f] [] cpos) (yD td ty tx):=by
 intro pins s σ H Q I h
 refine wpAny_Call_method m.base m.bL m.line PySem.F.plainAttrs_dict PySem.F.slot_dict_pop PySem.F.type_dict_pop (bh (ho pins s σ H _ I h) fun u s1 ⟨x,H1,I1,rx,a,ex,d,q1⟩=>?_)
 subst ex
 obtain rfl:u=Value.ref a:=rx
 obtain⟨t1,t2,_⟩:=p7 I1 d
 refine⟨t1,t2,?_⟩
 rw [m.trees]
 refine Calls.callWith_builtin rfl (Calls.evalArgs_plain (Calls.spliced_cons (bh (he pins s1 σ H1 _ I1 q1) fun iv s2 ⟨y,H2,I2,ry,q2⟩ =>
  Calls.spliced_cons (bh (hf pins s2 σ H2 _ I2 q2) fun fv s3 ⟨z,H3,I3,rz,kvs,k,ea,ey,q3,q4⟩=>Calls.spliced_nil ?_))))
 subst ey
 cases l:bG kvs k with
 | some v=>exact wN I3 ea ry l (.inr ⟨fv,rfl⟩) fun w' s4 I4 rw'=>⟨v,_,I4,rw',q3 v l⟩
 | none=>exact yz I3 ea ry l fun s4 I4=>⟨z,H3,I4,rz,q4 l⟩
end
section
variable {X:Cx} {pins:List (Addr × Obj)} {σ : St} {H:Hp} {s:Shared} {a:Addr} {kvs:List (Key × V)} {A:Around} {E:Value->Shared->Prop}
end
section
variable {X:Cx} {pins:List (Addr × Obj)} {σ : St} {H:Hp} {s:Shared} {a:Addr} {y:V} {u:Value} {A:Around} {E:Value->Shared->Prop}
end
section
variable {X:Cx}
theorem ue:d9 X (.builtin "len") (fun xs H Q=>∃ a kvs,xs = [V.ref a]/\H a=some (.dK kvs)/\Q (.int kvs.length) H):=by
 intro pins s σ H xs us Q I r h
 obtain⟨a,kvs,rfl,ha,q⟩:=h
 obtain⟨u,rfl,ru⟩:=vals1 r
 cases ru
 exact zh I (.inl ha) fun t s' I'=>⟨.int kvs.length,H,I',⟨t,rfl⟩,q⟩
end
section
variable {κ : Type} [DecidableEq κ]
theorem xo {kvs:List (κ × V)} {k:κ} {v:V} (h:bG kvs k=some v):k ∈ kvs.map (·.1):=by
 have q:(kvs.any fun kv=>decide (kv.1=k))=true:=by
  rw [gu,h]
  all_goals rfl
 obtain⟨p,hp,e⟩:=List.any_eq_true.mp q
 exact List.mem_map.mpr ⟨p,hp,of_decide_eq_true e⟩
theorem oA {p:κ × V} {r:List (κ × V)} {k:κ} (e:p.1=k):cz (p :: r) k=cz r k:=by
 unfold cz
 rw [List.filter_cons,if_neg (by simp [e])]
theorem oB {p:κ × V} {r:List (κ × V)} {k:κ} (e:¬ p.1=k):cz (p :: r) k=p :: cz r k:=by
 unfold cz
 rw [List.filter_cons,if_pos (by simp [e])]
end
theorem bB.cQ {H:Hp} {v:V} {ds:List PyData} (h:bB H v (.tuple ds)):∃ p xs,v=.ref p/\H p=some (.tup xs)/\bg H xs ds:=by
 cases h with
 | tup e r=>exact⟨_,_,rfl,e,r⟩
theorem bB.int_inv {H:Hp} {v:V} {i:Int} (h:bB H v (.int i)):v=.int i:=by cases h;rfl
theorem bB.str_inv {H:Hp} {v:V} {x:Str} (h:bB H v (.str x)):v=.str x:=by cases h;rfl
theorem bg.cons_inv {H:Hp} {xs:List V} {d:PyData} {ds:List PyData} (h:bg H xs (d :: ds)):∃ x r,xs=x :: r/\bB H x d/\bg H r ds:=by
 cases h with
 | cons a b=>exact⟨_,_,rfl,a,b⟩
theorem bg.nil_inv {H:Hp} {xs:List V} (h:bg H xs []):xs = []:=by cases h;rfl
theorem bg.get {H:Hp}:∀ {xs:List V} {ds:List PyData} {i:Nat} {d:PyData},bg H xs ds->ds[i]? = some d->∃ x,xs[i]? = some x/\bB H x d
 | _,_,_,_,.nil,e=>by simp at e
 | _,_,0,_,.cons r _,e=>by
  simp at e
  subst e
  exact⟨_,rfl,r⟩
 | _,_,i+1,d,.cons _ t,e=>by
  obtain⟨x,h1,h2⟩:=bg.get (i:=i) (d:=d) t (by simpa using e)
  exact⟨x,by simpa using h1,h2⟩
def ll:cx->List V
 | .put x n=>[.str "put",.str x,.int n]
 | .copy x y=>[.str "copy",.str x,.str y]
 | .add x n=>[.str "add",.str x,.int n]
 | .read x=>[.str "read",.str x]
 | .tell x=>[.str "tell",.str x]
def i6:End->List V
 | .stop=>[.str "stop"]
 | .go p=>[.str "go",.int p]
 | .d6 b x n p q=>[.str (wT b),.str x,.int n,.int p,.int q]
theorem gC {H:Hp} {v:V} {d:cx} (h:bB H v (dN d)):∃ p,v=.ref p/\H p=some (.tup (ll d)):=by
  cases d <;> (
    obtain⟨p,xs,rfl,e,r⟩:=bB.cQ h
    obtain⟨x1,r1,rfl,h1,r⟩:=r.cons_inv
    obtain⟨x2,r2,rfl,h2,r⟩:=r.cons_inv
    first
      | (obtain⟨x3,r3,rfl,h3,r⟩:=r.cons_inv
         have z:=r.nil_inv
         subst z
         refine⟨p,rfl,?_⟩
         first
           | rw [e,h1.str_inv,h2.str_inv,h3.int_inv];rfl
           | rw [e,h1.str_inv,h2.str_inv,h3.str_inv];rfl)
      | (have z:=r.nil_inv
         subst z
         refine⟨p,rfl,?_⟩
         rw [e,h1.str_inv,h2.str_inv];rfl))
theorem yE {H:Hp} {v:V} {e:End} (h:bB H v (pX e)):∃ p,v=.ref p/\H p=some (.tup (i6 e)):=by
 cases e with
 | stop =>
  obtain⟨p,xs,rfl,e,r⟩:=bB.cQ h
  obtain⟨x1,r1,rfl,h1,r⟩:=r.cons_inv
  have z:=r.nil_inv
  subst z
  exact⟨p,rfl,by rw [e,h1.str_inv];rfl⟩
 | go q =>
  obtain⟨p,xs,rfl,e,r⟩:=bB.cQ h
  obtain⟨x1,r1,rfl,h1,r⟩:=r.cons_inv
  obtain⟨x2,r2,rfl,h2,r⟩:=r.cons_inv
  have z:=r.nil_inv
  subst z
  exact⟨p,rfl,by rw [e,h1.str_inv,h2.int_inv];rfl⟩
 | d6 b x n q q' =>
  obtain⟨p,xs,rfl,e,r⟩:=bB.cQ h
  obtain⟨x1,r1,rfl,h1,r⟩:=r.cons_inv
  obtain⟨x2,r2,rfl,h2,r⟩:=r.cons_inv
  obtain⟨x3,r3,rfl,h3,r⟩:=r.cons_inv
  obtain⟨x4,r4,rfl,h4,r⟩:=r.cons_inv
  obtain⟨x5,r5,rfl,h5,r⟩:=r.cons_inv
  have z:=r.nil_inv
  subst z
  exact⟨p,rfl,by rw [e,h1.str_inv,h2.str_inv,h3.int_inv,h4.int_inv,h5.int_inv];rfl⟩
theorem jX {H:Hp} {v:V} {ps:List Piece} {i:Nat} {ds:List cx} {e:End} (h:bB H v (il ps)) (hi:ps[i]? = some (ds,e)) :
  ∃ p xs pc da ea vs,v=.ref p/\H p=some (.tup xs)/\xs.length=ps.length/\xs[i]? = some (.ref pc)/\H pc=some (.tup [.ref da,.ref ea])/\H da=some (.tup vs)/\bg H vs (ds.map dN)/\H ea=some (.tup (i6 e)):=by
 obtain⟨p,xs,rfl,e1,r⟩:=bB.cQ h
 have hl:=r.len
 obtain⟨x,hx,rx⟩:=r.get (i:=i) (d:=fc (ds,e)) (by rw [List.getElem?_map,hi];rfl)
 obtain⟨pc,ys,rfl,e2,r2⟩:=bB.cQ rx
 obtain⟨y1,t1,rfl,q1,r2⟩:=r2.cons_inv
 obtain⟨y2,t2,rfl,q2,r2⟩:=r2.cons_inv
 have z:=r2.nil_inv
 subst z
 obtain⟨da,vs,rfl,e3,r3⟩:=bB.cQ q1
 obtain⟨ea,rfl,e4⟩:=yE q2
 exact⟨p,xs,pc,da,ea,vs,rfl,e1,by rw [hl,List.length_map],hx,e2,e3,r3,e4⟩
theorem jY {n:Nat} (h:n<=1000000):n < sizeLine:=Nat.lt_of_le_of_lt h (by decide)
theorem bf {c:Bool} {A B:Prop} (hc:c=false) (h:B):if c=true then A else B:=by subst hc;exact aV h
theorem bY {c:Bool} {A B:Prop} (hc:c=true) (h:A):if c=true then A else B:=by subst hc;exact aW h
def xp (td ty tx:TE):TE:=fun σ H Q=>td σ H fun x H1=>∃ a,x=.ref a/\wQ H1 a/\ty σ H1 fun y H2=>tx σ H2 fun z H3=>∃ o v,cR H3 a y o/\o.getD z=v/\Q v H3
theorem cV {X:Cx} {o e f:Expr} {apos cpos:Pos} {td ty tx:TE} (hu:X.A.units+1 < cLine) (ho:PE X o td) (he:PE X e ty) (hf:PE X f tx) (m:M2 X o "get" apos e f cpos):PE X (.Call (.Attribute o "get" apos) [e,f] [] cpos) (xp td ty tx):=by
 intro pins s σ H Q I h
 refine wpAny_Call_method m.base m.bL m.line PySem.F.plainAttrs_dict PySem.F.slot_dict_get PySem.F.type_dict_get (bh (ho pins s σ H _ I h) fun u s1 ⟨x,H1,I1,rx,a,ex,d,q1⟩=>?_)
 subst ex
 obtain rfl:u=Value.ref a:=rx
 obtain⟨t1,t2,_⟩:=p7 I1 d
 refine⟨t1,t2,?_⟩
 rw [m.trees]
 refine Calls.callWith_builtin rfl (Calls.evalArgs_plain (Calls.spliced_cons (bh (he pins s1 σ H1 _ I1 q1) fun iv s2 ⟨y,H2,I2,ry,q2⟩ =>
  Calls.spliced_cons (bh (hf pins s2 σ H2 _ I2 q2) fun fv s3 ⟨z,H3,I3,rz,ov,v,g,ev,q3⟩=>Calls.spliced_nil ?_))))
 exact yB hu I3 g ry rz fun w' s4 I4 rw'=>⟨v,H3,I4,by rw [<-ev];exact rw',q3⟩
structure RS where
 zl:Nat
 place:Nat
 w:Str->Int
 taken:Nat
 told:List Int
 word:Str
 vA:List Nat
def DW (kvs:List (Key × V)) (w:Str->Int):Prop:=∀ x:Str,(bG kvs (Sum.inr x:Key)).getD (.int 0)=.int (w x)
def vO:Option Int->V
 | none=>.aB
 | some i=>.int i
def lP:Option Int->Option Int->Prop
 | some a,some b=>a<=b
 | _,_=>True
def dA (n:Int) (lo hi:Option Int):Bool:=(match lo with | none=>true | some a=>decide (a<=n)) && (match hi with | none=>true | some a=>decide (n<=a))
abbrev Rs:=Option (Option Int × Option Int)
def i7 (hi:Option Int) (n:Int):Int:=match hi with | none=>n - 1 | some h=>if n - 1 < h then n - 1 else h
def i8 (lo:Option Int) (n:Int):Int:=match lo with | none=>n | some l=>if n > l then n else l
def gf (lo hi:Option Int) (n:Int):Rs :=
 match lo with | none=>some (none,some (i7 hi n)) | some l=>if i7 hi n < l then none else some (some l,some (i7 hi n))
def iq (lo hi:Option Int) (n:Int):Rs :=
 match hi with | none=>some (some (i8 lo n),none) | some h=>if h < i8 lo n then none else some (some (i8 lo n),some h)
def j7 (lo hi:Option Int) (n:Int):Rs:=if dA n lo hi=true then some (some n,some n) else none
def i9 (lo hi:Option Int) (n:Int):Rs:=if lo=some n then (if hi=some n then none else some (some (n+1),hi)) else if hi=some n then some (lo,some (n - 1)) else some (lo,hi)
def lr (lo hi:Option Int) (n:Int) (side:Bool):Rs:=if side=true then gf lo hi n else iq lo hi n
def rO (lo hi:Option Int) (n:Int) (side:Bool):Rs:=if side=true then j7 lo hi n else i9 lo hi n
def dP (w:Str) (lo hi:Option Int) (n:Int) (side:Bool):Rs:=if w = "less" then lr lo hi n side else rO lo hi n side
def RV (H:Hp) (v:V) (r:Rs):Prop:=match r with
 | none=>v=.aB
 | some (a,b)=>∃ p,v=.ref p/\H p=some (.tup [vO a,vO b])
theorem RV.same {H H':Hp} {v:V} {r:Rs} (h:RV H v r) (s:ah H H'):RV H' v r:=by
 cases r with
 | none=>exact h
 | some ab =>
  obtain⟨p,e,h⟩:=h
  exact⟨p,e,s _ _ h⟩
theorem RV.put {H:Hp} {v:V} {r:Rs} {l:Addr} {xs:List V} {o:HO} (h:RV H v r) (hl:H l=some (.lst xs)):RV (upd H l o) v r:=by
 cases r with
 | none=>exact h
 | some ab =>
  obtain⟨p,e,h⟩:=h
  exact⟨p,e,by rw [au (bA h hl (by intro z;cases z))];exact h⟩
def dO:Option Int->PyData
 | none=>.none
 | some i=>.int i
theorem yF {H:Hp} (o:Option Int):bB H (vO o) (dO o):=by
 cases o with
 | none=>exact .aB
 | some i=>exact .int i
theorem ah.put {H H':Hp} {l:Addr} {o:HO} (s:ah H H') (n:H l=none):ah H (upd H' l o):=fun c u e=>by rw [au (aY e n)];exact s c u e
theorem uf:decide (V.str "less" = V.str "less")=true:=by decide +kernel
theorem jl {lo:Option Int} {n:Int}:decide (vO lo=V.int n)=decide (lo=some n):=by
 cases lo with
 | none=>rfl
 | some i =>
  by_cases h:i=n
  ·subst h;simp [vO]
  ·have h1:¬ (V.int i=V.int n):=fun z=>h (V.int.inj z)
   have h2:¬ ((some i:Option Int)=some n):=fun z=>h (Option.some.inj z)
   rw [show vO (some i)=V.int i from rfl,decide_eq_false h1,decide_eq_false h2]
theorem iD {lo:Option Int} {n:Int}:yc (vO lo) (V.int n)=true:=by cases lo <;> rfl
section
variable {X:Cx} {C:Addr} {m x:Str} {k:Nat} {ps:List Str} {sp:Sp} {oe e:Expr} {es:List Expr} {ta:TE} {t:TA} {p pos apos:Pos}
end
theorem jL:bootBuiltins "dict" = some (.type "dict"):=by decide +kernel
def Aq (a0 a1 a2 a3 a4 a5 a6 a7:V):List (Str × V):=[("pieces",a0),("passed",a1),("place",a2),("worths",a3),("numbers",a4),("taken",a5),("spoken",a6),("over",a7)]
section
variable {a0 a1 a2 a3 a4 a5 a6 a7 z:V}
end
structure cZ (C:Addr) (H:Hp) (p pl d nl sl:Addr) (plv:V) (nums:List Int) (S:RS) (m:Nat):Prop where
 ob:∃ dx,H p=some (.ins C dx (Aq plv (.ref pl) (.int S.place) (.ref d) (.ref nl) (.int S.taken) (.ref sl) (.bl (decide (S.word = "stop")))))
 Ar:H pl=some (.lst (S.vA.map fun k=>V.int (k:Nat)))
 last:∃ xs,S.vA=xs ++ [S.zl]
 dict:∃ kvs,H d=some (.dK kvs)/\DW kvs S.w/\kvs.length<=m
 nums:H nl=some (.lst (nums.map V.int))
 As:H sl=some (.lst (S.told.map V.int))
 ne:pl ≠ nl/\pl ≠ sl/\nl ≠ sl
 bL:S.told.length<=m/\S.vA.length<=m+1
section
variable {C:Addr} {H H':Hp} {p pl d nl sl:Addr} {plv:V} {nums:List Int} {S:RS} {m:Nat}
end
end L2
namespace HT
open PySem PyProof.Rows PySem.Spec
section
variable {prog:Program} {w:World} {A:Around} {E:Value->Shared->Prop} {s:Shared}
theorem lL {t sl:Addr} {items:Array Value} {vl vu:Value} {lo hi:Option Int} {Q:Value->Shared->Prop} (ht:IsTup s.heap t items) (hs:s.heap.IsSliceOf sl vl vu .none) (pl:IsPart vl lo) (pu:IsPart vu hi)
  (hw:bP items.size 0 lo=0/\bP items.size items.size hi=items.size) (h:Q (.ref t) s):wpAny (model prog w) A (getItem (.ref t) (.ref sl)) Q E s:=by
 obtain⟨os,hos,hcs,hds⟩:=id hs
 have hTs:s.TypeIs (.ref sl) "slice" := ⟨os,hos,hcs⟩
 unfold getItem
 try with_reducible refine wpAny_holding ?_
 first | refine wpAny_bind (wpAny_pure ?_) | skip
 refine wpAny_bind (wpAny_sequenceKey ht.typeIs (by decide) ?_)
 refine wpAny_bind (wpAny_callSpecial?_slot (name:=Str.ofString "__getitem__") ht.typeIs PyProof.Rows.slot_tuple_getitem
  (wpAny_call_entry PyProof.Rows.slot_tuple_getitem ht.typeIs entry_tuple_getitem ?_ (args_tuple_getitem _ _)))
 show wpAny _ _ (Builtin.Tuple.tupleItemsOf (.ref t) >>= _) _ _ s
 refine wpAny_bind (tupleItemsOf_ ht ?_)
 refine wpAny_bind (wpAny_typeOf hTs ?_)
 rw [if_pos (by decide)]
 refine wpAny_bind (i1 hs pl pu ?_)
 have hno:((((bP items.size 0 lo:Nat):Int) == 0 && (1:Int) == 1 && (bP items.size items.size hi - bP items.size 0 lo) == items.size)=true):=by
  rw [hw.1,hw.2]
  simp
 show wpAny _ _ (if (((bP items.size 0 lo:Nat):Int) == 0 && (1:Int) == 1 && (bP items.size items.size hi - bP items.size 0 lo) == items.size)=true then _ else _) _ _ s
 rw [if_pos hno]
 refine wpAny_bind ?_
 unfold Builtin.Tuple.tupleIsExact
 refine wpAny_bind (wpAny_typeOf ht.typeIs (wpAny_pure ?_))
 rw [if_pos (by decide)]
 refine wpAny_bind (wpAny_rule ?_)
 first
  | exact wpAny_pure ⟨_,rfl,wpAny_pure h⟩
  | exact wpAny_bind (wpAny_pure (wpAny_pure ⟨_,rfl,wpAny_pure h⟩))
  | exact wpAny_pure (wpAny_pure ⟨_,rfl,wpAny_pure h⟩)
end
end HT
namespace L2
open PySem PySem.Spec PyProof.Rows
section
variable {X:Cx}
def zm (K:PySem.W.Frag):V->Option Int->Option Int->Hp->VK->Prop:=fun x lo hi H Q=>∃ a xs,x=.ref a/\ay K H a xs /\
 ((HT.bP xs.length 0 lo=0/\HT.bP xs.length xs.length hi=xs.length)->Q (.ref a) H)/\(¬ (HT.bP xs.length 0 lo=0/\HT.bP xs.length xs.length hi=xs.length)->∀ p,H p=none->Q (.ref p) (upd H p (.tup (me xs lo hi))))
theorem xq:yl X (zm X.K):=by
 intro pins s σ H x v vl vu lo hi sl Q I rx hs pl pu h
 obtain⟨a,xs,rfl,hx,q1,q2⟩:=h
 by_cases hw:HT.bP xs.length 0 lo=0/\HT.bP xs.length xs.length hi=xs.length
 ·cases rx
  obtain⟨its,r,ht,hz⟩:=I.tuple hx
  have hlen:its.toArray.size=xs.length:=by rw [List.size_toArray];exact r.length.symm
  refine⟨"tuple",_,PyProof.Rows.slot_tuple_getitem.lookup,ht.typeIs,?_⟩
  exact HT.lL ht hs pl pu (by rw [hlen];exact hw) ⟨.ref a,H,I,rfl,q1 hw⟩
 ·exact ym pins s σ H (.ref a) v vl vu lo hi sl Q I rx hs pl pu ⟨a,xs,rfl,hx,hw,q2 hw⟩
end
theorem jx {P:Program} {w:World} {x:Str} {v:Value} (h:(aL P w).is (Sum.inr x) v=true):∃ t,v=.str x t:=by
 cases v with
 | str y t =>
  have:y=x:=by simpa [aL,ij,Value.isStrOf] using h
  exact⟨t,by rw [this]⟩
 | _=>simp [aL,ij,Value.isStrOf] at h
theorem m6:∀ {vs:List Value} {ks:List Str},vs.length=ks.length->(∀ (j:Nat) (v:Value) (x:Str),vs[j]? = some v->ks[j]? = some x->∃ t,v=.str x t)->StrsAre vs ks
 | [],[],_,_=>.nil
 | v :: vs,x :: ks,hl,h=>by
  obtain⟨t,rfl⟩:=h 0 v x rfl rfl
  exact .cons x t (m6 (by simpa using hl) fun j v' x' h1 h2=>h (j+1) v' x' (by simpa using h1) (by simpa using h2))
 | [],_ :: _,hl,_=>by simp at hl
 | _ :: _,[],hl,_=>by simp at hl
section
variable {prog:Program} {w:World} {A:Around} {E:Value->Shared->Prop} {s:Shared}
open PySem.Calls PySem.W in
theorem gather {T:String} {r d:Addr} {n:Nat} {P:Nat->Value->Prop} {OK:Heap->Prop} {G:List Value->Shared->Prop} (src:KdlSrc prog w T r d n P OK) (calm:A.handled=none) (ok:OK s.heap) (bL:n<=sizeLine)
  (fin:∀ (g:Heap) (tk:Nat) (got:Array Value),(∀ b o,s.heap.get? b=some o->g.get? b=some o)->ItemsOf P got n->s.heap.objs.size<=g.objs.size->G got.toList { s with heap:=g,toks:=tk }) :
  wpAny (model prog w) A (collect (.ref r)) G E s:=by
 obtain⟨lt1,lt2⟩:=src.there _ ok
 unfold collect
 refine wpAny_bind (wpAny_runValue (codeAny_builtin entry_proto_collect' ?_))
 rw [Around.under_plainId PySem.F.plain_proto_collect _]
 show wpAny _ A.in1 (newList [] >>= fun z=>again (.builtin "list.__iadd__" ⟨[z,.ref r],[]⟩)) _ _ s
 refine wpAny_bind (wpAny_newObj_type (wpAny_pure ⟨plainId_quiet PySem.F.plain_list_iadd _,codeAny_builtin entry_list_iadd' ?_⟩))
 rw [Around.under_plainId PySem.F.plain_list_iadd _]
 show wpAny _ A.in1 (Builtin.List.listExtendWith (.ref s.heap.objs.size) (.ref r) (.ref s.heap.objs.size)) _ _ _
 have made:(s.heap.push { cls:=.type "list",data:=.seq ([]:List Value).toArray }).get? s.heap.objs.size=some { cls:=.type "list",data:=.seq #[] }:=Heap.get?_push_size _ rfl
 have run:=kdl_extend (A:=A) (s:={ s with heap:=s.heap.push { cls:=.type "list",data:=.seq ([]:List Value).toArray } })
  (R:=fun (z:Result) (t:Shared)=>∃ (g:Heap) (tk:Nat) (got:Array Value) (c:Nat),z=.ok (.ret (.ref s.heap.objs.size))/\t = { s with heap:=g,toks:=tk } /\
   (∀ b o,s.heap.get? b=some o->g.get? b=some o)/\g.get? s.heap.objs.size=some { cls:=.type "list",dict:=none,data:=.seq got c,slots:=#[] }/\ItemsOf P got n)
  src calm (src.keep _ _ ok fun b _ o e=>Heap.get?_push_of_some _ e) s.heap.objs.size (Nat.ne_of_gt lt1) (Nat.ne_of_gt lt2) (.ref s.heap.objs.size) 0 made
  (fun g tk got c kept at_ its=>⟨g,tk,got,c,rfl,rfl,fun b o e=>kept b o (Nat.ne_of_lt (Heap.lt_size e)) (Heap.get?_push_of_some _ e),at_,its⟩) bL
 refine wpAny_mono run (fun z t x=>?_) fun z t ⟨_,_,_,_,bad,_⟩=>by cases bad
 cases z with
 | done f =>
  obtain⟨g,tk,got,c,e,rfl,kept,at_,its⟩:=x
  cases e
  show wpAny _ A (load s.heap.objs.size >>= _) _ _ _
  exact wpAny_bind (wpAny_load at_ (wpAny_pure (fin g tk got kept its (Nat.le_of_lt (Heap.lt_size at_)))))
 | again more =>
  refine⟨x.1,codeAny_mono x.2 fun z' t' ⟨g,tk,got,c,e1,e2,kept,at_,its⟩=>?_⟩
  subst e1 e2
  show wpAny _ A (load s.heap.objs.size >>= _) _ _ _
  exact wpAny_bind (wpAny_load at_ (wpAny_pure (fin g tk got kept its (Nat.le_of_lt (Heap.lt_size at_)))))
theorem p8 {a:Addr} {kvs:List (Key × Value)} {ks:List Str} {Q:Value->Shared->Prop} (hh:A.handled=none) (lo:(a == sysModules)=false) (dd:s.heap.DictOf (aL prog w) a kvs)
  (hk:kvs.map (·.1)=ks.map Sum.inr) (h64:ks.length < 64)
  (h:∀ (h':Heap) (tk:Nat) (D:Addr) (out:Array Value) (ss':List Str) (e:Nat),(∀ b o,s.heap.get? b=some o->h'.get? b=some o)->s.heap.objs.size<=D->h'.get? D=some { cls:=.type "list",data:=.seq out e } ->
   StrsAre out.toList ss'->ss'.Perm ks->sortedS ss' = true->Q (.ref D) { s with heap:=h',toks:=tk }) :
  wpAny (model prog w) A (call (.builtin "sorted") [.ref a]) Q E s:=by
 refine Calls.call_function_entry kind_sorted plain_sorted entry_sorted (args_sorted1 _) ?_
 unfold Builtin.«sorted»
 refine wpAny_bind (m:=checkCount "sorted" 1 1 _) (wpAny_pure ?_)
 obtain⟨ep,hat⟩:=dd.dictAt
 have hlk:kvs.length=ks.length:=by have:=congrArg List.length hk;simpa using this
 have hs:sizeLine=16777216\/64<=sizeLine:=.inr (by decide)
 have hz:kvs.length<=sizeLine:=by rw [hlk];exact Nat.le_trans (Nat.le_of_lt h64) (by decide)
 refine wpAny_bind (gather (A:=A.in1) (PySem.W.kdl_dict (knd:=aL prog w) (kvs:=kvs) (ep:=ep) lo) hh hat hz fun h' tk acc hkeep hacc hsz=>?_)
 have hl:acc.toList.length=ks.length:=by rw [Array.length_toList,hacc.1,hlk]
 have hS:StrsAre acc.toList ks:=m6 hl fun j v x h1 h2=>by
  obtain⟨k,y,e1,e2⟩:=hacc.2 j v (by rw [<-Array.getElem?_toList];exact h1)
  have e3:(kvs.map (·.1))[j]? = some k:=by rw [List.getElem?_map,e1];rfl
  rw [hk,List.getElem?_map,h2] at e3
  cases (Option.some.inj e3)
  exact jx e2
 refine wpAny_bind (wpAny_newList ?_ (by rw [hl];exact Nat.le_trans (Nat.le_of_lt h64) (by decide)))
 have hoL:(h'.push (seqObj "list" acc.toList.toArray 0)).get? h'.objs.size=some (seqObj "list" acc.toList.toArray 0):=Heap.get?_push_size _ rfl
 refine wpAny_bind (wpAny_holding (wpAny_call_entry slot_list_sort ⟨_,hoL,rfl⟩ entry_list_sort (list_sort_treeK strKind_oneLt hoL hS.keysOf (fun v₁ v₂ rest e=>keyKind_strs (by rw [<-e];exact hS)) (by rw [hl];exact h64) fun st' a1 a2=>⟨_,rfl,?_⟩) (args_list_sort _)))
 obtain⟨ss',b1,b2,b3⟩:=sorted_out_str hS a1 a2
 obtain⟨e,he⟩:=sortedHeap_at (out:=(arrOf st').map (·.2)) hoL
 refine wpAny_pure ⟨_,rfl,h _ tk _ _ ss' e (fun b o ho=>?_) hsz he b1 b2 b3⟩
 have h1:=hkeep b o ho
 have hlt:=Heap.lt_size h1
 rw [sortedHeap_old (Nat.ne_of_lt hlt) (by rw [size_push'];exact Nat.lt_succ_of_lt hlt)]
 exact Heap.get?_push_of_some _ h1
end
theorem nK:∀ {us:List Value} {ys:List Str},StrsAre us ys->Vals (ys.map V.str) us
 | _,_,.nil=>.nil
 | _,_,.cons x t r=>.cons ⟨t,rfl⟩ (nK r)
section
variable {X:Cx}
theorem ja (hc:X.calm=true):d9 X (.builtin "sorted") (fun vs H Q=>∃ (a:Addr) (kvs:List (Key × V)) (ks:List Str),vs = [.ref a]/\H a=some (.dK kvs)/\kvs.map (·.1)=ks.map Sum.inr/\ks.length < 64 /\
  ∀ (l:Addr) (ss:List Str),ss.Perm ks->sortedS ss=true->H l=none->Q (.ref l) (upd H l (.lst (ss.map V.str)))):=by
 intro pins s σ H xs us Q I r h
 obtain⟨a,kvs,ks,rfl,ha,hk,h64,q⟩:=h
 obtain⟨u,rfl,ru⟩:=vals1 r
 cases (show u=Value.ref a from ru)
 obtain⟨z,hd,vs,rel,dd⟩:=jj I.aG ha
 refine p8 (I.ok.hd hc) hd dd (by rw [<-rel.keys];exact hk) h64 fun h' tk D out ss' e hkeep hD he hS hp hs=>?_
 have hv:Vals (ss'.map V.str) out.toList:=nK hS
 refine⟨.ref D,_,I.laid (t':=tk) (o:=.lst (ss'.map V.str)) hkeep hD (show bS X.prog X.w _ h' _ (.lst (ss'.map V.str)) from ⟨?_,out.toList,e,hv,by simpa using he⟩),rfl,q D ss' hp hs (I.aG.fresh hD)⟩
 rw [List.length_map,hp.length_eq]
 exact Nat.le_trans (Nat.le_of_lt h64) (by decide)
end
theorem mi {kvs:List (Key × V)} {k:Key} {v:V} (nd:(kvs.map (·.1)).Nodup) (h:(k,v) ∈ kvs):bG kvs k=some v:=by
 induction kvs with
 | nil=>cases h
 | cons p r ih =>
  obtain⟨k',v'⟩:=p
  rw [List.map_cons,List.nodup_cons] at nd
  rcases List.mem_cons.mp h with e | h
  ·cases e
   simp [bG]
  ·have hne:¬ k' = k:=fun z=>nd.1 (by rw [z];exact List.mem_map.mpr ⟨(k,v),h,rfl⟩)
   have:=ih nd.2 h
   simp [bG,hne] at this ⊢
   exact this
section
variable {X:Cx}
end
theorem sub_len {α : Type} [DecidableEq α]:∀ {l m:List α},l.Nodup->(∀ x ∈ l,x ∈ m)->l.length<=m.length
 | [],_,_,_=>Nat.zero_le _
 | x :: l,m,nd,h=>by
  rw [List.nodup_cons] at nd
  have hx:=h x (List.mem_cons_self ..)
  have h1:=sub_len (l:=l) (m:=m.erase x) nd.2 fun y hy=>(List.mem_erase_of_ne (fun z=>nd.1 (by rw [<-z];exact hy))).mpr (h y (List.mem_cons_of_mem _ hy))
  rw [List.length_erase_of_mem hx] at h1
  have h2:0 < m.length:=List.length_pos_of_mem hx
  show l.length+1<=m.length
  omega
theorem jm:bootBuiltins "sorted" = some (.builtin "sorted"):=PyProof.Rows.boot_sorted
theorem ky {kvs:List (Key × V)} {k:Key} {v:V}:(putK kvs k v).map (·.1)=kvs.map (·.1)/\k ∈ kvs.map (·.1)\/(putK kvs k v).map (·.1)=kvs.map (·.1) ++ [k]/\¬ k ∈ kvs.map (·.1):=by
 unfold putK
 by_cases h:(kvs.any fun kv=>decide (kv.1=k))=true
 ·rw [if_pos h]
  refine .inl ⟨?_,?_⟩
  ·rw [List.map_map]
   refine List.map_congr_left fun p _=>?_
   show (if p.1=k then (p.1,v) else p).1=p.1
   split <;> rfl
  ·obtain⟨p,hp,he⟩:=List.any_eq_true.mp h
   exact List.mem_map.mpr ⟨p,hp,of_decide_eq_true he⟩
 ·rw [if_neg h]
  refine .inr ⟨by rw [List.map_append];rfl,fun hm=>h ?_⟩
  obtain⟨p,hp,he⟩:=List.mem_map.mp hm
  exact List.any_eq_true.mpr ⟨p,hp,decide_eq_true he⟩
def ef:cx->Str
 | .put x _=>x
 | .copy x _=>x
 | .add x _=>x
 | .read x=>x
 | .tell x=>x
theorem p9 (dd:cx):fU (ll dd) 1=some (.str (ef dd)):=by cases dd <;> exact cG
theorem eB.name {xs:List Str} {dd:cx} (h:eB xs dd):ef dd ∈ xs:=by
 cases dd with
 | put x n=>exact h.1
 | copy x y=>exact h.1
 | add x n=>exact h.1
 | read x=>exact h
 | tell x=>exact h
theorem cK.put {H:Hp} {b p:Addr} {o:HO} (h:cK H b) (n:b ≠ p):cK (upd H p o) b:=by
 obtain⟨x,y,e,z⟩:=h
 exact⟨x,y,by rw [au n];exact e,z⟩
section
variable {X:Cx}
end
section
variable {a0 a1 z:V}
end
section
variable {C D:Addr} {H H':Hp} {wp p pl d nl sl:Addr} {plv:V} {nums:List Int} {S:RS} {m:Nat}
end
section
variable (C D:Addr)
end
section
variable {C D:Addr} {H H':Hp} {wp p pl d nl sl st d2 tl bl np:Addr} {plv:V} {nums nums':List Int} {S S':RS} {m m':Nat}
end
section
variable (C D:Addr)
end
section
variable {C D:Addr} {H0 H H1 H2:Hp} {wp p pl d nl sl st st' d2 tl bl np b:Addr} {plv:V} {nums more:List Int} {S S':RS} {m m':Nat}
end
section
variable {X:Cx}
end
section
variable {ps:List Piece} {nums more:List Int} {S S0:RS} {m n:Nat}
end
section
variable {ps:List Piece} {nums more:List Int} {S:RS} {m n:Nat}
end
inductive Call where
 | hand (ns:List Int)
 | go (n:Nat)
structure yG where
 S:RS
 nums:List Int
 m:Nat
structure WA where
 wp:Addr
 p:Addr
 pl:Addr
 d:Addr
 nl:Addr
 sl:Addr
section
variable {C D:Addr} {H H' H0:Hp} {x y:WA} {pv pv':V} {s s':yG} {c:Addr} {o:HO}
end
section
variable (C D:Addr)
end
section
variable {C D:Addr} {H0 H H1:Hp} {w0 w1 w2:WA} {wl cl nb:Addr} {plv ov:V} {x0 x1 x2 x':yG} {n0 n1 n':List Int} {vs:List V} {cs:List Call}
end
section
variable {prog:Program} {w:World} {A:Around} {E:Value->Shared->Prop} {s:Shared}
theorem qc {j t:Addr} {n:Nat} {its:Array Value} {x:Value} {Q:Value->Shared->Prop} (hj:s.heap.IsTupleIter j t n) (ht:s.heap.IsTuple t its) (hx:its[n]? = some x)
  (hQ:∀ g,g.IsTupleIter j t (n+1)->Heap.SameBut j s.heap g->Q x { s with heap:=g }):wpAny (model prog w) A (Builtin.SmallTypes.nextOf (.ref j)) Q E s:=by
 obtain⟨ob,eo,ec,ed⟩:=id hj
 obtain⟨ot,et,_,k,ek⟩:=ht
 unfold Builtin.SmallTypes.nextOf
 refine wpAny_bind (wpAny_callSpecial?_slot (name:=Str.ofString "__next__") hj.typeIs F.slot_tuple_iterator_next (wpAny_call_entry F.slot_tuple_iterator_next hj.typeIs F.entry_tuple_iterator_next ?_ (F.args_tuple_iterator_next_1 _)))
 show wpAny _ _ (field (.ref j) 0 >>= _) _ _ s
 refine wpAny_bind (wpAny_field eo ed (x:=.ref t) rfl ?_)
 show wpAny _ _ (if (Value.ref t == Value.none)=true then _ else _) _ _ s
 refine (if_neg (c:=(Value.ref t == Value.none)=true) Bool.false_ne_true) ▸ ?_
 show wpAny _ _ (field (.ref j) 1 >>= _) _ _ s
 refine wpAny_bind (wpAny_field eo ed (x:=.int n 0) rfl (wpAny_bind (wpAny_seqItems et ek ?_)))
 simp only [hx,Int.toNat_natCast]
 refine wpAny_bind (wpAny_setField eo ed (by simp) (wpAny_pure ⟨x,rfl,wpAny_pure (hQ _ ⟨_,Heap.get?_update_self _ eo (Obj.isFreed_of_fields (Obj.data_mapFields ed _)),(Obj.cls_mapFields ..).trans ec,?_⟩ (Heap.SameBut.update ..))⟩))
 rw [Obj.data_mapFields ed];simp [rawInt]
theorem rP {j t:Addr} {n:Nat} {its:Array Value} {Q:Value->Shared->Prop} (ha:A.handled=none) (hj:s.heap.IsTupleIter j t n) (ht:s.heap.IsTuple t its) (hx:its[n]? = none)
    (hE:∀ g e,Heap.ExtBut j s.heap g->(∃ o,g.get? e=some o/\o.cls=.type "StopIteration")->E (.ref e) { s with heap:=g }):wpAny (model prog w) A (Builtin.SmallTypes.nextOf (.ref j)) Q E s:=by
  obtain⟨ob,eo,ec,ed⟩:=id hj
  obtain⟨ot,et,_,k,ek⟩:=ht
  unfold Builtin.SmallTypes.nextOf
  refine wpAny_bind (wpAny_callSpecial?_slot (name:=Str.ofString "__next__") hj.typeIs F.slot_tuple_iterator_next (wpAny_call_entry F.slot_tuple_iterator_next hj.typeIs F.entry_tuple_iterator_next ?_ (F.args_tuple_iterator_next_1 _)))
  show wpAny _ _ (field (.ref j) 0 >>= _) _ _ s
  refine wpAny_bind (wpAny_field eo ed (x:=.ref t) rfl ?_)
  show wpAny _ _ (if (Value.ref t == Value.none)=true then _ else _) _ _ s
  refine (if_neg (c:=(Value.ref t == Value.none)=true) Bool.false_ne_true) ▸ ?_
  show wpAny _ _ (field (.ref j) 1 >>= _) _ _ s
  refine wpAny_bind (wpAny_field eo ed (x:=.int n 0) rfl (wpAny_bind (wpAny_seqItems et ek ?_)))
  simp only [hx,Int.toNat_natCast]
  refine wpAny_bind (wpAny_rule (wpAny_bind (wpAny_setField eo ed (by simp) ?_)))
  show wpAny _ _ (newExc (.type "StopIteration") [] >>= fun _=>_) _ _ _
  refine wpAny_bind ?_
  simp only [newTuple,newExc]
  refine wpAny_bind (wpAny_newObj_type (wpAny_bind (m:=firstArgMember _ _) (wpAny_of_eq (a:=Value.none) (by first | rfl | (simp only [firstArgMember];rfl)) (wpAny_newObj_type ?_ (by size_fits)))) (by size_fits))
  simp only [raiseNew]
  refine wpAny_bind (wpAny_handled (by
    first | rw [show A.in1.handled=none from ha] | rw [ha]
    exact wpAny_bind (wpAny_pure (wpAny_throw (hE _ _ (((Heap.SameBut.update ..).extBut.push _).push _) ⟨_,Heap.get?_push_size _ rfl,rfl⟩)))))
structure rQ (z p q j k a b:Addr):Prop where
 pz:p ≠ z
 qz:q ≠ z
 jz:j ≠ z
 kz:k ≠ z
 pq:p ≠ q
 pj:p ≠ j
 pk:p ≠ k
 qj:q ≠ j
 qk:q ≠ k
 jk:j ≠ k
 az:a ≠ z
 aq:a ≠ q
 aj:a ≠ j
 ak:a ≠ k
 bz:b ≠ z
 bq:b ≠ q
 bj:b ≠ j
 bk:b ≠ k
theorem iS {h g:Heap} {a:Addr} {xs:Array Value} (x:h.IsTuple a xs) (k:∀ o,h.get? a=some o->g.get? a=some o):g.IsTuple a xs:=by
 obtain⟨o,e,r⟩:=x
 exact⟨o,k o e,r⟩
theorem xr {z p q j k a b:Addr} {m n:Nat} {xs ys:Array Value} {x y u v:Value} {Q:Value->Shared->Prop} (D:rQ z p q j k a b)
  (gz:IsZip s.heap z p q .none) (gp:IsPair s.heap p (.ref j) (.ref k)) (gq:IsPair s.heap q u v)
  (gj:s.heap.IsTupleIter j a m) (gk:s.heap.IsTupleIter k b n) (ga:s.heap.IsTuple a xs) (gb:s.heap.IsTuple b ys) (hx:xs[m]? = some x) (hy:ys[n]? = some y)
  (hQ:∀ g,IsZip g z p q (rawInt s.heap.objs.size)->IsPair g q x y->g.IsTupleIter j a (m+1)->g.IsTupleIter k b (n+1)->IsPair g s.heap.objs.size x y->g.objs.size=s.heap.objs.size+1 ->
   (∀ c o,c ≠ z->c ≠ q->c ≠ j->c ≠ k->s.heap.get? c=some o->g.get? c=some o)->Q (.ref s.heap.objs.size) { s with heap:=g }) :
  wpAny (model prog w) A (Builtin.«zip.__next__» ⟨[.ref z],[]⟩) (fun fin s'=>∃ v,fin=.done (.ret v)/\Q v s') E s:=by
 show wpAny _ _ (field (.ref z) 2 >>= fun _=>_) _ _ _
 refine wpAny_bind (wpAny_field gz rfl (x:=.bool false) rfl ?_)
 show wpAny _ _ (field (.ref z) 3 >>= fun _=>_) _ _ _
 refine wpAny_bind (wpAny_field gz rfl (x:=.ref p) rfl (wpAny_bind (wpAny_seqItems gp rfl ?_)))
 show wpAny _ _ (Builtin.SmallTypes.ownedTupleIsFree (.ref z) >>= fun _=>_) _ _ _
 refine wpAny_bind ?_
 unfold Builtin.SmallTypes.ownedTupleIsFree
 refine wpAny_bind (wpAny_field gz rfl (x:=.none) rfl (wpAny_pure ?_))
 simp only [if_true]
 refine wpAny_bind (wpAny_rule (wpAny_bind (wpAny_field gz rfl (x:=.ref q) rfl (wpAny_bind (wpAny_setField_rec gz (by simp) fun g1 gz1 t1=>?_)))))
 replace gz1:IsZip g1 z p q .ellipsis:=gz1
 refine wpAny_bind ?_
 simp only [List.forIn_cons,List.forIn_nil,List.zipIdx_cons,List.zipIdx_nil]
 refine wpAny_bind (wpAny_bind (wpAny_onRaise ?_))
 show wpAny _ _ (Builtin.SmallTypes.nextOf (.ref j) >>= fun _=>_) _ _ _
 refine wpAny_bind (qc (gj.extBut t1.extBut D.jz) (iS ga fun o e=>t1.extBut _ _ D.az e) hx fun g2 gj2 t2=>wpAny_pure ?_)
 have gq2:IsPair g2 q u v:=t2.extBut _ _ D.qj (t1.extBut _ _ D.qz gq)
 refine wpAny_bind (wpAny_seqItems gq2 rfl (wpAny_bind (wpAny_updateSeq_pair gq2 fun g3 gq3 t3=>?_)))
 replace gq3:IsPair g3 q x v:=gq3
 refine wpAny_bind (wpAny_letGo (wpAny_pure (wpAny_bind (wpAny_bind (wpAny_onRaise ?_)))))
 show wpAny _ _ (Builtin.SmallTypes.nextOf (.ref k) >>= fun _=>_) _ _ _
 refine wpAny_bind (qc (((gk.extBut t1.extBut D.kz).extBut t2.extBut D.jk.symm).extBut t3.extBut D.qk.symm) (iS gb fun o e=>t3.extBut _ _ D.bq (t2.extBut _ _ D.bj (t1.extBut _ _ D.bz e))) hy fun g4 gk4 t4=>wpAny_pure ?_)
 have gq4:IsPair g4 q x v:=t4.extBut _ _ D.qk gq3
 refine wpAny_bind (wpAny_seqItems gq4 rfl (wpAny_bind (wpAny_updateSeq_pair gq4 fun g5 gq5 t5=>?_)))
 replace gq5:IsPair g5 q x y:=gq5
 refine wpAny_bind (wpAny_letGo (wpAny_pure (wpAny_pure (wpAny_bind (wpAny_seqItems gq5 rfl (wpAny_bind (wpAny_newTuple ?_)))))))
 have ez:g5.objs.size=s.heap.objs.size:=by rw [t5.1,t4.1,t3.1,t2.1,t1.1]
 have gz5:IsZip g5 z p q .ellipsis:=t5.extBut _ _ D.qz.symm (t4.extBut _ _ D.kz.symm (t3.extBut _ _ D.qz.symm (t2.extBut _ _ D.jz.symm gz1)))
 have k5:∀ c o,c ≠ z->c ≠ q->c ≠ j->c ≠ k->s.heap.get? c=some o->g5.get? c=some o:=fun c o c1 c2 c3 c4 e=>t5.extBut _ _ c2 (t4.extBut _ _ c4 (t3.extBut _ _ c2 (t2.extBut _ _ c3 (t1.extBut _ _ c1 e))))
 have gj5:g5.IsTupleIter j a (m+1):=((gj2.extBut t3.extBut D.qj.symm).extBut t4.extBut D.jk).extBut t5.extBut D.qj.symm
 have gk5:g5.IsTupleIter k b (n+1):=gk4.extBut t5.extBut D.qk.symm
 have lz:z < g5.objs.size:=Heap.lt_size gz5
 show wpAny _ _ (Builtin.SmallTypes.ownedTupleHandOut (.ref z) (.ref g5.objs.size) >>= fun _=>_) _ _ _
 refine wpAny_bind ?_
 unfold Builtin.SmallTypes.ownedTupleHandOut
 have gz6:IsZip (g5.push { cls:=.type "tuple",data:=.seq #[x,y] }) z p q .ellipsis:=Heap.get?_push_of_some _ gz5
 refine wpAny_bind (wpAny_setField_rec gz6 (by simp) fun g7 gz7 t7=>?_)
 replace gz7:IsZip g7 z p q (rawInt g5.objs.size):=gz7
 refine wpAny_setField_rec gz7 (by simp) fun g8 gz8 t8=>?_
 replace gz8:IsZip g8 z p q (rawInt g5.objs.size):=gz8
 have up:∀ c o,c ≠ z->g5.get? c=some o->g8.get? c=some o:=fun c o c1 e=>t8.extBut _ _ c1 (t7.extBut _ _ c1 (Heap.get?_push_of_some _ e))
 have gT:IsPair g8 g5.objs.size x y:=t8.extBut _ _ (Nat.ne_of_gt lz) (t7.extBut _ _ (Nat.ne_of_gt lz) (Heap.get?_push_size _ rfl))
 have e8:g8.objs.size=g5.objs.size+1:=by rw [t8.1,t7.1,Heap.size_push]
 rw [ez] at gz8 gT e8
 refine wpAny_pure ⟨_,rfl,?_⟩
 show Q (.ref g5.objs.size) _
 rw [ez]
 refine hQ g8 gz8 (up _ _ D.qz gq5) ?_ ?_ gT e8 fun c o c1 c2 c3 c4 e=>up c o c1 (k5 c o c1 c2 c3 c4 e)
 ·obtain⟨o,e,r⟩:=gj5
  exact⟨o,up _ _ D.jz e,r⟩
 ·obtain⟨o,e,r⟩:=gk5
  exact⟨o,up _ _ D.kz e,r⟩
theorem yH {z p q j k a b:Addr} {m n:Nat} {xs ys:Array Value} {u v:Value} {Q:Fin->Shared->Prop} (ha:A.handled=none) (D:rQ z p q j k a b)
  (gz:IsZip s.heap z p q .none) (gp:IsPair s.heap p (.ref j) (.ref k)) (gq:IsPair s.heap q u v)
  (gj:s.heap.IsTupleIter j a m) (gk:s.heap.IsTupleIter k b n) (ga:s.heap.IsTuple a xs) (gb:s.heap.IsTuple b ys) (hend:xs[m]? = none\/ys[n]? = none)
  (hE:∀ g e,(∀ c o,c ≠ z->c ≠ q->c ≠ j->c ≠ k->s.heap.get? c=some o->g.get? c=some o)->(∃ o,g.get? e=some o/\o.cls=.type "StopIteration")->E (.ref e) { s with heap:=g }) :
  wpAny (model prog w) A (Builtin.«zip.__next__» ⟨[.ref z],[]⟩) Q E s:=by
 show wpAny _ _ (field (.ref z) 2 >>= fun _=>_) _ _ _
 refine wpAny_bind (wpAny_field gz rfl (x:=.bool false) rfl ?_)
 show wpAny _ _ (field (.ref z) 3 >>= fun _=>_) _ _ _
 refine wpAny_bind (wpAny_field gz rfl (x:=.ref p) rfl (wpAny_bind (wpAny_seqItems gp rfl ?_)))
 show wpAny _ _ (Builtin.SmallTypes.ownedTupleIsFree (.ref z) >>= fun _=>_) _ _ _
 refine wpAny_bind ?_
 unfold Builtin.SmallTypes.ownedTupleIsFree
 refine wpAny_bind (wpAny_field gz rfl (x:=.none) rfl (wpAny_pure ?_))
 simp only [if_true]
 refine wpAny_bind (wpAny_rule (wpAny_bind (wpAny_field gz rfl (x:=.ref q) rfl (wpAny_bind (wpAny_setField_rec gz (by simp) fun g1 gz1 t1=>?_)))))
 replace gz1:IsZip g1 z p q .ellipsis:=gz1
 refine wpAny_bind ?_
 simp only [List.forIn_cons,List.forIn_nil,List.zipIdx_cons,List.zipIdx_nil]
 refine wpAny_bind (wpAny_bind (wpAny_onRaise ?_))
 show wpAny _ _ (Builtin.SmallTypes.nextOf (.ref j) >>= fun _=>_) _ _ _
 cases hx:xs[m]? with
 | none =>
  refine wpAny_bind (rP ha (gj.extBut t1.extBut D.jz) (iS ga fun o e=>t1.extBut _ _ D.az e) hx fun g2 e t2 he=>?_)
  obtain⟨oe,eoe,ce⟩:=he
  have gz2:IsZip g2 z p q .ellipsis:=t2 _ _ D.jz.symm gz1
  have ne:e ≠ z:=fun x=>by subst x;rw [gz2] at eoe;cases eoe;simp at ce
  exact wpAny_setField_rec gz2 (by simp) fun g3 _ t3=>hE g3 e (fun c o c1 _ c3 _ x=>t3.extBut _ _ c1 (t2 _ _ c3 (t1.extBut _ _ c1 x))) ⟨oe,t3.extBut _ _ ne eoe,ce⟩
 | some x =>
  have hy:ys[n]? = none:=hend.elim (fun h=>by rw [hx] at h;cases h) id
  refine wpAny_bind (qc (gj.extBut t1.extBut D.jz) (iS ga fun o e=>t1.extBut _ _ D.az e) hx fun g2 gj2 t2=>wpAny_pure ?_)
  have gq2:IsPair g2 q u v:=t2.extBut _ _ D.qj (t1.extBut _ _ D.qz gq)
  refine wpAny_bind (wpAny_seqItems gq2 rfl (wpAny_bind (wpAny_updateSeq_pair gq2 fun g3 gq3 t3=>?_)))
  refine wpAny_bind (wpAny_letGo (wpAny_pure (wpAny_bind (wpAny_bind (wpAny_onRaise ?_)))))
  show wpAny _ _ (Builtin.SmallTypes.nextOf (.ref k) >>= fun _=>_) _ _ _
  refine wpAny_bind (rP ha (((gk.extBut t1.extBut D.kz).extBut t2.extBut D.jk.symm).extBut t3.extBut D.qk.symm) (iS gb fun o e=>t3.extBut _ _ D.bq (t2.extBut _ _ D.bj (t1.extBut _ _ D.bz e))) hy fun g4 e t4 he=>?_)
  obtain⟨oe,eoe,ce⟩:=he
  have gz4:IsZip g4 z p q .ellipsis:=t4 _ _ D.kz.symm (t3.extBut _ _ D.qz.symm (t2.extBut _ _ D.jz.symm gz1))
  have ne:e ≠ z:=fun x=>by subst x;rw [gz4] at eoe;cases eoe;simp at ce
  exact wpAny_setField_rec gz4 (by simp) fun g5 _ t5=>hE g5 e (fun c o c1 c2 c3 c4 x=>t5.extBut _ _ c1 (t4 _ _ c4 (t3.extBut _ _ c2 (t2.extBut _ _ c3 (t1.extBut _ _ c1 x))))) ⟨oe,t5.extBut _ _ ne eoe,ce⟩
theorem xt {z p q j k a b:Addr} {m n:Nat} {xs ys:Array Value} {x y u v:Value} {Q:Option Value->Shared->Prop} (D:rQ z p q j k a b)
  (gz:IsZip s.heap z p q .none) (gp:IsPair s.heap p (.ref j) (.ref k)) (gq:IsPair s.heap q u v)
  (gj:s.heap.IsTupleIter j a m) (gk:s.heap.IsTupleIter k b n) (ga:s.heap.IsTuple a xs) (gb:s.heap.IsTuple b ys) (hx:xs[m]? = some x) (hy:ys[n]? = some y)
  (hQ:∀ g,IsZip g z p q (rawInt s.heap.objs.size)->IsPair g q x y->g.IsTupleIter j a (m+1)->g.IsTupleIter k b (n+1)->IsPair g s.heap.objs.size x y->g.objs.size=s.heap.objs.size+1 ->
   (∀ c o,c ≠ z->c ≠ q->c ≠ j->c ≠ k->s.heap.get? c=some o->g.get? c=some o)->Q (some (.ref s.heap.objs.size)) { s with heap:=g }) :
  wpAny (model prog w) A (pyNext (.ref z)) Q E s:=by
 have ty:s.TypeIs (.ref z) "zip" := ⟨_,gz,rfl⟩
 unfold pyNext
 exact wpAny_bind (wpAny_attempt (wpAny_callSpecial?_slot (name:=Str.ofString "__next__") ty F.slot_zip_next (wpAny_call_entry F.slot_zip_next ty F.entry_zip_next
   (xr D gz gp gq gj gk ga gb hx hy fun g a1 a2 a3 a4 a5 a6 a7=>wpAny_pure (hQ g a1 a2 a3 a4 a5 a6 a7)) (F.args_zip_next_1 _))))
theorem xu {z p q j k a b:Addr} {m n:Nat} {xs ys:Array Value} {u v:Value} {Q:Option Value->Shared->Prop} (ha:A.handled=none) (D:rQ z p q j k a b)
  (gz:IsZip s.heap z p q .none) (gp:IsPair s.heap p (.ref j) (.ref k)) (gq:IsPair s.heap q u v)
  (gj:s.heap.IsTupleIter j a m) (gk:s.heap.IsTupleIter k b n) (ga:s.heap.IsTuple a xs) (gb:s.heap.IsTuple b ys) (hend:xs[m]? = none\/ys[n]? = none)
  (hQ:∀ g,(∀ c o,c ≠ z->c ≠ q->c ≠ j->c ≠ k->s.heap.get? c=some o->g.get? c=some o)->Q none { s with heap:=g }):wpAny (model prog w) A (pyNext (.ref z)) Q E s:=by
 have ty:s.TypeIs (.ref z) "zip" := ⟨_,gz,rfl⟩
 unfold pyNext
 refine wpAny_bind (wpAny_attempt (wpAny_callSpecial?_slot (name:=Str.ofString "__next__") ty F.slot_zip_next (wpAny_call_entry F.slot_zip_next ty F.entry_zip_next
   (yH ha D gz gp gq gj gk ga gb hend fun g e hk he=>?_) (F.args_zip_next_1 _))))
 obtain⟨o,eo,ec⟩:=he
 exact wpAny_bind (wpAny_isInstance (T := "StopIteration") (b:=true) ⟨o,eo,ec⟩ isSubtype_stop (wpAny_pure (hQ _ hk)))
abbrev ug (h:Heap) (a:Addr):Heap:=h.push { cls:=.type "tuple_iterator",data:=.fields #[.ref a,.int 0 0] }
abbrev wR (h:Heap) (a b:Addr):Heap:=(ug h a).push { cls:=.type "tuple_iterator",data:=.fields #[.ref b,.int 0 0] }
abbrev wU (h:Heap) (a b:Addr):Heap:=(wR h a b).push { cls:=.type "tuple",data:=.seq #[.ref h.objs.size,.ref (ug h a).objs.size] }
abbrev wV (h:Heap) (a b:Addr):Heap:=(wU h a b).push { cls:=.type "tuple",data:=.seq #[.none,.none] }
abbrev rR (h:Heap) (a b:Addr):Heap:=(wV h a b).push { cls:=.type "zip",data:=.fields #[.none,.bool false,.bool false,.ref (wR h a b).objs.size,.ref (wU h a b).objs.size] }
theorem yI (a b:Addr) (xs ys:Array Value):Meets (Builtin.«zip.__new__» ⟨[.type "zip",.ref a,.ref b],[]⟩) (fun _ R s=>s.heap.IsTuple a xs/\s.heap.IsTuple b ys /\
   R (.ok (.ret (.ref (wV s.heap a b).objs.size))) { s with heap:=rR s.heap a b }) :=
 .of_wp fun P w' A' R' s' hh=>by
  obtain⟨hp,g,d,tk,os⟩:=s'
  obtain⟨ga,gb,hh⟩:=hh
  have hsub:=sub_zip
  have la:Heap.IsTuple (Shared.heap ⟨hp,g,d,tk,os⟩) a xs:=ga
  have lb:Heap.IsTuple (Shared.heap ⟨ug hp a,g,d,tk,os⟩) b ys:=iS gb fun o e=>Heap.get?_push_of_some _ e
  wp_walk using wpAny_pyIter_tuple la,wpAny_pyIter_tuple lb
  exact⟨_,rfl,hh⟩
theorem xw {a b:Addr} {xs ys:Array Value} {Q:Value->Shared->Prop} (ga:s.heap.IsTuple a xs) (gb:s.heap.IsTuple b ys)
  (h:∀ g,IsZip g (s.heap.objs.size+4) (s.heap.objs.size+2) (s.heap.objs.size+3) .none->IsPair g (s.heap.objs.size+2) (.ref s.heap.objs.size) (.ref (s.heap.objs.size+1)) ->
   IsPair g (s.heap.objs.size+3) .none .none->g.IsTupleIter s.heap.objs.size a 0->g.IsTupleIter (s.heap.objs.size+1) b 0 ->
   (∀ c o,s.heap.get? c=some o->g.get? c=some o)->Q (.ref (s.heap.objs.size+4)) { s with heap:=g }) :
  wpAny (model prog w) A (call (.type "zip") [.ref a,.ref b]) Q E s:=by
 refine callType_new F.called_zip (by decide) (F.typeCall_zip_2 _ _) (F.newCall_zip_2 _ _) (fun obj=>F.args_object_init_3 obj _ _) F.entry_zip_new (yI a b xs ys) ⟨ga,gb,?_⟩
 have z1:(ug s.heap a).objs.size=s.heap.objs.size+1:=Heap.size_push ..
 have z2:(wR s.heap a b).objs.size=s.heap.objs.size+2:=by rw [Heap.size_push,z1]
 have z3:(wU s.heap a b).objs.size=s.heap.objs.size+3:=by rw [Heap.size_push,z2]
 have z4:(wV s.heap a b).objs.size=s.heap.objs.size+4:=by rw [Heap.size_push,z3]
 have up:∀ {h:Heap} {c:Addr} {o o':Obj},h.get? c=some o->(h.push o').get? c=some o:=fun e=>Heap.get?_push_of_some _ e
 have q5:(rR s.heap a b).get? (wV s.heap a b).objs.size=some _:=Heap.get?_push_size _ rfl
 have q4:(rR s.heap a b).get? (wU s.heap a b).objs.size=some _:=up (Heap.get?_push_size _ rfl)
 have q3:(rR s.heap a b).get? (wR s.heap a b).objs.size=some _:=up (up (Heap.get?_push_size _ rfl))
 have q2:(rR s.heap a b).get? (ug s.heap a).objs.size=some _:=up (up (up (Heap.get?_push_size _ rfl)))
 have q1:(rR s.heap a b).get? s.heap.objs.size=some _:=up (up (up (up (Heap.get?_push_size _ rfl))))
 show _/\_
 rw [z2,z3,z4] at q5
 rw [z1,z2] at q3
 rw [z3] at q4
 rw [z1] at q2
 rw [z4]
 exact⟨⟨_,q5,rfl⟩,h _ q5 q3 q4 ⟨_,q1,rfl,rfl⟩ ⟨_,q2,rfl,rfl⟩ fun c o x=>up (up (up (up (up x))))⟩
end
section
variable {X:Cx} {pins:List (Addr × Obj)} {σ : List (Option V)} {H H':Hp} {s:Shared} {h':Heap}
theorem Inv.rS {t':Nat} {fp:List Addr} (I:Inv X pins σ H s) (k:∀ b o,b ∉ fp->s.heap.get? b=some o->h'.get? b=some o) (f:∀ b ∈ fp,hJ X pins H b):Inv X pins σ H { s with heap:=h',toks:=t' }:=by
 have nit:∀ b u,H b=some u->b ∉ fp:=fun b u e z=>by rw [(f b z).1] at e;cases e
 refine I.step (g':=s.gens) (d':=s.drawn) (ch:=fp) (fun b hb=>?_) (fun b o _ _ hc e _=>k b o hc e) (fun b o _ _ hc e _=>⟨o.slots,k b o hc e⟩) (fun _ _ _ _ n=>n)
  (fun b o hc e=>⟨o,k b o hc e⟩) (fun _ _ e=>e) (fun _ _ _ e=>e) (fun b ps e=>⟨#[],by rw [e];simp⟩) (fun m hm=>?_) (fun b u e=>?_) I.bare
 ·obtain⟨f0,f1,f2,f3,f4,f5⟩:=f b hb
  exact⟨f3,f1,f4,f5⟩
 ·obtain⟨o,es,ep,ho,r⟩:=hm
  exact⟨o,es,ep,k _ o (fun z=>(f _ z).2.1 rfl) ho,r⟩
 ·refine (I.aG b u e).lY (fun c v hc q=>k c v ?_ q) (fun _ q=>q) fun _ _ q=>q
  rcases hc with z | z
  ·rw [z];exact nit b u e
  ·exact nit c _ z
def wW (K:PySem.W.Frag) (a b:Addr):It :=
 ⟨fun i H=>∃ xs ys x y,ay K H a xs/\ay K H b ys/\xs[i]? = some x/\ys[i]? = some y,
  fun i H v H'=>∃ t x y,v=.ref t/\H t=none/\H' = upd H t (.tup [x,y])/\∀ xs ys,ay K H a xs->ay K H b ys->xs[i]? = some x/\ys[i]? = some y,
  fun i H=>∃ xs ys,ay K H a xs/\ay K H b ys/\(xs.length<=i\/ys.length<=i)⟩
theorem vB {P:Program} {w:World} {K:PySem.W.Frag} {elts:List Expr} {kk:Nat} {pos:Pos} (a b z p q j k:Addr) (D:rQ z p q j k a b) :
    Turn P w K (.Tuple elts kk pos) (wW K a b) [z,p,q,j,k] z (fun i h=>IsZip h z p q .none/\IsPair h p (.ref j) (.ref k)/\(∃ u v,IsPair h q u v)/\h.IsTupleIter j a i/\h.IsTupleIter k b i) where
  mem:=by simp
  obj:=fun i h st c hc=>by
    obtain⟨gz,gp,⟨u,v,gq⟩,⟨oj,ej,cj,dj⟩,⟨ok,ek,ck,dk⟩⟩:=st
    simp only [List.mem_cons,List.not_mem_nil,or_false] at hc
    rcases hc with rfl | rfl | rfl | rfl | rfl
    · exact⟨_,gz,fun v e=>by cases e⟩
    · exact⟨_,gp,fun v e=>by cases e⟩
    · exact⟨_,gq,fun v e=>by cases e⟩
    · exact⟨oj,ej,fun v e=>by rw [dj] at e;cases e⟩
    · exact⟨ok,ek,fun v e=>by rw [dk] at e;cases e⟩
  keep:=fun i h g st kp=>by
    obtain⟨gz,gp,⟨u,v,gq⟩,⟨oj,ej,rj⟩,⟨ok,ek,rk⟩⟩:=st
    exact⟨kp z (by simp) _ gz,kp p (by simp) _ gp,⟨u,v,kp q (by simp) _ gq⟩,⟨oj,kp j (by simp) _ ej,rj⟩,⟨ok,kp k (by simp) _ ek,rk⟩⟩
  item:=by
    intro X hP hw hK hc i pins s σ H E I hf st hg
    subst hP hw hK
    obtain⟨gz,gp,⟨u,v,gq⟩,gj,gk⟩:=st
    obtain⟨xs,ys,x,y,ha,hb,hx,hy⟩:=hg
    obtain⟨is,ra,pa,_⟩:=I.tuple ha
    obtain⟨js,rb,pb,_⟩:=I.tuple hb
    obtain⟨xv,hxv,rx⟩:=ra.get hx
    obtain⟨yv,hyv,ry⟩:=rb.get hy
    have sz:∀ c ∈ [z,p,q,j,k],c ≠ s.heap.objs.size:=fun c hc e=>by
      subst e
      simp only [List.mem_cons,List.not_mem_nil,or_false] at hc
      rcases hc with e | e | e | e | e
      · exact absurd (Heap.lt_size gz) (by rw [<-e];exact Nat.lt_irrefl _)
      · exact absurd (Heap.lt_size gp) (by rw [<-e];exact Nat.lt_irrefl _)
      · exact absurd (Heap.lt_size gq) (by rw [<-e];exact Nat.lt_irrefl _)
      · obtain⟨oj,ej,_⟩:=gj
        exact absurd (Heap.lt_size ej) (by rw [<-e];exact Nat.lt_irrefl _)
      · obtain⟨ok,ek,_⟩:=gk
        exact absurd (Heap.lt_size ek) (by rw [<-e];exact Nat.lt_irrefl _)
    refine xt D gz gp gq gj gk (show s.heap.IsTuple a is.toArray from pa) (show s.heap.IsTuple b js.toArray from pb) (x:=xv) (y:=yv) (by simpa using hxv) (by simpa using hyv) fun g a1 a2 a3 a4 a5 a6 hk=>?_
    refine⟨.ref s.heap.objs.size,rfl,wpAny_letOwnedTupleGo_zip a1 fun g' gz' sb=>?_⟩
    have fr:=I.aG.fresh (a:=s.heap.objs.size) (Nat.le_refl _)
    have I1:Inv X pins σ (upd H s.heap.objs.size (.tup [x,y])) { s with heap:=s.heap.push { cls:=.type "tuple",data:=.seq #[xv,yv] },toks:=s.toks } :=
      I.laid (fun _ _ e=>Heap.get?_push_of_some _ e) (Nat.le_refl _) ⟨by show 2<=sizeLine;decide,[xv,yv],.cons rx (.cons ry .nil),by first | exact IsTup.new _ _ | exact⟨_,Heap.get?_push_size _ rfl,rfl,_,rfl,rfl⟩⟩
    have f1:∀ c ∈ [z,p,q,j,k],hJ X pins (upd H s.heap.objs.size (.tup [x,y])) c:=fun c hc=>by
      obtain⟨f0,fr'⟩:=hf c hc
      exact⟨by rw [au (sz c hc)];exact f0,fr'⟩
    have I2:Inv X pins σ (upd H s.heap.objs.size (.tup [x,y])) { s with heap:=g',toks:=s.toks }:=Inv.rS (s:={ s with heap:=s.heap.push { cls:=.type "tuple",data:=.seq #[xv,yv] },toks:=s.toks }) (fp:=[z,p,q,j,k]) (h':=g') (t':=s.toks) I1 (fun c o hc e=>by
      simp only [List.mem_cons,List.not_mem_nil,or_false,not_or] at hc
      refine sb.extBut _ _ hc.1 ?_
      rcases Heap.get?_push_cases e with ⟨rfl,rfl⟩ | e
      · exact a5
      · exact hk c o hc.1 hc.2.2.1 hc.2.2.2.1 hc.2.2.2.2 e) f1
    refine⟨.ref s.heap.objs.size,_,I2,rfl,⟨_,x,y,rfl,fr,rfl,fun xs' ys' h1 h2=>?_⟩,⟨gz',sb.extBut _ _ D.pz (hk _ _ D.pz D.pq D.pj D.pk gp),⟨xv,yv,sb.extBut _ _ D.qz a2⟩,a3.extBut sb.extBut D.jz,a4.extBut sb.extBut D.kz⟩,fun c hc=>(f1 c hc).1⟩
    rw [I.ki h1 ha,I.ki h2 hb]
    exact⟨hx,hy⟩
  done:=by
    intro X hP hw hK hc i pins s σ H E I hf st hg
    subst hP hw hK
    obtain⟨gz,gp,⟨u,v,gq⟩,gj,gk⟩:=st
    obtain⟨xs,ys,ha,hb,hl⟩:=hg
    obtain⟨is,ra,pa,_⟩:=I.tuple ha
    obtain⟨js,rb,pb,_⟩:=I.tuple hb
    have la:=ra.length
    have lb:=rb.length
    have he:is.toArray[i]? = none\/js.toArray[i]? = none:=by
      rcases hl with h | h
      · exact .inl (by simp;omega)
      · exact .inr (by simp;omega)
    exact xu (I.ok.hd hc) D gz gp gq gj gk (show s.heap.IsTuple a is.toArray from pa) (show s.heap.IsTuple b js.toArray from pb) he fun g hk=>⟨rfl,I.rS (fp:=[z,p,q,j,k]) (t':=s.toks) (fun c o hc e=>by
      simp only [List.mem_cons,List.not_mem_nil,or_false,not_or] at hc
      exact hk c o hc.1 hc.2.2.1 hc.2.2.2.1 hc.2.2.2.2 e) hf⟩
  self:=fun _ _ _ _ _ st h=>wpAny_pyIter_zip st.1 h
theorem Au {N a b:Nat} (ha:a < N) (hb:b < N):rQ (N+4:Nat) (N+2:Nat) (N+3:Nat) N (N+1:Nat) a b :=
 have ne:∀ {u v:Nat},u < v->¬ (u=v):=fun h e=>by omega
 have ne':∀ {u v:Nat},v < u->¬ (u=v):=fun h e=>by omega
 ⟨ne (by omega),ne (by omega),ne (by omega),ne (by omega),ne (by omega),ne' (by omega),ne' (by omega),ne' (by omega),ne' (by omega),ne (by omega),ne (by omega),ne (by omega),ne (by omega),ne (by omega),ne (by omega),ne (by omega),ne (by omega),ne (by omega)⟩
theorem yJ:bootBuiltins "zip" = some (.type "zip"):=by decide +kernel
def Aa (K:PySem.W.Frag) (ta:TA):TI:=fun σ H R=>ta σ H fun vs H1=>∃ a b,vs = [.ref a,.ref b]/\(∃ xs,ay K H1 a xs)/\(∃ ys,ay K H1 b ys)/\R (wW K a b) H1
theorem uh {a b:Expr} {ta:TA} {p pos tp:Pos} {elts:List Expr} {kk:Nat} (hg:Gl X "zip") (hm:X.mg "zip" = none) (ha:PA X [a,b] ta) (hs:starEach [a,b] X.env = [(false,eval a X.env),(false,eval b X.env)]:=by rfl) (hs2:starEach [b] X.env = [(false,eval b X.env)]:=by rfl) :
  PI X (.Tuple elts kk tp) (.Call (.Name "zip" p) [a,b] [] pos) (Aa X.K ta):=by
 intro pins s σ H R I h
 refine Call_ (mO I hg hm yJ (PyProof.Rows.callWith_type1 (bh (ha pos pins s σ H _ I h) fun us s1 ⟨vs,H1,I1,r1,q1⟩=>?_) (by rw [hs,hs2]) (by rw [hs2];rfl)))
 obtain⟨x,y,e,⟨xs,hx⟩,⟨ys,hy⟩,q⟩:=q1
 subst e
 cases r1 with
 | cons r rr =>
  cases rr with
  | cons r' rr =>
   cases rr
   cases r
   cases r'
   obtain⟨is,rx,px,_⟩:=I1.tuple hx
   obtain⟨js,ry,py,_⟩:=I1.tuple hy
   have lx:x < s1.heap.objs.size:=px.lt
   have ly:y < s1.heap.objs.size:=py.lt
   refine xw (show s1.heap.IsTuple x is.toArray from px) (show s1.heap.IsTuple y js.toArray from py) fun g gz gp gq gj gk up=>?_
   refine wpAny_pyIter_zip gz ?_
   have I2:Inv X pins σ H1 { s1 with heap:=g }:=I1.kept (t':=s1.toks) up
   refine⟨_,[s1.heap.objs.size+4,s1.heap.objs.size+2,s1.heap.objs.size+3,s1.heap.objs.size,s1.heap.objs.size+1],_,wW X.K x y,H1,rfl,I2,vB x y _ _ _ _ _ ?_,⟨gz,gp,⟨_,_,gq⟩,gj,gk⟩,fun c hc=>?_,q⟩
   ·exact Au lx ly
   ·have le:s1.heap.objs.size<=c:=by
     simp only [List.mem_cons,List.not_mem_nil,or_false] at hc
     rcases hc with rfl | rfl | rfl | rfl | rfl
     ·exact Nat.le_add_right _ _
     ·exact Nat.le_add_right _ _
     ·exact Nat.le_add_right _ _
     ·exact Nat.le_refl _
     ·exact Nat.le_add_right _ _
    exact I1.lZ le (I1.aG.fresh le)
theorem ui {K:PySem.W.Frag} {a b acc:Addr} {xs ys:List V} {n:Nat} {js:List Nat} {g:TG} {ct:TT} {te:TE} {σ : St} {H1:Hp} {Q:VK} (Pv:Nat->List V->St->Hp->Prop) (h0:Pv 0 [] (iA n js σ) (upd H1 acc (.lst [])))
  (hl:∀ i zs τ H,i<=min xs.length ys.length->Pv i zs τ H->ay K H a xs/\ay K H b ys/\H acc=some (.lst zs)/\zs.length < sizeLine)
  (hs:∀ i x y zs τ H t,xs[i]? = some x->ys[i]? = some y->H t=none->Pv i zs τ H->g (.ref t) τ (upd H t (.tup [x,y])) fun τ1 H4=>ct τ1 H4 fun b H5=>if b=true then te τ1 H5 fun v H6=>H6 acc=some (.lst zs)/\Pv (i+1) (zs ++ [v]) τ1 (upd H6 acc (.lst (zs ++ [v]))) else Pv (i+1) zs τ1 H5)
  (hd:∀ zs τ H,Pv (min xs.length ys.length) zs τ H->Q (.ref acc) H) :
  rK (wW K a b) n js g ct te acc σ H1 Q:=by
 refine⟨fun i m zs τ H=>m=min xs.length ys.length - i/\i<=min xs.length ys.length/\Pv i zs τ H,⟨min xs.length ys.length,by simp,Nat.zero_le _,h0⟩,?_⟩
 rintro i m zs τ H ⟨rfl,hi,p⟩
 obtain⟨qa,qb,q2,q3⟩:=hl i zs τ H hi p
 refine⟨q2,q3,?_⟩
 by_cases hlt:i < min xs.length ys.length
 ·have l1:i < xs.length:=by omega
  have l2:i < ys.length:=by omega
  refine .inr ⟨⟨xs,ys,xs[i],ys[i],qa,qb,by simp [l1],by simp [l2]⟩,Pv (i+1),fun zs' τ' H' p'=>⟨min xs.length ys.length - (i+1),by omega,rfl,hlt,p'⟩,fun v H' y=>?_⟩
  obtain⟨t,x,y,rfl,ht,rfl,h⟩:=y
  obtain⟨h1,h2⟩:=h xs ys qa qb
  exact hs i x y zs τ H t h1 h2 ht p
 ·have e:i=min xs.length ys.length:=by omega
  subst e
  refine .inl ⟨⟨xs,ys,qa,qb,?_⟩,hd zs τ H p⟩
  rcases Nat.le_total xs.length ys.length with h | h
  ·exact .inl (by omega)
  ·exact .inr (by omega)
end
structure vC (K:PySem.W.Frag) (mg:Str->Option Value) (nm:Str) (a:Addr) (D:List (Str × Addr)):Prop where
 lQ:mg nm=some (.ref a)
 lk:∃ es ep,K.lookup a=some ⟨.type "dict",none,.dict es ep,#[]⟩/\KTD.Rows (fun d v=>v=Value.ref d) es.toList D
section
variable {prog:Program} {w:World} {A:Around} {E:Value->Shared->Prop} {s:Shared}
theorem vD {a d:Addr} {o:Obj} {es:Array DictEntry} {ep:Nat} {k:Str} {t:Tok} {D:List (Str × Addr)} {Q:Option Value->Shared->Prop} (ho:s.heap.get? a=some o) (hd:o.data=.dict es ep)
  (hr:KTD.Rows (fun d v=>v=Value.ref d) es.toList D) (ha:KTD.datumAt k D=some d) (q:Q (some (.ref d)) { s with toks:=s.toks+1 }):wpAny (model prog w) A (dictGet a (.str k t)) Q E s:=by
 unfold dictGet
 try with_reducible refine wpAny_holding ?_
 refine wpAny_bind (wpAny_pyHash_str (wpAny_bind (KTD.kt_dictFind_strs (s:={ s with toks:=s.toks+1 }) ho hd (by have:=hr.exact;obtain⟨l⟩:=es;simpa using this) ?_)))
 have hq:Q (findBy (fun k v=>v.isStr k) es k) { s with toks:=s.toks+1 }:=by
  obtain⟨v,hv,rfl⟩:=hr.find_some ha
  have e:findBy (fun k v=>v.isStr k) es k=some (.ref d):=by
   rw [<-hv]
   obtain⟨l⟩:=es
   simp [findBy]
  rw [e]
  exact q
 rw [findBy_of_findIdx?] at hq
 cases hi:es.findIdx? fun e=>e.key.isStr k with
 | some i=>rw [hi] at hq;exact wpAny_bind (wpAny_dictEntries (s:={ s with toks:=s.toks+1 }) ho hd (wpAny_pure hq))
 | none=>rw [hi] at hq;exact wpAny_pure hq
theorem vE {a d:Addr} {o:Obj} {es:Array DictEntry} {ep:Nat} {k:Str} {t:Tok} {D:List (Str × Addr)} {Q:Value->Shared->Prop} (ty:s.TypeIs (.ref a) "dict") (ho:s.heap.get? a=some o) (hd:o.data=.dict es ep)
  (hr:KTD.Rows (fun d v=>v=Value.ref d) es.toList D) (ha:KTD.datumAt k D=some d) (q:Q (.ref d) { s with toks:=s.toks+1 }):wpAny (model prog w) A (getItem (.ref a) (.str k t)) Q E s:=by
 unfold getItem
 try with_reducible refine wpAny_holding ?_
 refine wpAny_bind (wpAny_sequenceKey ty (by decide) (wpAny_bind (wpAny_callSpecial?_slot (name:=Str.ofString "__getitem__") ty slot_dict_getitem (wpAny_call_entry slot_dict_getitem ty entry_dict_getitem ?_ (args_dict_getitem _ _)))))
 show wpAny _ _ (dictGet a (.str k t) >>= fun _=>_) _ _ s
 exact wpAny_bind (vD ho hd hr ha (wpAny_pure ⟨_,rfl,wpAny_pure q⟩))
end
section
variable {X:Cx}
theorem nL {nm:Str} {a:Addr} {D:List (Str × Addr)} {i:Expr} {p pos:Pos} {ty:TE} (G:vC X.K X.mg nm a D) (hg:Gl X nm) (hi:PE X i ty) (hs:vt i) (hdb:(nm == ("__debug__" : Str))=false:=by decide) :
  PE X (.Subscript (.Name nm p) i pos) (fun σ H Q=>ty σ H fun y H1=>∃ x d,y=.str x/\KTD.datumAt x D=some d/\Q (.ref d) H1):=by
 intro pins s σ H Q I h
 obtain⟨es,ep,hk,hr⟩:=G.lk
 refine rN PySem.F.slot_dict_getitem.lookup hs (bh (fE (v:=.ref a) hg G.lQ rfl hdb pins s σ H (fun x H1=>x=.ref a/\ty σ H1 fun y H1=>∃ x d,y=.str x/\KTD.datumAt x D=some d/\Q (.ref d) H1) I ⟨rfl,h⟩) fun u s1 ⟨x,H1,I1,rx,ex,q1⟩=>?_)
 subst ex
 obtain rfl:u=Value.ref a:=rx
 refine bh (hi pins s1 σ H1 _ I1 q1) fun iv s2 ⟨y,H2,I2,ry,k,d,ey,hd,q2⟩=>?_
 subst ey
 obtain⟨t,rfl⟩:=(show ∃ t,iv=Value.str k t from ry)
 have ho:=I2.oa a _ hk
 exact⟨⟨_,ho,rfl⟩,vE ⟨_,ho,rfl⟩ ho rfl hr hd ⟨.ref d,H2,I2.tok _,rfl,q2⟩⟩
end
def pick (w:Str) (xs:List V) (ks:List Str):List V:=((xs.zip ks).filter fun p=>decide (p.2=w)).map (·.1)
def jn (w:Str) (xs:List V) (ks:List Str) (i:Nat):List V:=(((xs.zip ks).take i).filter fun p=>decide (p.2=w)).map (·.1)
theorem sJ {w:Str} {xs:List V} {ks:List Str} {i:Nat} {x:V} {k:Str} (hx:xs[i]? = some x) (hk:ks[i]? = some k):jn w xs ks (i+1)=jn w xs ks i++(if k=w then [x] else []):=by
 have hz:(xs.zip ks)[i]? = some (x,k):=by rw [List.getElem?_zip_eq_some];exact⟨hx,hk⟩
 unfold jn
 rw [List.take_add_one,hz,List.filter_append,List.map_append]
 congr 1
 by_cases h:k=w
 ·rw [if_pos h];simp [h]
 ·rw [if_neg h];simp [h]
theorem uj {w:Str} {xs:List V} {ks:List Str}:jn w xs ks (min xs.length (ks.map V.str).length)=pick w xs ks:=by
 unfold jn pick
 rw [List.length_map,List.take_of_length_le (by rw [List.length_zip];exact Nat.le_refl _)]
theorem uk {w:Str} {xs:List V} {ks:List Str} {i:Nat}:(jn w xs ks i).length<=i:=by
 unfold jn
 rw [List.length_map]
 exact Nat.le_trans (List.length_filter_le ..) (by rw [List.length_take];exact Nat.min_le_left ..)
theorem ay.same {K:PySem.W.Frag} {H H':Hp} {a:Addr} {xs:List V} (h:ay K H a xs) (s:ah H H'):ay K H' a xs:=by
 rcases h with h | h
 ·rcases h with h | h
  ·exact .inl (.inl (s _ _ h))
  ·obtain⟨b,hb⟩:=h
   exact .inl (.inr ⟨b,s _ _ hb⟩)
 ·exact .inr h
def lB (K:PySem.W.Frag):Sp:=fun vs H Q _=>∃ (t s:Addr) (v0:V) (xs:List V) (ks:List Str) (w:Str),vs = [.ref t,.ref s,.str w]/\H t=some (.tup (v0 :: xs))/\ay K H s (ks.map V.str)/\xs.length<=1000 /\
 ∀ l H',H' l=some (.lst (pick w xs ks))->ah H H'->Q (.ref l) H'
def KTup (K:PySem.W.Frag) (a:Addr) (ks:List Str):Prop:=∃ (o:Obj) (its:Array Value) (n:Nat),K.lookup a=some o/\o.cls=.type "tuple" /\ o.data=.seq its n/\its.size<=sizeLine/\Vals (ks.map V.str) its.toList
structure qd (K:PySem.W.Frag) (mg:Str->Option Value) (aE s0 s1 s2 s3:Addr):Prop where
 tab:vC K mg "END_PARTS" aE [("stop",s0),("go",s1),("less",s2),("is",s3)]
 q0:KTup K s0 []
 q1:KTup K s1 ["piece"]
 q2:KTup K s2 ["name", "number", "piece", "piece"]
 q3:KTup K s3 ["name", "number", "piece", "piece"]
def cJ:End->List Nat
 | .stop=>[]
 | .go p=>[p]
 | .d6 _ _ _ p q=>[p,q]
def kE:End->List Str
 | .stop=>[]
 | .go _=>["piece"]
 | .d6 ..=>["name", "number", "piece", "piece"]
def wE:End->Str
 | .stop => "stop"
 | .go _ => "go"
 | .d6 b ..=>wT b
theorem um (e:End):∃ xs,i6 e=.str (wE e) :: xs/\xs.length<=1000/\pick "piece" xs (kE e)=(cJ e).map fun k=>V.int (k:Nat):=by
 cases e with
 | stop=>exact⟨[],rfl,by decide,rfl⟩
 | go p=>exact⟨_,rfl,by show 1<=1000;decide,by simp [pick,kE,cJ]⟩
 | d6 b x n p q =>
  refine⟨_,rfl,by show 4<=1000;decide,?_⟩
  have h1:¬ ("name" : Str) = "piece" := by decide +kernel
  have h2:¬ ("number" : Str) = "piece" := by decide +kernel
  simp [pick,kE,cJ,h1,h2]
theorem qd.at_ {K:PySem.W.Frag} {mg:Str->Option Value} {aE s0 s1 s2 s3:Addr} (G:qd K mg aE s0 s1 s2 s3) (e:End):∃ s,KTD.datumAt (wE e) [(("stop" : Str),s0),("go",s1),("less",s2),("is",s3)] = some s/\KTup K s (kE e):=by
 have hit:∀ {k:Str} {d:Addr} {D:List (Str × Addr)},KTD.datumAt k ((k,d) :: D)=some d:=fun {k d D}=>by
  show (if decide (k=k)=true then some d else KTD.datumAt k D)=some d
  rw [if_pos (decide_eq_true rfl)]
 have miss:∀ {k x:Str} {d:Addr} {D:List (Str × Addr)} {o:Option Addr},¬ k=x->KTD.datumAt k D=o->KTD.datumAt k ((x,d) :: D)=o:=fun {k x d D o} h e=>by
  show (if decide (k=x)=true then some d else KTD.datumAt k D)=o
  rw [if_neg (by rw [decide_eq_false h];decide)]
  exact e
 cases e with
 | stop=>exact⟨s0,hit,G.q0⟩
 | go p=>exact⟨s1,miss (show ¬ (("go" : Str) = "stop") by decide +kernel) hit,G.q1⟩
 | d6 b x n p q =>
  cases b with
  | true=>exact⟨s2,miss (show ¬ (("less" : Str) = "stop") by decide +kernel) (miss (show ¬ (("less" : Str) = "go") by decide +kernel) hit),G.q2⟩
  | false=>exact⟨s3,miss (show ¬ (("is" : Str) = "stop") by decide +kernel) (miss (show ¬ (("is" : Str) = "go") by decide +kernel) (miss (show ¬ (("is" : Str) = "less") by decide +kernel) hit)),G.q3⟩
def m7:Sp:=fun vs H Q _=>∃ (ea:Addr) (e:End),vs = [.ref ea]/\H ea=some (.tup (i6 e))/\∀ t H',H' t=some (.tup ((cJ e).map fun k=>V.int (k:Nat)))->ah H H'->Q (.ref t) H'
end L2
namespace LS
open PySem
def Up (xs:Array Nat):Prop:=∀ (i j:Nat) (a b:Nat),i < j->xs[i]? = some a->xs[j]? = some b->a < b
theorem vF {xs:Array Nat} {j:Nat} (up:Up xs):∀ (fuel lo hi:Nat),hi - lo<=fuel->lo<=hi->hi<=xs.size ->
  (∀ i a,i < lo->xs[i]? = some a->a < j)->(∀ i a,hi<=i->xs[i]? = some a->j<=a) ->
  (∀ i a,i < SetTable.below.go xs j fuel lo hi->xs[i]? = some a->a < j)/\(∀ i a,SetTable.below.go xs j fuel lo hi<=i->xs[i]? = some a->j<=a)/\SetTable.below.go xs j fuel lo hi<=xs.size:=by
 intro fuel
 induction fuel with
 | zero =>
  intro lo hi h1 h2 h3 h4 h5
  have e:lo=hi:=by omega
  subst e
  unfold SetTable.below.go
  exact⟨h4,h5,h3⟩
 | succ f ih =>
  intro lo hi h1 h2 h3 h4 h5
  unfold SetTable.below.go
  by_cases hl:lo < hi
  ·rw [if_pos hl]
   dsimp only
   have hm:(lo+hi) / 2 < hi:=by omega
   have hm2:lo<=(lo+hi) / 2:=by omega
   generalize (lo+hi) / 2=mid at hm hm2
   have hs:mid < xs.size:=by omega
   have hg:xs[mid]? = some xs[mid]:=by simp [hs]
   have hd:xs.getD mid j=xs[mid]:=by simp [Array.getD,hs]
   rw [hd]
   by_cases hc:xs[mid] < j
   ·rw [if_pos hc]
    refine ih (mid+1) hi (by omega) (by omega) h3 (fun i a hi' he=>?_) h5
    by_cases e:i=mid
    ·subst e;rw [hg] at he;cases he;exact hc
    ·have:=up i mid a _ (by omega) he hg;omega
   ·rw [if_neg hc]
    refine ih lo mid (by omega) hm2 (by omega) h4 (fun i a hi' he=>?_)
    by_cases e:i=mid
    ·subst e;rw [hg] at he;cases he;omega
    ·have:=up mid i _ a (by omega) hg he;omega
  ·rw [if_neg hl]
   have e:lo=hi:=by omega
   subst e
   exact⟨h4,h5,h3⟩
theorem mj {xs:Array Nat} {j:Nat} (up:Up xs) :
    (∀ i a,i < SetTable.below xs j->xs[i]? = some a->a < j)/\(∀ i a,SetTable.below xs j<=i->xs[i]? = some a->j<=a)/\SetTable.below xs j<=xs.size :=
  vF up xs.size 0 xs.size (by omega) (Nat.zero_le _) (Nat.le_refl _) (fun _ _ h=>absurd h (Nat.not_lt_zero _)) (fun i a h e=>by
    have:xs[i]? = none:=by simp;omega
    rw [this] at e;cases e)
theorem qe {α : Type} {xs:Array α} {p:Nat} {x:α} (hp:p<=xs.size) (i:Nat) :
  (SetTable.insertAt xs p x)[i]? = if i < p then xs[i]? else if i=p then some x else xs[i - 1]?:=by
 unfold SetTable.insertAt
 have h1:(xs.extract 0 p).size=p:=by simp;omega
 rw [Array.getElem?_append]
 have h2:((xs.extract 0 p).push x).size=p+1:=by simp;omega
 rw [h2]
 by_cases a:i < p
 ·rw [if_pos (by omega),if_pos a,Array.getElem?_push,h1,if_neg (by omega)]
  rw [Array.getElem?_extract]
  simp;omega
 ·rw [if_neg a]
  by_cases b:i=p
  ·subst b
   rw [if_pos (by omega),if_pos rfl,Array.getElem?_push,h1,if_pos rfl]
  ·rw [if_neg (by omega),if_neg b]
   rw [Array.getElem?_extract]
   have:p+(i - (p+1))=i - 1:=by omega
   rw [this]
   by_cases c:i - 1 < xs.size
   ·simp;omega
   ·have:xs[i - 1]? = none:=by simp;omega
    rw [this];simp
theorem Up.insert {xs:Array Nat} {j:Nat} (up:Up xs) (hn:xs[SetTable.below xs j]? ≠ some j):Up (SetTable.insertAt xs (SetTable.below xs j) j):=by
 obtain⟨h1,h2,h3⟩:=mj (j:=j) up
 generalize SetTable.below xs j=p at h1 h2 h3 hn
 have h2':∀ i a,p<=i->xs[i]? = some a->j < a:=fun i a hi e=>by
  have q:=h2 i a hi e
  by_cases z:i=p
  ·subst z
   rcases Nat.lt_or_ge j a with c | c
   ·exact c
   ·have:a=j:=by omega
    subst this;exact absurd e hn
  ·have hps:p < xs.size:=by
    have:i < xs.size:=by
     rcases Nat.lt_or_ge i xs.size with c | c
     ·exact c
     ·have:xs[i]? = none:=by simp;omega
      rw [this] at e;cases e
    omega
   have e1:xs[p]? = some xs[p]:=by simp [hps]
   have q1:=h2 p _ (Nat.le_refl _) e1
   have q2:=up p i _ _ (by omega) e1 e
   omega
 intro a b x y hab ha hb
 rw [qe h3] at ha hb
 by_cases c1:a < p
 ·rw [if_pos c1] at ha
  by_cases d1:b < p
  ·rw [if_pos d1] at hb;exact up a b _ _ hab ha hb
  ·rw [if_neg d1] at hb
   by_cases d2:b=p
   ·rw [if_pos d2] at hb;cases hb;exact h1 a _ c1 ha
   ·rw [if_neg d2] at hb
    exact Nat.lt_trans (h1 a _ c1 ha) (h2' (b - 1) _ (by omega) hb)
 ·rw [if_neg c1] at ha
  by_cases c2:a=p
  ·rw [if_pos c2] at ha;cases ha
   rw [if_neg (by omega),if_neg (by omega)] at hb
   exact h2' (b - 1) _ (by omega) hb
  ·rw [if_neg c2] at ha
   rw [if_neg (by omega),if_neg (by omega)] at hb
   exact up (a - 1) (b - 1) _ _ (by omega) ha hb
def Rp (t:SetTable):Prop:=t.plain=true->Up t.place
theorem vG {t:SetTable} {f:Nat->Int} {h:Int}:∀ (fuel:Nat) (p:SetTable.Probe) (j:Nat) (d:Option Nat),(∀ x,p.dummy=some x->t.place[SetTable.below t.place x]? ≠ some x) ->
  SetTable.probe.go t f h fuel p=some (.empty j d)->t.place[SetTable.below t.place (d.getD j)]? ≠ some (d.getD j):=by
 intro fuel
 induction fuel with
 | zero=>intro p j d _ e;unfold SetTable.probe.go at e;cases e
 | succ n ih =>
  intro p j d hd e
  unfold SetTable.probe.go at e
  have adv:∀ q:SetTable.Probe,(t.advance q).dummy=q.dummy:=fun q=>by unfold SetTable.advance;split <;> rfl
  cases hs:t.slot p.j with
  | empty =>
   rw [hs] at e
   dsimp only at e
   injection e with e
   injection e with e1 e2
   subst e1;subst e2
   unfold SetTable.slot at hs
   dsimp only at hs
   split at hs
   ·cases hs
   ·rename_i hne
    cases hdm:p.dummy with
    | none=>intro z;exact hne (by rw [show (none:Option Nat).getD p.j=p.j from rfl] at z;simpa using z)
    | some x=>exact hd x hdm
  | dummy =>
   rw [hs] at e
   dsimp only at e
   refine ih _ j d (fun x hx=>?_) e
   rw [adv] at hx
   injection hx with hx
   subst hx
   unfold SetTable.slot at hs
   dsimp only at hs
   split at hs
   ·cases hs
   ·rename_i hne
    intro z;exact hne (by simpa using z)
  | live i =>
   rw [hs] at e
   dsimp only at e
   split at e
   ·cases e
   ·exact ih _ j d (fun x hx=>hd x (by rw [adv] at hx;exact hx)) e
theorem qf {t:SetTable} {h:Int} {j:Nat} {b:Bool} (e:t.freeSlot h=some (j,b)):t.place[SetTable.below t.place j]? ≠ some j:=by
 unfold SetTable.freeSlot at e
 split at e
 ·rename_i j' d hp
  injection e with e
  injection e with e1 e2
  subst e1
  unfold SetTable.probe at hp
  exact vG _ _ _ _ (fun x hx=>by cases hx) hp
 ·cases e
theorem Rp.standIn (t:SetTable) (n:Nat):Rp (t.standIn n):=fun h=>by cases h
theorem Rp.layNew {t:SetTable} (r:Rp t) (es:Array (Int × Value)) (h:Int) (x:Value):Rp (layNew t es h x).2.1/\(layNew t es h x).2.1.led=t.led:=by
 unfold PySem.layNew
 split
 ·rename_i j b e
  dsimp only
  unfold SetTable.orStandIn
  split
  ·refine⟨fun hp=>?_,rfl⟩
   exact (r hp).insert (qf e)
  ·exact⟨Rp.standIn _ _,rfl⟩
 ·exact⟨Rp.standIn _ _,rfl⟩
theorem vH (n:Nat) (f:Nat->Option Nat):Up (((List.range n).filterMap fun j=>(f j).map fun k=>(j,k)).map (·.1)).toArray:=by
 have hs:List.Pairwise (· < ·) (((List.range n).filterMap fun j=>(f j).map fun k=>(j,k)).map (·.1)):=by
  have hl:List.Sublist (((List.range n).filterMap fun j=>(f j).map fun k=>(j,k)).map (·.1)) (List.range n):=by
   generalize List.range n=l
   induction l with
   | nil=>exact List.Sublist.refl _
   | cons a l ih =>
    rw [List.filterMap_cons]
    cases e:f a with
    | none=>exact ih.cons a
    | some k=>exact ih.cons₂ a
  exact List.Pairwise.sublist hl List.pairwise_lt_range
 intro i j a b hij ha hb
 rw [List.getElem?_toArray] at ha hb
 have hi:i < _:=(List.getElem?_eq_some_iff.mp ha).1
 have hj:j < _:=(List.getElem?_eq_some_iff.mp hb).1
 have:=List.pairwise_iff_getElem.mp hs i j hi hj hij
 rw [(List.getElem?_eq_some_iff.mp ha).2,(List.getElem?_eq_some_iff.mp hb).2] at this
 exact this
theorem Rp.relayAll (t:SetTable) (es:Array (Int × Value)) (n:Nat):Rp (relayAll t es n).2.1/\(relayAll t es n).2.1.led=t.led:=by
 unfold PySem.relayAll
 split
 ·rename_i t' order e
  dsimp only
  split
  ·unfold SetTable.relaid SetTable.laid at e
   simp only [bind,Option.bind] at e
   split at e
   ·cases e
   ·rename_i owner _
    injection e with e
    injection e with e1 _
    subst e1
    exact⟨fun _=>vH _ _,rfl⟩
  ·exact⟨Rp.standIn _ _,rfl⟩
 ·exact⟨Rp.standIn _ _,rfl⟩
theorem sL {xs:Array Nat} (up:Up xs) {i a:Nat} (e:xs[i]? = some a):SetTable.below xs (a+1)=i+1:=by
 obtain⟨h1,h2,h3⟩:=mj (j:=a+1) up
 have hi:i < xs.size:=(Array.getElem?_eq_some_iff.mp e).1
 rcases Nat.lt_trichotomy (SetTable.below xs (a+1)) (i+1) with c | c | c
 ·have:=h2 i a (by omega) e;omega
 ·exact c
 ·have hs:i+1 < xs.size:=by omega
  have e':xs[i+1]? = some xs[i+1]:=by simp [hs]
  have q1:=h1 (i+1) _ c e'
  have q2:=up i (i+1) _ _ (by omega) e e'
  omega
theorem sM {xs:Array Nat} (up:Up xs):SetTable.below xs 0=0:=by
 obtain⟨h1,h2,h3⟩:=mj (j:=0) up
 rcases Nat.eq_zero_or_pos (SetTable.below xs 0) with c | c
 ·exact c
 ·have e':xs[0]? = some xs[0]:=by simp
  have:=h1 0 _ c e';omega
theorem Up.bL {xs:Array Nat} (h:xs.size<=1):Up xs:=fun i j a b hij ha hb=>by
 have:=(Array.getElem?_eq_some_iff.mp hb).1;omega
open PySem.Spec PyProof.Rows
section
variable {prog:Program} {w:World} {K:Type} [DecidableEq K] {knd:KeyKind prog w K}
variable {A:Around} {E:Value->Shared->Prop} {s:Shared}
def Ent (knd:KeyKind prog w K) (e:Int × Value) (k:K):Prop:=knd.is k e.2=true/\e.1=knd.hash k/\e.2.scannable=true
structure cZ (knd:KeyKind prog w K) (h:Heap) (a:Addr) (ks:List K) (o:Obj) (es:Array (Int × Value)) (ep:Nat) (t:SetTable):Prop where
 at_:h.get? a=some o
 ex:o.ExactSet
 data:o.data=.set es ep t
 ents:∃ ls:List K,ls.Perm ks/\Paired (Ent knd) es.toList ls
 nd:ks.Nodup
 bL:es.size < scanBound
 fits:t.fits es.size=true
 led:t.led = !(w.params.followText "set-order")
 up:Rp t
def fX (knd:KeyKind prog w K) (h:Heap) (a:Addr) (ks:List K):Prop:=∃ o es ep t,cZ knd h a ks o es ep t
theorem jy {α β : Type} {F:α->β->Prop}:∀ {l l':List α},l.Perm l'->∀ {m':List β},Paired F l' m'->∃ m,m.Perm m'/\Paired F l m:=by
 intro l l' p
 induction p with
 | nil=>intro m' h;exact⟨m',.refl _,h⟩
 | cons x p ih =>
  intro m' h
  cases h with
  | cons r t=>obtain⟨m,q,e⟩:=ih t;exact⟨_,q.cons _,.cons r e⟩
 | swap x y l =>
  intro m' h
  cases h with
  | cons r t=>cases t with
   | cons r' t'=>exact⟨_,.swap _ _ _,.cons r' (.cons r t')⟩
 | trans p q ih1 ih2 =>
  intro m' h
  obtain⟨m1,a1,b1⟩:=ih2 h
  obtain⟨m2,a2,b2⟩:=ih1 b1
  exact⟨m2,a2.trans a1,b2⟩
theorem iO {α β : Type} {F:α->β->Prop}:∀ {l:List α} {m:List β},Paired F l m->(∀ x ∈ l,∃ y ∈ m,F x y)/\(∀ y ∈ m,∃ x ∈ l,F x y)
 | _,_,.nil=>⟨(fun _ h=>nomatch h),(fun _ h=>nomatch h)⟩
 | _,_,.cons r t=>by
  obtain⟨h1,h2⟩:=iO t
  refine⟨fun x hx=>?_,fun y hy=>?_⟩
  ·rcases List.mem_cons.mp hx with rfl | hx
   ·exact⟨_,List.mem_cons_self ..,r⟩
   ·obtain⟨y,hy,f⟩:=h1 x hx;exact⟨y,List.mem_cons_of_mem _ hy,f⟩
  ·rcases List.mem_cons.mp hy with rfl | hy
   ·exact⟨_,List.mem_cons_self ..,r⟩
   ·obtain⟨x,hx,f⟩:=h2 y hy;exact⟨x,List.mem_cons_of_mem _ hx,f⟩
theorem lR {α β : Type} {F:α->β->Prop} {x:α} {y:β} (f:F x y):∀ {l:List α} {m:List β},Paired F l m->Paired F (l ++ [x]) (m ++ [y])
 | _,_,.nil=>.cons f .nil
 | _,_,.cons r t=>.cons r (lR f t)
variable {a:Addr} {ks:List K} {o:Obj} {es:Array (Int × Value)} {ep:Nat} {t:SetTable} {h h':Heap}
theorem cZ.elems (S:cZ knd h a ks o es ep t):ElemsOf knd es.toList:=fun e he=>by
 obtain⟨ls,_,p⟩:=S.ents
 obtain⟨k,_,f⟩:=(iO p).1 e he
 exact⟨⟨k,f.1,f.2.1⟩,f.2.2⟩
theorem cZ.len (S:cZ knd h a ks o es ep t):es.size=ks.length:=by
 obtain⟨ls,q,p⟩:=S.ents
 rw [<-Array.length_toList,p.length,q.length_eq]
theorem cZ.mem (S:cZ knd h a ks o es ep t) (k:K):k ∈ ks ↔ ∃ e ∈ es.toList,knd.is k e.2=true:=by
 obtain⟨ls,q,p⟩:=S.ents
 rw [<-q.mem_iff]
 constructor
 ·intro hk
  obtain⟨e,he,f⟩:=(iO p).2 k hk
  exact⟨e,he,f.1⟩
 ·rintro⟨e,he,f⟩
  obtain⟨k',hk',f'⟩:=(iO p).1 e he
  rw [knd.inj e.2 k k' f f'.1];exact hk'
theorem cZ.keep (S:cZ knd h a ks o es ep t) (k:∀ o,h.get? a=some o->h'.get? a=some o):cZ knd h' a ks o es ep t:={ S with at_:=k _ S.at_ }
theorem fX.keep (S:fX knd h a ks) (k:∀ o,h.get? a=some o->h'.get? a=some o):fX knd h' a ks:=let ⟨o,es,ep,t,S⟩:=S;⟨o,es,ep,t,S.keep k⟩
theorem qg {o:Obj} {es es':Array (Int × Value)} {ep:Nat} {t t':SetTable} (hd:o.data=.set es ep t):Obj.putSet es' t' o = { o with data:=.set es' (ep+1) t' }:=putSet_of es' t' hd
theorem cZ.store {es':Array (Int × Value)} {t':SetTable} {ks':List K} (S:cZ knd h a ks o es ep t) (he:∃ ls:List K,ls.Perm ks'/\Paired (Ent knd) es'.toList ls) (nd:ks'.Nodup) (bL:es'.size < scanBound)
  (fits:t'.fits es'.size=true) (led:t'.led=t.led) (up:Rp t'):cZ knd (h.update a (Obj.putSet es' t')) a ks' { o with data:=.set es' (ep+1) t' } es' (ep+1) t' where
 at_:=by
  have q:=Heap.get?_update_self (Obj.putSet es' t') S.at_ (by rw [qg S.data];rfl)
  rw [qg S.data] at q
  exact q
 ex:=S.ex
 data:=rfl
 ents:=he
 nd:=nd
 bL:=bL
 fits:=fits
 led:=led.trans S.led
 up:=up
theorem mn {g:Bool->Sem Unit} (hg:∀ (b:Bool) (s₁ : Shared) (Q':Unit->Shared->Prop),Q' () s₁->wpAny (model prog w) A (g b) Q' E s₁) {es1:Array (Int × Value)} {t2:SetTable} {ks':List K}
  (S:cZ knd s.heap a ks o es ep t) (he:∃ ls:List K,ls.Perm ks'/\Paired (Ent knd) es1.toList ls) (nd:ks'.Nodup) (bL:es1.size < scanBound) (fits:t2.fits es1.size=true) (led:t2.led=t.led) (up:Rp t2) {wd:Bool}
  {R:Option Bool->Shared->Prop} (q:∀ h',Heap.SameBut a s.heap h'->fX knd h' a ks'->R (some true) { s with heap:=h' }) :
  wpAny (model prog w) A (storeSet a es1 t2 >>= fun _=>if (!wd && t2.tooFull)=true then g (relayAll t2 es1 (SetTable.grown es1.size)).2.2 >>= fun _ =>
   storeSet a (relayAll t2 es1 (SetTable.grown es1.size)).1 (relayAll t2 es1 (SetTable.grown es1.size)).2.1 >>= fun _=>pure (some true) else pure (some true)) R E s:=by
 refine wpAny_bind (wpAny_storeSet_of S.at_ S.data ?_ (fits_of_scanBound bL))
 have S1:=S.store he nd bL fits led up
 have b1:=Heap.SameBut.update s.heap a (Obj.putSet es1 t2)
 by_cases hc:(!wd && t2.tooFull)=true
 ·rw [if_pos hc]
  have p1:=relayAll_perm t2 es1 (SetTable.grown es1.size)
  have p2:=relayAll_fits t2 es1 (SetTable.grown es1.size)
  have p3:=Rp.relayAll t2 es1 (SetTable.grown es1.size)
  generalize relayAll t2 es1 (SetTable.grown es1.size)=R3 at p1 p2 p3
  obtain⟨es3,t3,gv⟩:=R3
  obtain⟨ls,l1,l2⟩:=he
  obtain⟨ls3,l3,l4⟩:=jy p1 l2
  have z:es3.size=es1.size:=by rw [<-Array.length_toList,p1.length_eq,Array.length_toList]
  have few3:es3.size < scanBound:=by rw [z];exact bL
  refine wpAny_bind (hg _ _ _ ?_)
  refine wpAny_bind (wpAny_storeSet_of S1.at_ S1.data ?_ (fits_of_scanBound few3))
  exact wpAny_pure (q _ (b1.trans (Heap.SameBut.update _ a _)) ⟨_,_,_,_,S1.store ⟨ls3,l3.trans l1,l4⟩ nd few3 p2 p3.2 p3.1⟩)
 ·rw [if_neg hc]
  exact wpAny_pure (q _ b1 ⟨_,_,_,_,S1⟩)
theorem sN {k:K} {x:Value} {Q:Bool->Shared->Prop} (hk:knd.is k x=true) (hsc:x.scannable=true) (S:fX knd s.heap a ks) (room:ks.length+1 < scanBound)
  (q:∀ h',Heap.SameBut a s.heap h'->fX knd h' a (if k ∈ ks then ks else ks ++ [k])->Q (!decide (k ∈ ks)) { s with heap:=h' }) :
  wpAny (model prog w) A (setAddHashed a x (knd.hash k)) Q E s:=by
 obtain⟨o,es,ep,t,S⟩:=S
 have few1:es.size+1 < scanBound:=by rw [S.len];exact room
 unfold setAddHashed setAddHashedIn
 refine wpAny_holding (wpAny_bind (wpAny_setState_of S.at_ S.data S.fits ?_))
 dsimp only
 rw [byScan_of hsc S.bL S.elems]
 simp only [↓reduceIte]
 unfold setAddByScan
 refine wpAny_bind (wpAny_bind (wpAny_rule ?_))
 refine wpAny_bind (wpAny_setScan_of hk S.at_ S.data S.fits S.elems ?_)
 cases hr:List.findIdx? (fun e=>knd.is k e.2) es.toList with
 | some j =>
  obtain⟨hj,hpj,_⟩:=List.findIdx?_eq_some_iff_getElem.mp hr
  have hin:k ∈ ks:=(S.mem k).mpr ⟨es.toList[j],List.getElem_mem hj,hpj⟩
  refine wpAny_pure (wpAny_pure ?_)
  have:=q s.heap (Heap.SameBut.refl a s.heap) (by rw [if_pos hin];exact⟨o,es,ep,t,S⟩)
  rw [decide_eq_true hin] at this
  exact this
 | none =>
  have hin:¬ k ∈ ks:=fun z=>by
   obtain⟨e,he,hp⟩:=(S.mem k).mp z
   have:=List.findIdx?_eq_none_iff.mp hr e he
   rw [hp] at this;exact Bool.noConfusion this
  rw [if_neg hin,decide_eq_false hin] at q
  have p1:=layNew_perm t es (knd.hash k) x
  have p2:=layNew_fits t es (knd.hash k) x
  have p3:=S.up.layNew es (knd.hash k) x
  dsimp only
  generalize layNew t es (knd.hash k) x=L at p1 p2 p3 ⊢
  obtain⟨es1,t1,wd,gv⟩:=L
  dsimp only at p1 p2 p3 ⊢
  rw [Array.toList_push] at p1
  have hE:∃ ls:List K,ls.Perm (ks ++ [k])/\Paired (Ent knd) es1.toList ls:=by
   obtain⟨ls,l1,l2⟩:=S.ents
   obtain⟨m,m1,m2⟩:=jy p1 (lR (F:=Ent knd) (x:=(knd.hash k,x)) (y:=k) ⟨hk,rfl,hsc⟩ l2)
   exact⟨m,m1.trans (l1.append_right _),m2⟩
  have nd1:(ks ++ [k]).Nodup:=by
   rw [List.nodup_append]
   exact⟨S.nd,by simp,fun y hy z hz e=>hin (by rw [List.mem_singleton] at hz;rw [<-hz,<-e];exact hy)⟩
  have few2:es1.size < scanBound:=by rw [<-Array.length_toList,p1.length_eq,List.length_append,Array.length_toList];simpa using few1
  have gw:∀ (b:Bool) (s₁ : Shared) (Q':Unit->Shared->Prop),Q' () s₁->wpAny (model prog w) A (match b with | true=>rule "set.scan.the-table-gave-way" | false=>pure ()) Q' E s₁:=fun b s₁ Q' hq=>by
   cases b
   ·exact wpAny_pure hq
   ·exact wpAny_rule hq
  refine wpAny_bind (gw _ _ _ ?_)
  by_cases hp:t1.plain=true
  ·rw [if_pos hp]
   refine wpAny_bind ?_
   rw [hashByValue_scannable 8 hsc]
   refine wpAny_pure ?_
   by_cases hv:plainKind x=true
   ·rw [if_pos hv]
    exact mn gw S hE nd1 few2 p2 p3.2 p3.1 fun h' b Sk=>wpAny_pure (q h' b Sk)
   ·rw [if_neg hv]
    exact mn gw S hE nd1 few2 (SetTable.fits_plain_off p2) p3.2 (fun z=>by cases z) fun h' b Sk=>wpAny_pure (q h' b Sk)
  ·rw [if_neg hp]
   refine wpAny_bind (wpAny_pure ?_)
   rw [if_pos rfl]
   exact mn gw S hE nd1 few2 p2 p3.2 p3.1 fun h' b Sk=>wpAny_pure (q h' b Sk)
theorem uo {led:Bool} (hl:led = !(w.params.followText "set-order")) (at_:h.get? a=some { cls:=.type "set",dict:=none,data:=.set #[] 0 (.fresh 0 0 led) }):fX knd h a [] :=
 ⟨_,#[],0,_,at_,⟨rfl,rfl,rfl⟩,rfl,⟨[],.refl _,.nil⟩,List.nodup_nil,by decide,by rfl,hl,fun _=>Up.bL (Nat.zero_le _)⟩
end
theorem jZ {α : Type}:∀ (l:List α) (i:Nat) (h:i < l.length),(l[i] :: l.eraseIdx i).Perm l
 | x :: l,0,_=>.refl _
 | x :: l,i+1,h=>by
  have hi:i < l.length:=by simpa using h
  have ih:=jZ l i hi
  show (l[i] :: x :: l.eraseIdx i).Perm (x :: l)
  exact (List.Perm.swap x _ _).trans (ih.cons x)
theorem uq {α : Type} (f:Nat->Nat):∀ (n k:Nat) (l:List α) (out:Array α),l.length=n->(pickOrder.go f n k l out).toList.Perm (out.toList++l):=by
 intro n
 induction n with
 | zero =>
  intro k l out hl
  have:l = []:=List.length_eq_zero_iff.mp hl
  subst this
  unfold pickOrder.go
  simp
 | succ n ih =>
  intro k l out hl
  unfold pickOrder.go
  have hlt:f k % l.length < l.length:=Nat.mod_lt _ (by omega)
  rw [List.getElem?_eq_getElem hlt]
  dsimp only
  refine (ih _ _ _ (by rw [List.length_eraseIdx_of_lt hlt];omega)).trans ?_
  rw [Array.toList_push,List.append_assoc]
  refine List.Perm.append_left _ ?_
  exact jZ _ _ hlt
theorem hZ {α : Type} (f:Nat->Nat) (xs:Array α):(pickOrder f xs).toList.Perm xs.toList:=by
 unfold pickOrder
 have:=uq f xs.size 0 xs.toList #[] (by simp)
 simpa using this
section
variable {prog:Program} {w:World} {A:Around} {E:Value->Shared->Prop} {s:Shared}
theorem lC {Q:Bool->Shared->Prop} (q:Q (w.params.followText "set-order") s):wpAny (model prog w) A setsByText Q E s:=by
 unfold setsByText
 exact wpAny_bind (wpAny_askSetting (wpAny_pure q))
theorem xx {src:Source} {n:Nat} {Q:Nat->Shared->Prop} (hn:n ≠ 0) (q:∀ (i:Nat) (d:_),i < n->Q i { s with drawn:=d }):wpAny (model prog w) A (choose src n) Q E s:=by
 intro Γ p hΓ
 show Sem.wp _ _ (.choose src n .pure) _ _ _ _
 rw [Sem.wp_choose]
 exact⟨hn,q _ _ (Nat.mod_lt _ (Nat.pos_of_ne_zero hn))⟩
theorem zo:∀ (n:Nat) (xs:List Nat) (s:Shared) {Q:List Nat->Shared->Prop},xs.length=n->(∀ (ys:List Nat) (d:_),ys.Perm xs->Q ys { s with drawn:=d })->wpAny (model prog w) A (drawOrder n xs) Q E s:=by
 intro n
 induction n with
 | zero =>
  intro xs s Q hl q
  have:xs = []:=List.length_eq_zero_iff.mp hl
  subst this
  unfold drawOrder
  exact wpAny_pure (q [] s.drawn (.refl _))
 | succ n ih =>
  intro xs s Q hl q
  cases xs with
  | nil=>cases hl
  | cons x0 xs =>
   unfold drawOrder
   refine wpAny_bind (xx (by simp) fun i d hi=>?_)
   rw [List.getElem?_eq_getElem hi]
   dsimp only
   refine wpAny_bind (ih _ _ (by rw [List.length_eraseIdx_of_lt hi];omega) fun ys d' hp=>?_)
   refine wpAny_pure (q _ d' ?_)
   exact (hp.cons _).trans (jZ _ _ hi)
end
section
variable {prog:Program} {w:World} {K:Type} [DecidableEq K] {knd:KeyKind prog w K}
variable {A:Around} {E:Value->Shared->Prop} {s:Shared} {a:Addr} {ks:List K} {o:Obj} {es:Array (Int × Value)} {ep:Nat} {t:SetTable}
theorem ur {slot i:Nat} {Q:Option (Value × Nat)->Shared->Prop} (S:cZ knd s.heap a ks o es ep t) (hb:w.params.followText "set-order" = true)
  (q:Q (((pickOrder (w.params.setOrder a ep) es)[i]?).map fun e=>(e.2,slot)) s):wpAny (model prog w) A (setNext a slot i ep) Q E s:=by
 unfold setNext
 refine wpAny_bind (wpAny_setState_of S.at_ S.data S.fits ?_)
 dsimp only
 refine wpAny_bind (lC ?_)
 rw [hb,if_pos rfl]
 rw [if_neg (by simp)]
 unfold setWalk
 refine wpAny_bind (wpAny_bind (wpAny_setState_of S.at_ S.data S.fits ?_))
 dsimp only
 refine wpAny_bind (lC ?_)
 rw [hb,if_pos rfl]
 exact wpAny_bind (wpAny_askSetting (wpAny_pure (wpAny_pure q)))
theorem uv {slot i:Nat} {Q:Option (Value × Nat)->Shared->Prop} (S:cZ knd s.heap a ks o es ep t) (hb:w.params.followText "set-order" = false) (hd:t.plain=true\/es.size<=1) (hs:SetTable.below t.place slot=i)
  (q:Q (match es[i]?,t.place[i]? with | some (_,x),some j=>some (x,j+1) | _,_=>none) s):wpAny (model prog w) A (setNext a slot i ep) Q E s:=by
 unfold setNext
 refine wpAny_bind (wpAny_setState_of S.at_ S.data S.fits ?_)
 dsimp only
 refine wpAny_bind (lC ?_)
 rw [hb,if_neg Bool.false_ne_true]
 refine wpAny_ite_split (fun h=>absurd (show (!t.plain && decide (es.size > 1))=true from h) ?_) (fun _=>?_)
 ·rcases hd with h | h
  ·rw [h];simp
  ·rw [show decide (es.size > 1)=false by simp;omega];simp
 have hl:t.led=true:=by rw [S.led,hb];rfl
 refine wpAny_bind ?_
 show wpAny _ _ (if (!t.led && !es.isEmpty)=true then unsupported "set:maker-not-led" else pure ()) _ _ s
 rw [hl,if_neg (by simp)]
 refine wpAny_pure ?_
 rw [hs]
 exact wpAny_pure q
theorem yK {i:Nat} {e:Int × Value} {Q:Value->Shared->Prop} (S:cZ knd s.heap a ks o es ep t) (he:es[i]? = some e) (q:Q e.2 s):wpAny (model prog w) A (setNextDrawn a i ep) Q E s:=by
 unfold setNextDrawn
 refine wpAny_bind (wpAny_setState_of S.at_ S.data S.fits ?_)
 dsimp only
 rw [if_neg (by simp)]
 rw [he]
 exact wpAny_pure q
theorem slot_next:Slot "set_iterator" "__next__" "set_iterator.__next__" :=
  Slot.of (owner := "set_iterator") (n := "__next__")
    (by rw [typeLookup_type,builtinLookup_eq_fast]
        kernel_rfl)
    (by decide +kernel)
    (by decide +kernel)
    (by decide +kernel)
    (by first
      | exact .inl (by decide +kernel)
      | exact .inr (by decide +kernel))
    (by rw [isSubtype_type]
        kernel_rfl)
theorem entry_next:entryFor table "set_iterator.__next__" = some Builtin.«set_iterator.__next__» :=
 entryFor_of_tree (by kernel_rfl)
theorem oC:Manifest.owners.lookup (String.ofList ['r','o','t','a','r','e','t','i','_','t','e','s'].reverse)=some Manifest.sig_set_iterator:=by
 kernel_rfl
theorem args_next (v:Value):argsOk "set_iterator.__next__" ⟨[v],[]⟩:=by
 unfold argsOk
 rw [signature?_of (id := "set_iterator.__next__") (n:=['_','_','t','x','e','n','_','_']) (o:=['r','o','t','a','r','e','t','i','_','t','e','s'])
  (by kernel_rfl) oC]
 kernel_rfl
end
def eY (h:Heap) (I:Addr) (first:Value) (i:Nat) (a:Addr) (n ep:Nat):Prop :=
 ∃ oI,h.get? I=some oI/\oI.cls=.type "set_iterator" /\ oI.data=.fields #[first,.int i 0,.ref a,.int n 0,.int ep 0]
theorem eY.type {s:Shared} {I:Addr} {first:Value} {i:Nat} {a:Addr} {n ep:Nat} (h:eY s.heap I first i a n ep):s.TypeIs (.ref I) "set_iterator" := let ⟨o,e,c,_⟩:=h;⟨o,e,c⟩
theorem eY.keep {h h':Heap} {I:Addr} {first:Value} {i:Nat} {a:Addr} {n ep:Nat} (x:eY h I first i a n ep) (k:∀ o,h.get? I=some o->h'.get? I=some o):eY h' I first i a n ep :=
 let ⟨o,e,c⟩:=x;⟨o,k _ e,c⟩
section
variable {prog:Program} {w:World} {K:Type} [DecidableEq K] {knd:KeyKind prog w K}
variable {A:Around} {E:Value->Shared->Prop} {s:Shared} {a I:Addr} {ks:List K} {o:Obj} {es:Array (Int × Value)} {ep:Nat} {t:SetTable}
theorem qh {slot nx i:Nat} {x:Value} {Q:Option Value->Shared->Prop} (hit:eY s.heap I (.int slot 0) i a es.size ep) (S:cZ knd s.heap a ks o es ep t)
  (hn:∀ (A:Around) (E:Value->Shared->Prop) (Q:Option (Value × Nat)->Shared->Prop),Q (some (x,nx)) s->wpAny (model prog w) A (setNext a slot i ep) Q E s)
  (q:∀ h',eY h' I (.int nx 0) (i+1) a es.size ep->Heap.SameBut I s.heap h'->Q (some x) { s with heap:=h' }):wpAny (model prog w) A (pyNext (.ref I)) Q E s:=by
 obtain⟨oI,ho,hc,hd⟩:=id hit
 unfold pyNext
 refine wpAny_bind (wpAny_attempt (wpAny_callSpecial?_slot (name:=Str.ofString "__next__") hit.type slot_next (wpAny_call_entry slot_next hit.type entry_next ?_ (args_next _))))
 unfold Builtin.«set_iterator.__next__»
 refine wpAny_bind (wpAny_pure ?_)
 refine wpAny_bind (wpAny_fieldsOf ho hd ?_)
 dsimp only
 refine wpAny_bind (wpAny_setEntries_of S.at_ S.data S.fits ?_)
 rw [if_neg (by simp)]
 simp only [Int.toNat_natCast]
 refine wpAny_bind (hn _ _ _ ?_)
 dsimp only
 refine wpAny_bind (wpAny_setField ho hd (by simp) ?_)
 have d1:(Obj.mapFields (·.setIfInBounds 0 (rawInt (nx:Int))) oI).data=.fields #[.int nx 0,.int i 0,.ref a,.int es.size 0,.int ep 0]:=by rw [Obj.data_mapFields hd];simp [rawInt]
 have g1:=Heap.get?_update_self (Obj.mapFields (·.setIfInBounds 0 (rawInt (nx:Int)))) ho (Obj.isFreed_of_fields (Obj.data_mapFields hd _))
 refine wpAny_bind (wpAny_setField g1 d1 (by simp) ?_)
 refine wpAny_pure ⟨_,rfl,wpAny_pure (q _ ⟨_,Heap.get?_update_self _ g1 (Obj.isFreed_of_fields (Obj.data_mapFields d1 _)),?_,?_⟩ ((Heap.SameBut.update ..).trans (Heap.SameBut.update ..)))⟩
 ·exact (Obj.cls_mapFields ..).trans ((Obj.cls_mapFields ..).trans hc)
 ·rw [Obj.data_mapFields d1];simp [rawInt]
theorem lS {Q:Option Value->Shared->Prop} {s0:Shared} (hh:A.handled=none) (hk:∀ b o,b ≠ I->s0.heap.get? b=some o->s.heap.get? b=some o)
  (q:∀ h',(∀ b o,b ≠ I->s0.heap.get? b=some o->h'.get? b=some o)->Q none { s with heap:=h' }) :
  wpAny (model prog w) A.in1 (newExc (.type "StopIteration") [] >>= fun e=>(raiseNew e:Sem Fin)) (fun _ _=>False)
   (fun e s'=>wpAny (model prog w) A (isInstance e (.type "StopIteration") >>= fun b=>if b=true then pure none else throw e) Q E s') s:=by
 refine wpAny_bind ?_
 simp only [newExc,newTuple]
 refine wpAny_bind (wpAny_newObj_type ?_ (by size_fits))
 refine wpAny_bind (m:=firstArgMember _ _) (wpAny_of_eq (a:=Value.none) (by first | rfl | (simp only [firstArgMember];rfl)) ?_)
 refine wpAny_newObj_type ?_ (by size_fits)
 simp only [raiseNew]
 refine wpAny_bind (wpAny_handled ?_)
 rw [show A.in1.handled=none from hh]
 refine wpAny_bind (wpAny_pure (wpAny_throw ?_))
 refine wpAny_bind (wpAny_isInstance (T := "StopIteration") (b:=true) ⟨_,Heap.get?_push_size _ rfl,rfl⟩ isSubtype_stop ?_)
 exact wpAny_pure (q _ fun b o hb e=>Heap.get?_push_of_some _ (Heap.get?_push_of_some _ (hk b o hb e)))
theorem rT {slot i:Nat} {Q:Option Value->Shared->Prop} (hh:A.handled=none) (hit:eY s.heap I (.int slot 0) i a es.size ep) (S:cZ knd s.heap a ks o es ep t)
  (hn:∀ (A:Around) (E:Value->Shared->Prop) (Q:Option (Value × Nat)->Shared->Prop),Q none s->wpAny (model prog w) A (setNext a slot i ep) Q E s)
  (q:∀ h',(∀ b o,b ≠ I->s.heap.get? b=some o->h'.get? b=some o)->Q none { s with heap:=h' }):wpAny (model prog w) A (pyNext (.ref I)) Q E s:=by
 obtain⟨oI,ho,hc,hd⟩:=id hit
 unfold pyNext
 refine wpAny_bind (wpAny_attempt (wpAny_callSpecial?_slot (name:=Str.ofString "__next__") hit.type slot_next (wpAny_call_entry slot_next hit.type entry_next ?_ (args_next _))))
 unfold Builtin.«set_iterator.__next__»
 refine wpAny_bind (wpAny_pure ?_)
 refine wpAny_bind (wpAny_fieldsOf ho hd ?_)
 dsimp only
 refine wpAny_bind (wpAny_setEntries_of S.at_ S.data S.fits ?_)
 rw [if_neg (by simp)]
 simp only [Int.toNat_natCast]
 refine wpAny_bind (hn _ _ _ ?_)
 dsimp only
 refine wpAny_bind (wpAny_setField ho hd (by simp) ?_)
 refine wpAny_mono (lS (I:=I) (s0:=s) (E:=E) (Q:=Q) hh (fun b o hb e=>(Heap.get?_update_other _ _ (Ne.symm hb)).trans e) fun h' k=>q h' k) (fun _ _ z=>z.elim) fun e s' z=>z
theorem vI {T:Addr} {i k:Nat} {oT:Obj} {its:Array Value} {c:Nat} {x:Int × Value} {Q:Option Value->Shared->Prop} (hit:eY s.heap I (.ref T) i a es.size ep) (S:cZ knd s.heap a ks o es ep t)
  (hT:s.heap.get? T=some oT) (dT:oT.data=.seq its c) (hk:its[i]? = some (.int k 0)) (hx:es[k]? = some x)
  (q:∀ h',eY h' I (.ref T) (i+1) a es.size ep->Heap.SameBut I s.heap h'->Q (some x.2) { s with heap:=h' }):wpAny (model prog w) A (pyNext (.ref I)) Q E s:=by
 obtain⟨oI,ho,hc,hd⟩:=id hit
 unfold pyNext
 refine wpAny_bind (wpAny_attempt (wpAny_callSpecial?_slot (name:=Str.ofString "__next__") hit.type slot_next (wpAny_call_entry slot_next hit.type entry_next ?_ (args_next _))))
 unfold Builtin.«set_iterator.__next__»
 refine wpAny_bind (wpAny_pure ?_)
 refine wpAny_bind (wpAny_fieldsOf ho hd ?_)
 dsimp only
 refine wpAny_bind (wpAny_setEntries_of S.at_ S.data S.fits ?_)
 rw [if_neg (by simp)]
 refine wpAny_bind (wpAny_seqItems hT dT ?_)
 dsimp only
 simp only [Int.toNat_natCast]
 rw [hk]
 dsimp only
 simp only [Int.toNat_natCast]
 refine wpAny_bind (yK S hx ?_)
 refine wpAny_bind (wpAny_setField ho hd (by simp) ?_)
 refine wpAny_pure ⟨_,rfl,wpAny_pure (q _ ⟨_,Heap.get?_update_self _ ho (Obj.isFreed_of_fields (Obj.data_mapFields hd _)),?_,?_⟩ (Heap.SameBut.update ..))⟩
 ·exact (Obj.cls_mapFields ..).trans hc
 ·rw [Obj.data_mapFields hd];simp [rawInt]
theorem xy {T:Addr} {i:Nat} {oT:Obj} {its:Array Value} {c:Nat} {Q:Option Value->Shared->Prop} (hh:A.handled=none) (hit:eY s.heap I (.ref T) i a es.size ep) (S:cZ knd s.heap a ks o es ep t)
  (hT:s.heap.get? T=some oT) (dT:oT.data=.seq its c) (hk:its[i]? = none)
  (q:∀ h',(∀ b o,b ≠ I->s.heap.get? b=some o->h'.get? b=some o)->Q none { s with heap:=h' }):wpAny (model prog w) A (pyNext (.ref I)) Q E s:=by
 obtain⟨oI,ho,hc,hd⟩:=id hit
 unfold pyNext
 refine wpAny_bind (wpAny_attempt (wpAny_callSpecial?_slot (name:=Str.ofString "__next__") hit.type slot_next (wpAny_call_entry slot_next hit.type entry_next ?_ (args_next _))))
 unfold Builtin.«set_iterator.__next__»
 refine wpAny_bind (wpAny_pure ?_)
 refine wpAny_bind (wpAny_fieldsOf ho hd ?_)
 dsimp only
 refine wpAny_bind (wpAny_setEntries_of S.at_ S.data S.fits ?_)
 rw [if_neg (by simp)]
 refine wpAny_bind (wpAny_seqItems hT dT ?_)
 dsimp only
 simp only [Int.toNat_natCast]
 rw [hk]
 dsimp only
 refine wpAny_bind (wpAny_setField ho hd (by simp) ?_)
 have d1:(Obj.mapFields (·.setIfInBounds 0 (rawInt 0)) oI).data=.fields #[.int 0 0,.int i 0,.ref a,.int es.size 0,.int ep 0]:=by rw [Obj.data_mapFields hd];simp [rawInt]
 have g1:=Heap.get?_update_self (Obj.mapFields (·.setIfInBounds 0 (rawInt 0))) ho (Obj.isFreed_of_fields (Obj.data_mapFields hd _))
 refine wpAny_bind (wpAny_setField g1 d1 (by simp) ?_)
 refine wpAny_mono (lS (I:=I) (s0:=s) (E:=E) (Q:=Q) hh (fun b o hb e=>(Heap.get?_update_other _ _ (Ne.symm hb)).trans ((Heap.get?_update_other _ _ (Ne.symm hb)).trans e)) fun h' k=>q h' k) (fun _ _ z=>z.elim) fun e s' z=>z
theorem m8:Slot "set_iterator" "__iter__" "set_iterator.__iter__" :=
  Slot.of (owner := "set_iterator") (n := "__iter__")
    (by rw [typeLookup_type,builtinLookup_eq_fast]
        kernel_rfl)
    (by decide +kernel)
    (by decide +kernel)
    (by decide +kernel)
    (by first
      | exact .inl (by decide +kernel)
      | exact .inr (by decide +kernel))
    (by rw [isSubtype_type]
        kernel_rfl)
theorem qN:entryFor table "set_iterator.__iter__" = some Builtin.«dict_keyiterator.__iter__» :=
 entryFor_alias (id' := "dict_keyiterator.__iter__")
  (by kernel_rfl) rfl
  (by decide +kernel)
  (by kernel_rfl)
theorem sO (v:Value):argsOk "set_iterator.__iter__" ⟨[v],[]⟩:=by
 unfold argsOk
 rw [signature?_of (id := "set_iterator.__iter__") (n:=['_','_','r','e','t','i','_','_']) (o:=['r','o','t','a','r','e','t','i','_','t','e','s'])
  (by kernel_rfl) oC]
 kernel_rfl
theorem kA {first:Value} {i:Nat} {Q:Value->Shared->Prop} {n:Nat} (hit:eY s.heap I first i a n ep) (q:Q (.ref I) s):wpAny (model prog w) A (pyIter (.ref I)) Q E s:=by
 refine wpAny_pyIter_slot hit.type m8 (wpAny_call_entry m8 hit.type qN ?_ (sO _))
 show wpAny _ _ (ret (.ref I)) _ _ s
 exact wpAny_pure ⟨_,rfl, "set_iterator",_,hit.type,slot_next.lookup,q⟩
theorem yL (hh:A.handled=none) (hI:a ≠ I) (hb:w.params.followText "set-order" = true) (nd:True) :
  Walks prog w A I [I,a] [I] es.size (fun i v=>∃ e,(pickOrder (w.params.setOrder a ep) es)[i]? = some e/\e.2=v) (fun i h=>eY h I (.int 0 0) i a es.size ep/\cZ knd h a ks o es ep t) where
 sub:=fun b hb=>by simp at hb;simp [hb]
 frame:=fun _ _ _ st k=>⟨st.1.keep fun o e=>k I (by simp) o e,st.2.keep fun o e=>k a (by simp) o e⟩
 item:=fun i s Q E hi st q=>by
  have z:(pickOrder (w.params.setOrder a ep) es).size=es.size:=by have:=(hZ (w.params.setOrder a ep) es).length_eq;simpa using this
  have g:(pickOrder (w.params.setOrder a ep) es)[i]? = some ((pickOrder (w.params.setOrder a ep) es)[i]'(by omega)):=by simp
  refine qh (slot:=0) (nx:=0) st.1 st.2 (fun A E Q h=>ur st.2 hb (by rw [g];exact h)) fun h' hit' sb=>?_
  exact q _ h' s.toks ⟨_,g,rfl⟩ ⟨hit',st.2.keep fun o e=>sb.extBut a o hI e⟩ fun b o hb e=>sb.extBut b o (fun z=>hb (by simp [z])) e
 done:=fun s Q E st q=>by
  have z:(pickOrder (w.params.setOrder a ep) es).size=es.size:=by have:=(hZ (w.params.setOrder a ep) es).length_eq;simpa using this
  refine rT (slot:=0) hh st.1 st.2 (fun A E Q h=>ur st.2 hb (by rw [Array.getElem?_eq_none (by omega)];exact h)) fun h' k=>?_
  exact q h' s.toks fun b o hb e=>k b o (fun z=>hb (by simp [z])) e
 self:=fun _ _ _ _ st q=>kA st.1 q
theorem mq {α : Type} {es:Array α}:∀ {ys:List Nat},(∀ k ∈ ys,k < es.size)->∀ i:Nat,(ys.filterMap fun k=>es[k]?)[i]? = (ys[i]?).bind fun k=>es[k]?
 | [],_,i=>by simp
 | y :: ys,h,i=>by
  have hy:es[y]? = some (es[y]'(h y (List.mem_cons_self ..))):=by simp
  rw [List.filterMap_cons,hy]
  cases i with
  | zero=>simp
  | succ i =>
   have:=mq (ys:=ys) (fun k hk=>h k (List.mem_cons_of_mem _ hk)) i
   simpa using this
def m9 (t:SetTable):Nat->Nat
 | 0=>0
 | i+1=>t.place.getD i 0+1
theorem nc {t:SetTable} (up:Up t.place) {i:Nat} (h:i<=t.place.size):SetTable.below t.place (m9 t i)=i:=by
 cases i with
 | zero=>exact sM up
 | succ i =>
  have hi:i < t.place.size:=by omega
  have e:t.place[i]? = some (t.place.getD i 0):=by simp [Array.getD,hi]
  exact sL up e
theorem yM (hh:A.handled=none) (hI:a ≠ I) (hb:w.params.followText "set-order" = false) (hd:t.plain=true\/es.size<=1) (hf:t.fits es.size=true) (hr:Rp t) :
  Walks prog w A I [I,a] [I] es.size (fun i v=>∃ e,es[i]? = some e/\e.2=v) (fun i h=>eY h I (.int (m9 t i) 0) i a es.size ep/\cZ knd h a ks o es ep t) where
 sub:=fun b hb=>by simp at hb;simp [hb]
 frame:=fun _ _ _ st k=>⟨st.1.keep fun o e=>k I (by simp) o e,st.2.keep fun o e=>k a (by simp) o e⟩
 item:=fun i s Q E hi st q=>by
  have z:t.place.size=es.size:=by simp only [SetTable.fits,Bool.and_eq_true,beq_iff_eq] at hf;exact hf.1
  have up:Up t.place:=by
   rcases hd with c | c
   ·exact hr c
   ·exact Up.bL (by omega)
  have g:es[i]? = some es[i]:=by simp [hi]
  have gp:t.place[i]? = some (t.place.getD i 0):=by simp [Array.getD,z,hi]
  refine qh (slot:=m9 t i) (nx:=m9 t (i+1)) (x:=es[i].2) st.1 st.2 (fun A E Q h=>uv st.2 hb hd (nc up (by omega)) (by rw [g,gp];exact h)) fun h' hit' sb=>?_
  exact q _ h' s.toks ⟨_,g,rfl⟩ ⟨hit',st.2.keep fun o e=>sb.extBut a o hI e⟩ fun b o hb e=>sb.extBut b o (fun z=>hb (by simp [z])) e
 done:=fun s Q E st q=>by
  have z:t.place.size=es.size:=by simp only [SetTable.fits,Bool.and_eq_true,beq_iff_eq] at hf;exact hf.1
  have up:Up t.place:=by
   rcases hd with c | c
   ·exact hr c
   ·exact Up.bL (by omega)
  refine rT (slot:=m9 t es.size) hh st.1 st.2 (fun A E Q h=>uv st.2 hb hd (nc up (by omega)) (by rw [Array.getElem?_eq_none (Nat.le_refl _)];exact h)) fun h' k=>?_
  exact q h' s.toks fun b o hb e=>k b o (fun z=>hb (by simp [z])) e
 self:=fun _ _ _ _ st q=>kA st.1 q
theorem yN {T:Addr} {oT:Obj} {ys:List Nat} (hh:A.handled=none) (hI:a ≠ I) (hT:T ≠ I) (dT:oT.data=.seq (ys.map fun (i:Nat)=>rawInt i).toArray 0) (hp:ys.Perm (List.range es.size)) :
  Walks prog w A I [I,a,T] [I] es.size (fun i v=>∃ e,((ys.filterMap fun k=>es[k]?))[i]? = some e/\e.2=v) (fun i h=>eY h I (.ref T) i a es.size ep/\cZ knd h a ks o es ep t/\h.get? T=some oT) where
 sub:=fun b hb=>by simp at hb;simp [hb]
 frame:=fun _ _ _ st k=>⟨st.1.keep fun o e=>k I (by simp) o e,st.2.1.keep fun o e=>k a (by simp) o e,k T (by simp) _ st.2.2⟩
 item:=fun i s Q E hi st q=>by
  have hl:ys.length=es.size:=by rw [hp.length_eq,List.length_range]
  have hin:∀ k ∈ ys,k < es.size:=fun k hk=>List.mem_range.mp (hp.mem_iff.mp hk)
  have h1:ys[i]? = some (ys[i]'(by omega)):=by simp
  have hk:ys[i]'(by omega) < es.size:=hin _ (List.getElem_mem _)
  generalize ys[i]'(by omega)=k at h1 hk
  have hx:es[k]? = some es[k]:=by simp [hk]
  have hv:(ys.filterMap fun k=>es[k]?)[i]? = some es[k]:=by
   rw [mq hin,h1]
   exact hx
  refine vI (k:=k) (x:=es[k]) st.1 st.2.1 st.2.2 dT (by simp [h1,rawInt]) hx fun h' hit' sb=>?_
  exact q _ h' s.toks ⟨_,hv,rfl⟩ ⟨hit',st.2.1.keep fun o e=>sb.extBut a o hI e,sb.extBut T _ hT st.2.2⟩ fun b o hb e=>sb.extBut b o (fun z=>hb (by simp [z])) e
 done:=fun s Q E st q=>by
  have hl:ys.length=es.size:=by rw [hp.length_eq,List.length_range]
  refine xy hh st.1 st.2.1 st.2.2 dT (by simp [hl]) fun h' k=>?_
  exact q h' s.toks fun b o hb e=>k b o (fun z=>hb (by simp [z])) e
 self:=fun _ _ _ _ st q=>kA st.1 q
theorem kB {b x y:Addr} (h:b ∈ [x,y]):b=x\/b=y:=by simpa using h
theorem vJ {b x y z:Addr} (h:b ∈ [x,y,z]):b=x\/b=y\/b=z:=by simpa using h
theorem sP:entryFor table "set.__iter__" = some Builtin.«frozenset.__iter__» :=
 entryFor_alias (id' := "frozenset.__iter__")
  (by kernel_rfl) rfl
  (by decide +kernel)
  (by kernel_rfl)
theorem cZ.typeIs (S:cZ knd s.heap a ks o es ep t):s.TypeIs (.ref a) "set" := ⟨o,S.at_,S.ex.1⟩
theorem qO {Q:Bool->Shared->Prop} (S:cZ knd s.heap a ks o es ep t) (q:Q (!(w.params.followText "set-order") && (!t.plain && decide (es.size > 1))) s):wpAny (model prog w) A (setDrawn a) Q E s:=by
 unfold setDrawn
 refine wpAny_bind (wpAny_setState_of S.at_ S.data S.fits ?_)
 dsimp only
 exact wpAny_bind (lC (wpAny_pure q))
def Comes (es:Array (Int × Value)) (P:Nat->Value->Prop):Prop:=∃ l:List (Int × Value),l.Perm es.toList/\P=fun i v=>∃ e,l[i]? = some e/\e.2=v
theorem vK {Q:Value->Shared->Prop} (hh:A.handled=none) (S:cZ knd s.heap a ks o es ep t)
  (q:∀ (I:Addr) (h':Heap) (d:_) (fp:List Addr) (P:Nat->Value->Prop) (St:Nat->Heap->Prop),(∀ b o,s.heap.get? b=some o->h'.get? b=some o)->s.heap.objs.size<=I->(∀ b ∈ fp,b < h'.objs.size)->(∀ b,h'.objs.size<=b->b ∉ fp) ->
   (∀ b ∈ fp,b=a\/s.heap.objs.size<=b)->Comes es P->(∀ A:Around,A.handled=none->Walks prog w A I fp [I] es.size P St)->St 0 h'->Q (.ref I) { s with heap:=h',drawn:=d }) :
  wpAny (model prog w) A (pyIter (.ref a)) Q E s:=by
 have la:a < s.heap.objs.size:=Heap.lt_size S.at_
 refine wpAny_pyIter_slot S.typeIs PySem.F.slot_set_iter (wpAny_call_entry PySem.F.slot_set_iter S.typeIs sP ?_ (PySem.F.args_set_iter_1 _))
 unfold Builtin.«frozenset.__iter__»
 refine wpAny_bind ?_
 unfold Builtin.Frozenset.slot0
 refine wpAny_bind (wpAny_pure ?_)
 refine wpAny_pure ?_
 refine wpAny_bind ?_
 unfold Builtin.Frozenset.sizeOf
 refine wpAny_bind (wpAny_setEntries_of S.at_ S.data S.fits (wpAny_pure ?_))
 refine wpAny_bind (qO S ?_)
 cases hb:w.params.followText "set-order" with
 | true =>
  rw [Bool.not_true,Bool.false_and,if_neg Bool.false_ne_true]
  refine wpAny_bind (wpAny_pure ?_)
  refine wpAny_bind (wpAny_setEpoch_of S.at_ S.data S.fits ?_)
  refine wpAny_bind ?_
  simp only [newFields]
  refine wpAny_newObj_type (wpAny_pure ⟨_,rfl, "set_iterator",_,⟨_,Heap.get?_push_size _ rfl,rfl⟩,slot_next.lookup,?_⟩) (by size_fits)
  refine q _ _ s.drawn [s.heap.objs.size,a] _ _ (fun b o e=>Heap.get?_push_of_some _ e) (Nat.le_refl _) (fun b hb=>?_) (fun b hb hm=>?_) (fun b hb=>?_) ⟨_,hZ (w.params.setOrder a ep) es,?_⟩ (fun A hh=>yL (knd:=knd) (ks:=ks) (o:=o) (t:=t) hh (Nat.ne_of_lt la) hb trivial) ⟨⟨_,Heap.get?_push_size _ rfl,rfl,rfl⟩,S.keep fun o e=>Heap.get?_push_of_some _ e⟩
  ·rw [Heap.size_push]
   rcases kB hb with e | e
   ·rw [e];exact Nat.lt_succ_self _
   ·rw [e];exact Nat.lt_succ_of_lt la
  ·rw [Heap.size_push] at hb
   rcases kB hm with e | e
   ·rw [e] at hb;exact Nat.not_succ_le_self _ hb
   ·rw [e] at hb;exact Nat.lt_irrefl _ (Nat.lt_of_lt_of_le la (Nat.le_of_succ_le hb))
  ·rcases kB hb with e | e
   ·exact .inr (by rw [e];exact Nat.le_refl _)
   ·exact .inl e
  ·funext i v;simp
 | false =>
  rw [Bool.not_false,Bool.true_and]
  by_cases hd:(!t.plain && decide (es.size > 1))=true
  ·rw [hd,if_pos rfl]
   refine wpAny_bind (zo es.size (List.range es.size) s (by simp) fun ys d hp=>?_)
   have hz:(ys.map fun (i:Nat)=>rawInt i).length<=sizeLine:=by rw [List.length_map,hp.length_eq,List.length_range];exact fits_of_scanBound S.bL
   refine wpAny_bind (wpAny_newTuple ?_ hz)
   have S1:cZ knd (s.heap.push { cls:=.type "tuple",data:=.seq (ys.map fun (i:Nat)=>rawInt i).toArray }) a ks o es ep t:=S.keep fun o e=>Heap.get?_push_of_some _ e
   refine wpAny_bind (wpAny_setEpoch_of S1.at_ S1.data S1.fits ?_)
   refine wpAny_bind ?_
   simp only [newFields]
   refine wpAny_newObj_type (wpAny_pure ⟨_,rfl, "set_iterator",_,⟨_,Heap.get?_push_size _ rfl,rfl⟩,slot_next.lookup,?_⟩) (by size_fits)
   refine q _ _ d [(s.heap.push { cls:=.type "tuple",data:=.seq (ys.map fun (i:Nat)=>rawInt i).toArray }).objs.size,a,s.heap.objs.size] _ _ (fun b o e=>Heap.get?_push_of_some _ (Heap.get?_push_of_some _ e)) (by rw [Heap.size_push];exact Nat.le_succ _) (fun b hb=>?_) (fun b hb hm=>?_) (fun b hb=>?_) ⟨ys.filterMap fun k=>es[k]?,?_,rfl⟩
    (fun A hh=>yN (knd:=knd) (ks:=ks) (o:=o) (t:=t) (oT:={ cls:=.type "tuple",data:=.seq (ys.map fun (i:Nat)=>rawInt i).toArray }) hh (by rw [Heap.size_push];exact Nat.ne_of_lt (Nat.lt_succ_of_lt la)) (by rw [Heap.size_push];exact Nat.ne_of_lt (Nat.lt_succ_self _)) rfl hp) ⟨⟨_,Heap.get?_push_size _ rfl,rfl,rfl⟩,S1.keep fun o e=>Heap.get?_push_of_some _ e,Heap.get?_push_of_some _ (Heap.get?_push_size _ rfl)⟩
   ·rw [Heap.size_push,Heap.size_push]
    rcases vJ hb with e | e | e
    ·rw [e,Heap.size_push];exact Nat.lt_succ_self _
    ·rw [e];exact Nat.lt_succ_of_lt (Nat.lt_succ_of_lt la)
    ·rw [e];exact Nat.lt_succ_of_lt (Nat.lt_succ_self _)
   ·rw [Heap.size_push,Heap.size_push] at hb
    rcases vJ hm with e | e | e
    ·rw [e,Heap.size_push] at hb;exact Nat.not_succ_le_self _ hb
    ·rw [e] at hb;exact Nat.lt_irrefl _ (Nat.lt_of_lt_of_le la (Nat.le_of_succ_le (Nat.le_of_succ_le hb)))
    ·rw [e] at hb;exact Nat.not_succ_le_self _ (Nat.le_of_succ_le hb)
   ·rcases vJ hb with e | e | e
    ·exact .inr (by rw [e,Heap.size_push];exact Nat.le_succ _)
    ·exact .inl e
    ·exact .inr (by rw [e];exact Nat.le_refl _)
   ·refine (hp.filterMap _).trans ?_
    have:((List.range es.size).filterMap fun k=>es[k]?)=es.toList:=by
     refine List.ext_getElem? fun i=>?_
     rw [mq (fun k hk=>List.mem_range.mp hk)]
     by_cases hi:i < es.size
     ·rw [List.getElem?_range hi];simp
     ·rw [List.getElem?_eq_none (by simp;omega),List.getElem?_eq_none (by simp;omega)];rfl
    rw [this]
  ·rw [if_neg hd]
   refine wpAny_bind (wpAny_pure ?_)
   refine wpAny_bind (wpAny_setEpoch_of S.at_ S.data S.fits ?_)
   refine wpAny_bind ?_
   simp only [newFields]
   refine wpAny_newObj_type (wpAny_pure ⟨_,rfl, "set_iterator",_,⟨_,Heap.get?_push_size _ rfl,rfl⟩,slot_next.lookup,?_⟩) (by size_fits)
   have hd':t.plain=true\/es.size<=1:=by
    cases hp:t.plain with
    | true=>exact .inl rfl
    | false=>right;rw [hp] at hd;simp at hd;exact hd
   refine q _ _ s.drawn [s.heap.objs.size,a] _ _ (fun b o e=>Heap.get?_push_of_some _ e) (Nat.le_refl _) (fun b hb=>?_) (fun b hb hm=>?_) (fun b hb=>?_) ⟨es.toList,.refl _,?_⟩ (fun A hh=>yM (knd:=knd) (ks:=ks) (o:=o) (t:=t) hh (Nat.ne_of_lt la) hb hd' S.fits S.up) ⟨⟨_,Heap.get?_push_size _ rfl,rfl,rfl⟩,S.keep fun o e=>Heap.get?_push_of_some _ e⟩
   ·rw [Heap.size_push]
    rcases kB hb with e | e
    ·rw [e];exact Nat.lt_succ_self _
    ·rw [e];exact Nat.lt_succ_of_lt la
   ·rw [Heap.size_push] at hb
    rcases kB hm with e | e
    ·rw [e] at hb;exact Nat.not_succ_le_self _ hb
    ·rw [e] at hb;exact Nat.lt_irrefl _ (Nat.lt_of_lt_of_le la (Nat.le_of_succ_le hb))
   ·rcases kB hb with e | e
    ·exact .inr (by rw [e];exact Nat.le_refl _)
    ·exact .inl e
   ·funext i v;simp
theorem vL {Q:Bool->Shared->Prop} (hT:s.TypeIs (.ref a) "set") (q:Q false s):wpAny (model prog w) A (Builtin.List.listLengthHint (.ref a)) Q E s:=by
 unfold Builtin.List.listLengthHint
 refine wpAny_bind (wpAny_specialOf hT PySem.F.slot_set_len.lookup ?_)
 generalize hid:("set.__len__" : String)=id0
 wp_delta
 rw [show splitId id0=some ("set", "__len__") from by subst hid;decide +kernel]
 subst hid
 refine wpAny_bind (wpAny_isInstance (T := "set") (b:=true) hT sub_set_self ?_)
 refine wpAny_ite_split (fun hab=>absurd hab (by decide)) (fun _=>?_)
 refine wpAny_ite_split (fun _=>?_) (fun hab=>absurd (by decide +kernel) hab)
 refine wpAny_bind (wpAny_typeOf hT ?_)
 exact wpAny_pure q
end
open PySem.Calls PySem.W
section
variable {prog:Program} {w:World} {K:Type} [DecidableEq K] {knd:KeyKind prog w K}
variable {A:Around} {E:Value->Shared->Prop} {s:Shared} {a:Addr} {ks:List K} {o:Obj} {es:Array (Int × Value)} {ep:Nat} {t:SetTable}
theorem qP {P:Nat->Value->Prop} {got:Array Value} (hc:Comes es P) (hi:ItemsOf P got es.size):∃ l:List (Int × Value),l.Perm es.toList/\got.toList=l.map (·.2):=by
 obtain⟨l,hp,rfl⟩:=hc
 refine⟨l,hp,?_⟩
 have hl:l.length=es.size:=by rw [hp.length_eq,Array.length_toList]
 refine List.ext_getElem? fun i=>?_
 rw [List.getElem?_map]
 by_cases h:i < es.size
 ·have e1:got.toList[i]? = some (got[i]'(by rw [hi.1];exact h)):=by simp [hi.1,h]
  obtain⟨e,he,hv⟩:=hi.2 i _ (by rw [<-Array.getElem?_toList];exact e1)
  rw [e1,he,<-hv];rfl
 ·rw [List.getElem?_eq_none (by rw [Array.length_toList,hi.1];omega),List.getElem?_eq_none (by omega)];rfl
theorem sQ {R:Result->Shared->Prop} (hh:A.handled=none) (S:cZ knd s.heap a ks o es ep t) (L:Addr) (hLa:L ≠ a) (hL:s.heap.get? L=some { cls:=.type "list",data:=.seq #[] 0 }) (res:Value)
  (fin:∀ (g:Heap) (tk:Nat) (d:_) (got:Array Value) (c:Nat),(∀ b o,b ≠ L->s.heap.get? b=some o->g.get? b=some o)->g.get? L=some { cls:=.type "list",dict:=none,data:=.seq got c,slots:=#[] } ->
   (∃ l:List (Int × Value),l.Perm es.toList/\got.toList=l.map (·.2))->R (.ok (.ret res)) { s with heap:=g,toks:=tk,drawn:=d }) :
  wpAny (model prog w) A.in1 (Builtin.List.listExtendWith (.ref L) (.ref a) res)
   (fun fin s'=>match fin with | .done f=>R (.ok f) s' | .again c'=>c'.quiet=true/\codeAny (model prog w) A c' R s') (fun e s'=>R (.error e) s') s:=by
 have hz:es.size<=sizeLine:=fits_of_scanBound S.bL
 unfold Builtin.List.listExtendWith
 refine wpAny_bind (wpAny_typeOf S.typeIs ?_)
 have h1:Builtin.List.listSameRef (.ref L) (.ref a)=false:=by simp [Builtin.List.listSameRef,hLa]
 rw [h1]
 have h2:(Value.type "set" == Value.type "list")=false:=by decide
 have h3:(Value.type "set" == Value.type "tuple")=false:=by decide
 rw [h2,h3]
 rw [if_neg (by decide)]
 refine wpAny_bind (vK (A:=A.in1) hh S fun I h1 d fp P St keep hI hfp hnew hof hc W st=>?_)
 have hLlt:L < s.heap.objs.size:=Heap.lt_size hL
 have hLf:L ∉ fp:=fun hm=>by
  rcases hof L hm with e | e
  ·exact hLa e
  ·exact Nat.lt_irrefl _ (Nat.lt_of_lt_of_le hLlt e)
 have hLI:L ≠ I:=fun e=>Nat.lt_irrefl _ (Nat.lt_of_lt_of_le hLlt (e ▸ hI))
 have Wk:=W A.in1 hh
 have loop:∀ (g:Heap) (c tk:Nat),St 0 g->(∀ b o,b ≠ L->s.heap.get? b=some o->g.get? b=some o)->g.get? L=some { cls:=.type "list",data:=.seq #[] c } ->
   codeAny (model prog w) A (.builtin "list.extend.loop" ⟨[.ref L,.ref I,res],[]⟩) R { s with heap:=g,toks:=tk,drawn:=d }:=by
  intro g c tk st' kp gL
  refine codeAny_extend_loopS Wk.toS hz L hLf res es.size 0 _ #[] c rfl (Nat.zero_le _) st' gL (ItemsOf.nil _) fun s' got c' mv gL' its=>?_
  have e:=Moved.eq_with mv
  rw [e]
  refine fin s'.heap s'.toks d got c' (fun b o hb e=>mv.heap b o (fun hm=>?_) (kp b o hb e)) gL' (qP hc its)
  rcases List.mem_cons.mp hm with e' | hm
  ·exact hb e'
  ·rw [List.mem_singleton] at hm
   subst hm
   exact Nat.lt_irrefl _ (Nat.lt_of_lt_of_le (Heap.lt_size e) hI)
 have gL1:=keep _ _ hL
 refine wpAny_bind (wpAny_holding (vL ⟨o,keep _ _ S.at_,S.ex.1⟩ ?_))
 refine wpAny_ite_split (fun _=>?_) (fun _=>wpAny_pure ⟨plainId_quiet PySem.F.plain_extend_loop _,loop _ 0 _ st (fun b o _ e=>keep b o e) gL1⟩)
 refine wpAny_bind (wpAny_rule ?_)
 refine wpAny_bind ?_
 show wpAny _ _ (updateSeq L (·.push .none) >>= fun _=>updateSeq L (·.pop)) _ _ _
 refine wpAny_bind (wpAny_updateSeq gL1 rfl ?_)
 have gL2:=Heap.get?_update_self (Obj.mapSeq (·.push Value.none)) gL1 rfl
 refine wpAny_updateSeq (hz:=by seq_fits) gL2 rfl ?_
 have gL3:=Heap.get?_update_self (Obj.mapSeq (·.pop)) gL2 rfl
 refine wpAny_pure ⟨plainId_quiet PySem.F.plain_extend_loop _,loop _ _ _ ?_ (fun b o hb e=>?_) gL3⟩
 ·refine Wk.frame 0 _ _ st fun b hb o e=>?_
  have hbL:b ≠ L:=fun h=>hLf (h ▸ hb)
  exact (Heap.get?_update_other _ _ (Ne.symm hbL)).trans ((Heap.get?_update_other _ _ (Ne.symm hbL)).trans e)
 ·exact (Heap.get?_update_other _ _ (Ne.symm hb)).trans ((Heap.get?_update_other _ _ (Ne.symm hb)).trans (keep b o e))
theorem sR {G:List Value->Shared->Prop} (calm:A.handled=none) (S:cZ knd s.heap a ks o es ep t)
  (fin:∀ (g:Heap) (tk:Nat) (d:_) (got:Array Value),(∀ b o,s.heap.get? b=some o->g.get? b=some o)->(∃ l:List (Int × Value),l.Perm es.toList/\got.toList=l.map (·.2))->s.heap.objs.size<=g.objs.size->G got.toList { s with heap:=g,toks:=tk,drawn:=d }) :
  wpAny (model prog w) A (collect (.ref a)) G E s:=by
 have la:a < s.heap.objs.size:=Heap.lt_size S.at_
 unfold collect
 refine wpAny_bind (wpAny_runValue (codeAny_builtin entry_proto_collect' ?_))
 rw [Around.under_plainId PySem.F.plain_proto_collect _]
 show wpAny _ A.in1 (newList [] >>= fun z=>again (.builtin "list.__iadd__" ⟨[z,.ref a],[]⟩)) _ _ s
 refine wpAny_bind (wpAny_newObj_type (wpAny_pure ⟨plainId_quiet PySem.F.plain_list_iadd _,codeAny_builtin entry_list_iadd' ?_⟩))
 rw [Around.under_plainId PySem.F.plain_list_iadd _]
 show wpAny _ A.in1 (Builtin.List.listExtendWith (.ref s.heap.objs.size) (.ref a) (.ref s.heap.objs.size)) _ _ _
 have made:(s.heap.push { cls:=.type "list",data:=.seq ([]:List Value).toArray }).get? s.heap.objs.size=some { cls:=.type "list",data:=.seq #[] 0 }:=Heap.get?_push_size _ rfl
 have run:=sQ (A:=A) (s:={ s with heap:=s.heap.push { cls:=.type "list",data:=.seq ([]:List Value).toArray } })
  (R:=fun (z:Result) (t:Shared)=>∃ (g:Heap) (tk:Nat) (d:_) (got:Array Value) (c:Nat),z=.ok (.ret (.ref s.heap.objs.size))/\t = { s with heap:=g,toks:=tk,drawn:=d } /\
   (∀ b o,s.heap.get? b=some o->g.get? b=some o)/\g.get? s.heap.objs.size=some { cls:=.type "list",dict:=none,data:=.seq got c,slots:=#[] }/\∃ l:List (Int × Value),l.Perm es.toList/\got.toList=l.map (·.2))
  calm (S.keep fun o e=>Heap.get?_push_of_some _ e) s.heap.objs.size (Nat.ne_of_gt la) made (.ref s.heap.objs.size)
  (fun g tk d got c kept at_ its=>⟨g,tk,d,got,c,rfl,rfl,fun b o e=>kept b o (Nat.ne_of_lt (Heap.lt_size e)) (Heap.get?_push_of_some _ e),at_,its⟩)
 refine wpAny_mono run (fun z t x=>?_) fun z t ⟨_,_,_,_,_,bad,_⟩=>by cases bad
 cases z with
 | done f =>
  obtain⟨g,tk,d,got,c,e,rfl,kept,at_,its⟩:=x
  cases e
  show wpAny _ A (load s.heap.objs.size >>= _) _ _ _
  exact wpAny_bind (wpAny_load at_ (wpAny_pure (fin g tk d got kept its (Nat.le_of_lt (Heap.lt_size at_)))))
 | again more =>
  refine⟨x.1,codeAny_mono x.2 fun z' t' ⟨g,tk,d,got,c,e1,e2,kept,at_,its⟩=>?_⟩
  subst e1 e2
  show wpAny _ A (load s.heap.objs.size >>= _) _ _ _
  exact wpAny_bind (wpAny_load at_ (wpAny_pure (fin g tk d got kept its (Nat.le_of_lt (Heap.lt_size at_)))))
end
end LS
namespace L2
open PySem PySem.Spec PyProof.Rows LS
theorem qQ {P:Program} {w:World} {i:Int} {v:Value} (h:(aL P w).is (Sum.inl i) v=true):∃ t,v=.int i t:=by
 rcases cC (show ij (Sum.inl i) v=true from h) with ⟨j,t,e,rfl⟩ | ⟨x,t,e,rfl⟩
 ·cases e;exact⟨t,rfl⟩
 ·cases e
def ng (m:List Key):List Str:=m.filterMap fun k=>match k with | .inr x=>some x | .inl _=>none
theorem uw (ss:List Str):ng (ss.map Sum.inr)=ss:=by
 induction ss with
 | nil=>rfl
 | cons x ss ih=>show x :: ng (ss.map Sum.inr)=x :: ss;rw [ih]
theorem vM {m:List Key} {ss:List Str} (p:m.Perm (ss.map Sum.inr)):m=(ng m).map Sum.inr/\(ng m).Perm ss:=by
 refine⟨?_,by have:=p.filterMap (fun k:Key=>match k with | .inr x=>some x | .inl _=>none);rw [show List.filterMap _ (ss.map Sum.inr)=ss from uw ss] at this;exact this⟩
 have hall:∀ k ∈ m,∃ x,k=Sum.inr x:=fun k hk=>by
  obtain⟨x,_,rfl⟩:=List.mem_map.mp (p.mem_iff.mp hk)
  exact⟨x,rfl⟩
 clear p
 induction m with
 | nil=>rfl
 | cons k m ih =>
  obtain⟨x,rfl⟩:=hall k (List.mem_cons_self ..)
  have:=ih fun k hk=>hall k (List.mem_cons_of_mem _ hk)
  show Sum.inr x :: m=Sum.inr x :: (ng m).map Sum.inr
  rw [<-this]
section
variable {prog:Program} {w:World} {A:Around} {E:Value->Shared->Prop} {s:Shared} {a:Addr} {ks:List Key} {o:Obj} {es:Array (Int × Value)} {ep:Nat} {t:SetTable}
theorem vP {got:List Value} (S:LS.cZ (aL prog w) s.heap a ks o es ep t) (h:∃ l:List (Int × Value),l.Perm es.toList/\got=l.map (·.2)):∃ m:List Key,m.Perm ks/\Paired (fun v k=>(aL prog w).is k v=true) got m:=by
 obtain⟨l,hp,rfl⟩:=h
 obtain⟨ls,q1,q2⟩:=S.ents
 obtain⟨m,m1,m2⟩:=jy hp q2
 refine⟨m,m1.trans q1,?_⟩
 clear hp q2 m1
 induction m2 with
 | nil=>exact .nil
 | cons r _ ih=>exact .cons r.1 ih
theorem kC:∀ {got:List Value} {ss:List Str},Paired (fun v k=>(aL prog w).is k v=true) got (ss.map Sum.inr)->StrsAre got ss
 | _,[],.nil=>.nil
 | _,x :: ss,.cons r t=>by
  obtain⟨t',rfl⟩:=jx r
  exact .cons x t' (kC t)
theorem qR {ss:List Str} {Q:Value->Shared->Prop} (hh:A.handled=none) (S:LS.cZ (aL prog w) s.heap a (ss.map Sum.inr) o es ep t) (h64:ss.length < 64)
  (q:∀ (h':Heap) (tk:Nat) (d:_) (D:Addr) (out:Array Value) (ss':List Str) (e:Nat),(∀ b o,s.heap.get? b=some o->h'.get? b=some o)->s.heap.objs.size<=D->h'.get? D=some { cls:=.type "list",data:=.seq out e } ->
   StrsAre out.toList ss'->ss'.Perm ss->sortedS ss' = true->Q (.ref D) { s with heap:=h',toks:=tk,drawn:=d }) :
  wpAny (model prog w) A (call (.builtin "sorted") [.ref a]) Q E s:=by
 refine Calls.call_function_entry kind_sorted plain_sorted entry_sorted (args_sorted1 _) ?_
 unfold Builtin.«sorted»
 refine wpAny_bind (m:=checkCount "sorted" 1 1 _) (wpAny_pure ?_)
 refine wpAny_bind (sR (A:=A.in1) hh S fun h' tk d acc hkeep hacc hsz=>?_)
 obtain⟨m,m1,m2⟩:=vP S hacc
 obtain⟨e1,p1⟩:=vM m1
 rw [e1] at m2
 have hS:=kC m2
 have hl:acc.toList.length < 64:=by rw [m2.length,List.length_map,p1.length_eq];exact h64
 refine wpAny_bind (wpAny_newList ?_ (Nat.le_trans (Nat.le_of_lt hl) (by decide)))
 have hoL:(h'.push (seqObj "list" acc.toList.toArray 0)).get? h'.objs.size=some (seqObj "list" acc.toList.toArray 0):=Heap.get?_push_size _ rfl
 refine wpAny_bind (wpAny_holding (wpAny_call_entry slot_list_sort ⟨_,hoL,rfl⟩ entry_list_sort (list_sort_treeK strKind_oneLt hoL hS.keysOf (fun v₁ v₂ rest e=>keyKind_strs (by rw [<-e];exact hS)) hl fun st' a1 a2=>⟨_,rfl,?_⟩) (args_list_sort _)))
 obtain⟨ss',b1,b2,b3⟩:=sorted_out_str hS a1 a2
 obtain⟨e,he⟩:=sortedHeap_at (out:=(arrOf st').map (·.2)) hoL
 refine wpAny_pure ⟨_,rfl,q _ tk d _ _ ss' e (fun b o ho=>?_) hsz he b1 (b2.trans p1) b3⟩
 have h1:=hkeep b o ho
 have hlt:=Heap.lt_size h1
 rw [sortedHeap_old (Nat.ne_of_lt hlt) (by rw [size_push'];exact Nat.lt_succ_of_lt hlt)]
 exact Heap.get?_push_of_some _ h1
end
def qi (P:Program) (w:World) (a:Addr) (ks:List Key):HO:=.ext fun h=>fX (aL P w) h a ks
theorem xA {P:Program} {w:World} {H:Hp} {h:Heap} {a:Addr} {ks:List Key} (S:fX (aL P w) h a ks):bS P w H h a (qi P w a ks) :=
 ⟨S,let ⟨o,_,_,_,S⟩:=S;⟨o,S.at_⟩,fun h1 h2 S k=>S.keep k⟩
section
variable {X:Cx} {pins:List (Addr × Obj)} {σ : List (Option V)} {H:Hp} {s:Shared}
theorem Inv.Ab {a:Addr} {ks:List Key} (I:Inv X pins σ H s) (h:H a=some (qi X.prog X.w a ks)):fX (aL X.prog X.w) s.heap a ks:=(I.aG a _ h).1
theorem Inv.xB {d:_} (I:Inv X pins σ H s):Inv X pins σ H { s with drawn:=d }:=⟨I.ok,I.os,I.bare,I.base,I.loc,I.cell,I.free,I.d8,I.pin,I.aG,I.len⟩
theorem oO (hc:X.calm=true):d9 X (.builtin "sorted") (fun vs H Q=>∃ (a:Addr) (ss:List Str),vs = [.ref a]/\H a=some (qi X.prog X.w a (ss.map Sum.inr))/\ss.length < 64 /\
  ∀ (l:Addr) (ss':List Str),ss'.Perm ss->sortedS ss' = true->H l=none->Q (.ref l) (upd H l (.lst (ss'.map V.str)))):=by
 intro pins s σ H xs us Q I r h
 obtain⟨a,ss,rfl,ha,h64,q⟩:=h
 obtain⟨u,rfl,ru⟩:=vals1 r
 cases (show u=Value.ref a from ru)
 obtain⟨o,es,ep,t,S⟩:=I.Ab ha
 refine qR (I.ok.hd hc) S h64 fun h' tk d D out ss' e hkeep hD he hS hp hs=>?_
 have hv:Vals (ss'.map V.str) out.toList:=nK hS
 refine⟨.ref D,_,(I.xB (d:=d)).laid (t':=tk) (o:=.lst (ss'.map V.str)) hkeep hD (show bS X.prog X.w _ h' _ (.lst (ss'.map V.str)) from ⟨?_,out.toList,e,hv,by simpa using he⟩),rfl,q D ss' hp hs (I.aG.fresh hD)⟩
 rw [List.length_map,hp.length_eq]
 exact Nat.le_trans (Nat.le_of_lt h64) (by decide)
end
end L2
namespace LS
open PySem PySem.Spec PyProof.Rows L2
section
variable {K:Type} [DecidableEq K]
def putIn (acc:List K) (k:K):List K:=if k ∈ acc then acc else acc ++ [k]
def cn (ms:List K):List K:=ms.foldl putIn []
theorem ux {acc:List K} {k x:K}:x ∈ putIn acc k ↔ x ∈ acc\/x=k:=by
 unfold putIn
 split
 ·rename_i h
  exact⟨.inl,fun z=>z.elim id (fun e=>e ▸ h)⟩
 ·simp
theorem uy (acc:List K) (k:K):(putIn acc k).length<=acc.length+1:=by unfold putIn;split <;> simp
theorem ql:∀ (ms acc:List K) (x:K),x ∈ ms.foldl putIn acc ↔ x ∈ acc\/x ∈ ms
 | [],acc,x=>by simp
 | k :: ms,acc,x=>by
  rw [List.foldl_cons,ql ms,ux]
  simp [or_assoc]
theorem jo {ms:List K} {x:K}:x ∈ cn ms ↔ x ∈ ms:=by unfold cn;rw [ql];simp
theorem qm:∀ (ms acc:List K),(ms.foldl putIn acc).length<=acc.length+ms.length
 | [],acc=>by simp
 | k :: ms,acc=>by
  rw [List.foldl_cons]
  have:=qm ms (putIn acc k)
  have:=uy acc k
  simp only [List.length_cons];omega
theorem rV:∀ (ms acc:List K),acc.Nodup->(ms.foldl putIn acc).Nodup
 | [],acc,h=>h
 | k :: ms,acc,h=>by
  rw [List.foldl_cons]
  refine rV ms _ ?_
  unfold putIn
  split
  ·exact h
  ·rename_i hn
   rw [List.nodup_append]
   exact⟨h,by simp,fun a ha b hb e=>hn (by rw [List.mem_singleton] at hb;rw [<-hb,<-e];exact ha)⟩
theorem mr (ms:List K):(cn ms).Nodup:=rV ms [] List.nodup_nil
end
section
variable {prog:Program} {w:World} {A:Around} {E:Value->Shared->Prop} {s:Shared}
theorem vQ {k:Key} {v:Value} (h:(aL prog w).is k v=true):v.scannable=true:=by
 rcases cC (show ij k v=true from h) with ⟨j,t,_,rfl⟩ | ⟨x,t,_,rfl⟩ <;> rfl
theorem xC {a:Addr} {ks:List Key} {k:Key} {v:Value} {Q:Bool->Shared->Prop} (hk:(aL prog w).is k v=true) (S:fX (aL prog w) s.heap a ks) (room:ks.length+1 < scanBound)
  (q:∀ h',Heap.SameBut a s.heap h'->fX (aL prog w) h' a (putIn ks k)->∀ c:Bool,Q c { s with heap:=h',toks:=s.toks+1 }):wpAny (model prog w) A (setAdd a v) Q E s:=by
 unfold setAdd
 refine wpAny_holding ?_
 refine wpAny_bind ((aL prog w).pyHash hk ?_)
 exact sN (s:={ s with toks:=s.toks+1 }) hk (vQ hk) S room fun h' b S'=>q h' b S' _
theorem uz {I L:Addr} {fp wr:List Addr} {G:Array GenState->Array GenState->Prop} {n:Nat} {P:Nat->Value->Prop} {St:Nat->Shared->Prop} {R:Result->Shared->Prop} (W:WalksS prog w A.in1 I fp wr G n P St) (hLf:L ∉ fp)
  (ms:List Key) (hl:ms.length=n) (hm:∀ i v,P i v->∃ k,ms[i]? = some k/\(aL prog w).is k v=true) (hb:n+1 < scanBound) :
  ∀ (k i:Nat) (s:Shared),n - i=k->i<=n->St i s->fX (aL prog w) s.heap L (cn (ms.take i)) ->
   (∀ s',Moved (L :: wr) G s s'->fX (aL prog w) s'.heap L (cn ms)->R (.ok (.ret .none)) s') ->
   codeAny (model prog w) A (.builtin "set.update.loop" ⟨[.ref L,.ref I],[]⟩) R s:=by
 have hLw:L ∉ wr:=fun h=>hLf (W.sub _ h)
 intro k
 induction k with
 | zero =>
  intro i s hk hi st S q
  have e:i=n:=by omega
  subst e
  refine codeAny_builtin PyProof.Rows.F.entry_set_update_loop ?_
  rw [Around.under_plainId PyProof.Rows.F.plain_set_update_loop _]
  show wpAny _ A.in1 (pyNext (.ref I) >>= _) _ _ s
  refine wpAny_bind (W.done s _ _ st fun s' mv=>?_)
  refine wpAny_pure (q s' (mv.mono fun b hb=>List.mem_cons_of_mem _ hb) ?_)
  rw [List.take_of_length_le (by omega)] at S
  exact S.keep fun o e=>mv.heap L _ hLw e
 | succ k ih =>
  intro i s hk hi st S q
  have hlt:i < n:=by omega
  refine codeAny_builtin PyProof.Rows.F.entry_set_update_loop ?_
  rw [Around.under_plainId PyProof.Rows.F.plain_set_update_loop _]
  show wpAny _ A.in1 (pyNext (.ref I) >>= _) _ _ s
  refine wpAny_bind (W.item i s _ _ hlt st fun v s' hP st' mv=>?_)
  obtain⟨key,hkey,his⟩:=hm i v hP
  have S':fX (aL prog w) s'.heap L (cn (ms.take i)):=S.keep fun o e=>mv.heap L _ hLw e
  refine wpAny_bind (wpAny_holding (xC his S' ?_ fun h' sb S2 _=>?_))
  ·have h1:=qm (ms.take i) []
   have h2:(ms.take i).length<=i:=by rw [List.length_take];omega
   have h3:(cn (ms.take i)).length<=0+(ms.take i).length:=h1
   omega
  ·have e1:putIn (cn (ms.take i)) key=cn (ms.take (i+1)):=by
    unfold cn
    rw [List.take_add_one,hkey,List.foldl_append];rfl
   rw [e1] at S2
   refine wpAny_pure ⟨plainId_quiet PyProof.Rows.F.plain_set_update_loop _,ih (i+1) _ (by omega) hlt (W.frame _ s' _ _ st' (Nat.le_succ _) fun b hb o e=>?_) S2 fun s'' mv2 S3=>?_⟩
   ·rw [sb.2 b (fun h:b=L=>hLf (by rw [<-h];exact hb))];exact e
   ·refine q s'' (Moved.trans W.gtrans ((mv.mono fun b hb=>List.mem_cons_of_mem _ hb).then_heap (Nat.le_succ _) fun b o hb e=>?_) mv2) S3
    rw [sb.2 b (fun h:b=L=>hb (by rw [h];exact List.mem_cons_self))];exact e
end
theorem j0 {α β : Type} {F:α->β->Prop}:∀ {l:List α} {m:List β},Paired F l m->∀ {i:Nat} {x:α},l[i]? = some x->∃ y,m[i]? = some y/\F x y
 | _,_,.nil,i,x,e=>by simp at e
 | _,_,.cons r _,0,x,e=>by simp at e;subst e;exact⟨_,rfl,r⟩
 | _,_,.cons _ t,i+1,x,e=>by simpa using j0 t (i:=i) (x:=x) (by simpa using e)
def eF (w:World):Obj:={ cls:=.type "set",dict:=none,data:=.set #[] 0 (.fresh 0 0 (!(w.params.followText "set-order"))) }
section
variable {prog:Program} {w:World} {A:Around} {E:Value->Shared->Prop} {s:Shared}
theorem uA (rest:List Value) (hc:checkBuiltinCall "set.__new__" ⟨.type "set" :: rest,[]⟩=pure ()) {Q:Value->Shared->Prop} (q:Q (.ref s.heap.objs.size) { s with heap:=s.heap.push (eF w) }) :
  codeAny (model prog w) A (.call (.builtin "set.__new__") ⟨.type "set" :: rest,[]⟩) (wants Q E) s:=by
 refine codeAny_of_tree ?_
 show wpAny _ A.in1 (checkBuiltinCall "set.__new__" ⟨.type "set" :: rest,[]⟩ >>= fun _=>again (.builtin "set.__new__" ⟨.type "set" :: rest,[]⟩)) _ _ s
 refine wpAny_bind (wpAny_of_eq hc (wpAny_pure ⟨plainId_quiet PySem.F.plain_set_new _,codeAny_builtin PySem.F.entry_set_new ?_⟩))
 rw [Around.under_plainId PySem.F.plain_set_new _]
 unfold Builtin.«set.__new__» Builtin.Frozenset.newClass
 have hsub:=sub_set_self
 obtain⟨hp,g,d,tk,os⟩:=s
 dsimp only
 wp_walk
 refine wpAny_askSetting (wpAny_pure ?_)
 dsimp only
 simp only [newObj]
 refine wpAny_bind (wpAny_alloc (wpAny_pure ?_))
 exact wpAny_pure q
theorem vR {rest:List Value} {Q:Value->Shared->Prop} (hct:checkTypeCall "set" ⟨rest,[]⟩=pure ()) (hcn:checkBuiltinCall "set.__new__" ⟨.type "set" :: rest,[]⟩=pure ())
  (hci:∀ (M:Model) (A:Around) (E:Value->Shared->Prop) (s':Shared) (Q':Unit->Shared->Prop),s'.TypeIs (.ref s.heap.objs.size) "set" -> Q' () s'->wpAny M A (checkBuiltinCall "set.__init__" ⟨.ref s.heap.objs.size :: rest,[]⟩) Q' E s')
  (init:∀ (R:Result->Shared->Prop),(∀ h' tk,(∀ b o,s.heap.get? b=some o->h'.get? b=some o)->Q (.ref s.heap.objs.size) { s with heap:=h',toks:=tk }->R (.ok (.ret .none)) { s with heap:=h',toks:=tk }) ->
   wpAny (model prog w) A.in1.in1 (Builtin.«set.__init__» ⟨.ref s.heap.objs.size :: rest,[]⟩) (fun fin s'=>match fin with | .done f=>R (.ok f) s' | .again c'=>c'.quiet=true/\codeAny (model prog w) A.in1 c' R s') (fun e s'=>R (.error e) s')
    { s with heap:=s.heap.push (eF w) }) :
  wpAny (model prog w) A (call (.type "set") rest) Q E s:=by
 obtain⟨c,tl,hmro⟩:=PySem.F.called_set.mro
 have hmade:=PySem.F.called_set.made
 have hsub:=PySem.F.called_set.sub
 refine wpAny_call (codeAny_of_tree ?_)
 show wpAny _ _ (callAny (.type "set") _) _ _ _
 refine wpAny_pure ⟨Code.quiet_builtin _ (by decide +kernel),codeAny_builtin PySem.F.entry_type_call ?_⟩
 rw [Around.under_plain (weight_type_call_type "set" rest []) rfl]
 have h1:=PySem.F.called_set.notType
 have h2:=PySem.F.called_set.canCreate
 repeat (any_goals (first | assumption | wp_step))
 refine codeAny_mono (uA (w:=w) rest hcn (E:=E) (Q:=fun obj s₁=>obj=.ref s.heap.objs.size/\s₁ = { s with heap:=s.heap.push (eF w) }) ⟨rfl,rfl⟩) fun r s₁ hr=>?_
 cases r with
 | error e=>exact hr
 | ok fl =>
  cases fl with
  | ret obj =>
   obtain⟨rfl,rfl⟩:=hr
   have hS:(s.heap.push (eF w)).get? s.heap.objs.size=some (eF w):=Heap.get?_push_size _ rfl
   have hT:Shared.TypeIs { s with heap:=s.heap.push (eF w) } (.ref s.heap.objs.size) "set" := ⟨_,hS,rfl⟩
   have hli:=PySem.F.called_set.init.lookup
   have hbi:=PySem.F.called_set.init.bind (.ref s.heap.objs.size)
   repeat (any_goals (first | assumption | wp_step))
   refine codeAny_mono (codeAny_call_builtin (R:=wants (fun r s₂=>r=.none/\Q (.ref s.heap.objs.size) s₂) E) PySem.F.called_set.init.plain PySem.F.entry_set_init (hci _ _ _ _ _ hT (init _ fun h' tk _ q=>⟨rfl,q⟩))) fun r₂ s₂ hr₂=>?_
   cases r₂ with
   | error e=>exact hr₂
   | ok fl₂ =>
    cases fl₂ with
    | ret r =>
     obtain⟨rfl,hq⟩:=hr₂
     repeat (any_goals (first | assumption | wp_step))
    | _=>exact hr₂.elim
  | _=>exact hr.elim
theorem set_list {l:Addr} {items:Array Value} {ms:List Key} {Q:Value->Shared->Prop} (hh:A.handled=none) (hl:s.heap.IsList l items) (hm:Paired (fun v k=>(aL prog w).is k v=true) items.toList ms) (hb:items.size+1 < scanBound)
  (q:∀ h' tk,fX (aL prog w) h' s.heap.objs.size (cn ms)->(∀ b o,s.heap.get? b=some o->h'.get? b=some o)->Q (.ref s.heap.objs.size) { s with heap:=h',toks:=tk }):wpAny (model prog w) A (call (.type "set") [.ref l]) Q E s:=by
 refine vR (PySem.F.typeCall_set_1 _) (PySem.F.newCall_set_1 _) (fun M A E s' Q' hT q'=>check_set_init_1 hT q') fun R fin=>?_
 have hS:(s.heap.push (eF w)).get? s.heap.objs.size=some (eF w):=Heap.get?_push_size _ rfl
 have hT:Shared.TypeIs { s with heap:=s.heap.push (eF w) } (.ref s.heap.objs.size) "set" := ⟨_,hS,rfl⟩
 have hz:(s.heap.push (eF w)).objs.size=s.heap.objs.size+1:=Heap.size_push _ _
 obtain⟨ol,hol,hcl,nl,hdl⟩:=id hl
 obtain⟨ocls,odict,odata,oslots⟩:=ol
 simp only at hcl hdl
 subst hcl
 subst hdl
 have hol':(s.heap.push (eF w)).get? l=some { cls:=.type "list",dict:=odict,data:=.seq items nl,slots:=oslots }:=Heap.get?_push_of_some _ hol
 have hsls:=PySem.F.sub_list_set
 have hslf:=PySem.F.sub_list_frozenset
 have hne:(Value.type "list" == Value.type "dict")=false:=by decide
 have hl1:(s.heap.push (eF w)).IsList l items:=⟨_,hol',rfl,nl,rfl⟩
 have hlS:l < s.heap.objs.size:=Heap.lt_size hol
 unfold eF at hS hT hz hol' hl1 ⊢
 unfold Builtin.«set.__init__» noKeywords Builtin.Frozenset.updateFrom
 generalize hPI:pyIter=PI
 wp_walk
 subst hPI
 refine wpAny_pyIter_list hl1 ?_
 refine wpAny_bind (wpAny_runValue ?_)
 have hh3:A.in1.in1.in1.handled=none:=by simp [hh]
 refine uz (L:=s.heap.objs.size) ((Walks.list hh3 _ l ?_ items).toS) ?_ ms ?_ (fun i v hv=>?_) hb (items.size - 0) 0 _ (by omega) (Nat.zero_le _) ⟨⟨_,Heap.get?_push_size _ rfl,rfl,rfl⟩,(hl1.push _)⟩ ?_ fun s' mv S'=>?_
 ·rw [hz];exact Nat.ne_of_lt (Nat.lt_succ_of_lt hlS)
 ·rw [hz]
  intro hmem
  rcases kB hmem with e | e
  ·exact absurd e (Nat.ne_of_lt (Nat.lt_succ_self _))
  ·exact absurd e (Nat.ne_of_gt hlS)
 ·rw [<-hm.length,Array.length_toList]
 ·have hv':items.toList[i]? = some v:=by rw [Array.getElem?_toList];exact hv
  exact j0 hm hv'
 ·exact uo rfl (Heap.get?_push_of_some _ hS)
 ·obtain⟨h',g',d',tk',os'⟩:=s'
  have eg:g' = s.gens:=mv.gens
  have ed:d' = s.drawn:=mv.drawn
  have eo:os' = s.os:=mv.os
  subst eg;subst ed;subst eo
  have kp:∀ b o,s.heap.get? b=some o->h'.get? b=some o:=fun b o e=>mv.heap b o (fun hm=>by
   rcases kB hm with e' | e'
   ·exact absurd e' (Nat.ne_of_lt (Heap.lt_size e))
   ·rw [hz] at e';exact absurd e' (Nat.ne_of_lt (Nat.lt_succ_of_lt (Heap.lt_size e)))) (Heap.get?_push_of_some _ (Heap.get?_push_of_some _ e))
  show wpAny _ _ _ _ _ _
  refine wpAny_pure ?_
  exact wpAny_pure (fin h' tk' kp (q h' tk' S' kp))
end
end LS
namespace L2
open PySem PySem.Spec PyProof.Rows LS
theorem yO:bootBuiltins "set" = some (.type "set"):=by decide +kernel
theorem xD {P:Program} {w:World} {k:Key} {v:Value} (r:RelV (kV k) v):(aL P w).is k v=true:=by
 cases k with
 | inl i=>obtain⟨t,rfl⟩:=r;exact lN P w i t
 | inr x=>obtain⟨t,rfl⟩:=r;exact lO P w x t
theorem lT {P:Program} {w:World}:∀ {ks:List Key} {us:List Value},Vals (ks.map kV) us->Paired (fun v k=>(aL P w).is k v=true) us ks
 | [],_,.nil=>.nil
 | k :: ks,_,.cons r t=>.cons (xD r) (lT t)
section
variable {X:Cx}
theorem Inv.Av {pins:List (Addr × Obj)} {σ : List (Option V)} {H:Hp} {s:Shared} {n:Nat} (I:Inv X pins σ H s):Inv X pins σ H { s with toks:=n }:=⟨I.ok,I.os,I.bare,I.base,I.loc,I.cell,I.free,I.d8,I.pin,I.aG,I.len⟩
theorem uB (hc:X.calm=true):d9 X (.type "set") (fun vs H Q=>∃ (p:Addr) (ks:List Key),vs = [.ref p]/\aX X.K H p (ks.map kV)/\ks.length+1 < scanBound/\∀ l,H l=none->Q (.ref l) (upd H l (qi X.prog X.w l (cn ks)))):=by
 intro pins s σ H xs us Q I r h
 obtain⟨p,ks,rfl,hp,hz,q⟩:=h
 obtain⟨u,rfl,ru⟩:=vals1 r
 cases (show u=Value.ref p from ru)
 obtain⟨its,hv,pl,_⟩:=I.list hp
 have hm:=lT (P:=X.prog) (w:=X.w) hv
 refine LS.set_list (I.ok.hd hc) pl.isList (by simpa using hm) (by have:=hm.length;simp at this ⊢;omega) fun h' tk S kp=>?_
 exact⟨.ref s.heap.objs.size,_,I.laid (t':=tk) kp (Nat.le_refl _) (xA S),rfl,q _ I.fresh⟩
variable {o e:Expr} {es:List Expr} {to:TE} {t:TA} {name:Str} {apos cpos:Pos} {id:String} {r:V->List V->Hp->VK->Prop}
end
structure o9 (K:PySem.W.Frag) (mg:Str->Option Value) (aD d0 d1 d2 d3 d4:Addr):Prop where
 tab:vC K mg "DEED_PARTS" aD [("put",d0),("copy",d1),("add",d2),("read",d3),("tell",d4)]
 q0:KTup K d0 ["name", "number"]
 q1:KTup K d1 ["name", "name"]
 q2:KTup K d2 ["name", "number"]
 q3:KTup K d3 ["name"]
 q4:KTup K d4 ["name"]
def bR:cx->List Str
 | .put x _=>[x]
 | .copy x y=>[x,y]
 | .add x _=>[x]
 | .read x=>[x]
 | .tell x=>[x]
def fB:End->List Str
 | .d6 _ x _ _ _=>[x]
 | _=>[]
def pNames (p:Piece):List Str:=p.1.flatMap bR++fB p.2
def aR (ps:List Piece):List Str:=ps.flatMap pNames
def kD:cx->List Str
 | .put ..=>["name", "number"]
 | .copy ..=>["name", "name"]
 | .add ..=>["name", "number"]
 | .read ..=>["name"]
 | .tell ..=>["name"]
def wD:cx->Str
 | .put .. => "put"
 | .copy .. => "copy"
 | .add .. => "add"
 | .read .. => "read"
 | .tell .. => "tell"
theorem sS (d:cx):∃ xs,ll d=.str (wD d) :: xs/\xs.length<=1000/\pick "name" xs (kD d)=(bR d).map V.str:=by
 have h2:¬ ("number" : Str) = "name" := by decide +kernel
 cases d with
 | put x n=>exact⟨_,rfl,by show 2<=1000;decide,by simp [pick,kD,bR,h2]⟩
 | copy x y=>exact⟨_,rfl,by show 2<=1000;decide,by simp [pick,kD,bR]⟩
 | add x n=>exact⟨_,rfl,by show 2<=1000;decide,by simp [pick,kD,bR,h2]⟩
 | read x=>exact⟨_,rfl,by show 1<=1000;decide,by simp [pick,kD,bR]⟩
 | tell x=>exact⟨_,rfl,by show 1<=1000;decide,by simp [pick,kD,bR]⟩
theorem sT (e:End):∃ xs,i6 e=.str (wE e) :: xs/\xs.length<=1000/\pick "name" xs (kE e)=(fB e).map V.str:=by
 have h1:¬ ("piece" : Str) = "name" := by decide +kernel
 have h2:¬ ("number" : Str) = "name" := by decide +kernel
 cases e with
 | stop=>exact⟨[],rfl,by decide,rfl⟩
 | go p=>exact⟨_,rfl,by show 1<=1000;decide,by simp [pick,kE,fB,h1]⟩
 | d6 b x n p q=>exact⟨_,rfl,by show 4<=1000;decide,by simp [pick,kE,fB,h1,h2]⟩
theorem jM {k:Str} {d:Addr} {D:List (Str × Addr)}:KTD.datumAt k ((k,d) :: D)=some d:=by
 show (if decide (k=k)=true then some d else KTD.datumAt k D)=some d
 rw [if_pos (decide_eq_true rfl)]
theorem dZ {k x:Str} {d:Addr} {D:List (Str × Addr)} {o:Option Addr} (h:¬ k=x) (e:KTD.datumAt k D=o):KTD.datumAt k ((x,d) :: D)=o:=by
 show (if decide (k=x)=true then some d else KTD.datumAt k D)=o
 rw [if_neg (by rw [decide_eq_false h];decide)]
 exact e
theorem o9.at_ {K:PySem.W.Frag} {mg:Str->Option Value} {aD d0 d1 d2 d3 d4:Addr} (G:o9 K mg aD d0 d1 d2 d3 d4) (d:cx) :
  ∃ s,KTD.datumAt (wD d) [(("put" : Str),d0),("copy",d1),("add",d2),("read",d3),("tell",d4)] = some s/\KTup K s (kD d):=by
 cases d with
 | put x n=>exact⟨d0,jM,G.q0⟩
 | copy x y=>exact⟨d1,dZ (show ¬ (("copy" : Str) = "put") by decide +kernel) jM,G.q1⟩
 | add x n=>exact⟨d2,dZ (show ¬ (("add" : Str) = "put") by decide +kernel) (dZ (show ¬ (("add" : Str) = "copy") by decide +kernel) jM),G.q2⟩
 | read x=>exact⟨d3,dZ (show ¬ (("read" : Str) = "put") by decide +kernel) (dZ (show ¬ (("read" : Str) = "copy") by decide +kernel) (dZ (show ¬ (("read" : Str) = "add") by decide +kernel) jM)),G.q3⟩
 | tell x=>exact⟨d4,dZ (show ¬ (("tell" : Str) = "put") by decide +kernel) (dZ (show ¬ (("tell" : Str) = "copy") by decide +kernel) (dZ (show ¬ (("tell" : Str) = "add") by decide +kernel) (dZ (show ¬ (("tell" : Str) = "read") by decide +kernel) jM))),G.q4⟩
theorem vS (acc ys:List Str):(ys.map (Sum.inr:Str->Key)).foldl LS.putIn (acc.map Sum.inr)=(ys.foldl LS.putIn acc).map Sum.inr:=by
 induction ys generalizing acc with
 | nil=>rfl
 | cons y ys ih =>
  rw [List.map_cons,List.foldl_cons,List.foldl_cons,<-ih]
  congr 1
  unfold LS.putIn
  by_cases h:y ∈ acc
  ·rw [if_pos h,if_pos (List.mem_map.mpr ⟨y,h,rfl⟩)]
  ·rw [if_neg h,if_neg (fun z=>by obtain⟨x,hx,e⟩:=List.mem_map.mp z;cases e;exact h hx),List.map_append];rfl
theorem sU (ys:List Str):cn (ys.map (Sum.inr:Str->Key))=(cn ys).map Sum.inr:=vS [] ys
theorem xE (ys:List Str):(ys.map (Sum.inr:Str->Key)).map kV=ys.map V.str:=by rw [List.map_map];rfl
theorem kF {xs:List Str} {m:Nat} {ps:List Piece} (ok:fe xs m ps):∀ x ∈ aR ps,x ∈ xs:=fun x hx=>by
 obtain⟨p,hp,hx⟩:=List.mem_flatMap.mp hx
 rcases List.mem_append.mp hx with h | h
 ·obtain⟨d,hd,h⟩:=List.mem_flatMap.mp h
  have dk:=(ok.lh p hp).2 d hd
  cases d with
  | put a n=>rw [List.mem_singleton.mp h];exact dk.1
  | copy a b =>
   rcases List.mem_cons.mp h with rfl | h
   ·exact dk.1
   ·rw [List.mem_singleton.mp h];exact dk.2
  | add a n=>rw [List.mem_singleton.mp h];exact dk.1
  | read a=>rw [List.mem_singleton.mp h];exact dk
  | tell a=>rw [List.mem_singleton.mp h];exact dk
 ·have ek:=ok.ends p hp
  obtain⟨ds,e⟩:=p
  cases e with
  | stop=>cases h
  | go q=>cases h
  | d6 b a n q r=>rw [List.mem_singleton.mp h];exact ek.1
theorem jq {α β : Type} {l:List α} {f:α->List β} {i:Nat} {x:α} (h:l[i]? = some x):(l.take (i+1)).flatMap f=(l.take i).flatMap f++f x:=by
 rw [List.take_add_one,h,List.flatMap_append];simp
theorem j8 {α β : Type} {l:List α} {f:α->List β} (i:Nat):((l.take i).flatMap f).length<=(l.flatMap f).length:=by
 conv=>rhs;rw [<-List.take_append_drop i l,List.flatMap_append,List.length_append]
 exact Nat.le_add_right _ _
def kG:Sp:=fun vs H Q _=>∃ (plv:V) (ps:List Piece) (xs:List Str) (m:Nat),vs = [plv]/\bB H plv (il ps)/\fe xs m ps/\xs.length < 64/\(aR ps).length<=4000 /\
 ∀ (t:Addr) (ss:List Str) (H':Hp),H' t=some (.tup (ss.map V.str))->ss.Perm (cn (aR ps))->sortedS ss=true->ss.length < 64->ah H H'->Q (.ref t) H'
theorem mw {xs:List Str} {m:Nat} {ps:List Piece} (ok:fe xs m ps):(cn (aR ps)).length<=xs.length :=
 sub_len (mr _) fun x hx=>kF ok x (jo.mp hx)
end L2
namespace PySem
theorem oP:typeLookup (.type "tuple") "keys" = pure none:=by rw [typeLookup_type,builtinLookup_eq_fast];kernel_rfl
section
variable {prog:Program} {w:World} {A:Around} {E:Value->Shared->Prop} {s:Shared}
theorem oQ {a:Addr} {xs:Array Value} {k:Nat} {sl:Array (Option Value)} {name:Str} {u:Tok} {Q:Value->Shared->Prop} (hx:s.heap.get? a=some { cls:=.type "tuple",dict:=none,data:=.seq xs k,slots:=sl })
  (miss:typeLookup (.type "tuple") name=pure none) (plain:(["__module__", "__name__", "__qualname__", "__doc__", "__annotations__"]:List Str).contains name=false) (calm:A.handled=none) (fits:name.length+100<=sizeLine)
  (fin:∀ g tk e,Heap.NewExcOf s.heap g e "AttributeError" -> E (.ref e) { s with heap:=g,toks:=tk }):wpAny (model prog w) A (getAttrBy (.ref a) (.str name u) false) Q E s:=by
 obtain⟨hp,gs,dr,tk,os⟩:=s
 have hT:∀ tk',(⟨hp,gs,dr,tk',os⟩:Shared).TypeIs (.ref a) "tuple" := fun _=>⟨_,hx,rfl⟩
 have f1:=sub_AttributeError
 have f3:=F.slot_tuple_getattribute.lookup
 have f4:=F.slot_tuple_getattribute.bind (.ref a)
 have f5:=am_tuple_getattr_none
 unfold getAttrBy
 repeat (any_goals (first | exact hT _ | assumption | ((with_reducible show wpAny _ _ (call (Value.builtin "tuple.__getattribute__") _ _) _ _ _);refine call_meets F.slot_tuple_getattribute (hT _) am_entry_tuple_getattribute (F.args_tuple_getattribute_2 _ _) (meets_getattribute_miss_tuple a xs k sl name _ miss plain fits) ⟨hx,calm,fun g t e ne=>?_⟩) | wp_step))
 obtain⟨t',u',there⟩:=ne.there
 show wpAny _ _ (getattributeRaised _ _ _ _ _ _ _) _ _ _
 unfold getattributeRaised
 repeat (any_goals (first | wp_step | assumption))
 exact fin g _ e ne.of
theorem nh {a:Addr} {xs:Array Value} {k:Nat} {sl:Array (Option Value)} {Q:Option Value->Shared->Prop} (hx:s.heap.get? a=some { cls:=.type "tuple",dict:=none,data:=.seq xs k,slots:=sl }) (calm:A.handled=none)
  (fin:∀ g tk,(∀ b o,s.heap.get? b=some o->g.get? b=some o)->Q none { s with heap:=g,toks:=tk }):wpAny (model prog w) A (getAttr? (.ref a) "keys") Q E s:=by
 unfold getAttr? getAttrBy?
 refine wpAny_bind (wpAny_mkText ?_)
 refine wpAny_bind (wpAny_attempt ?_)
 refine oQ (s:={ s with toks:=s.toks+1 }) hx oP (by decide +kernel) calm (by decide +kernel) fun g tk e ne=>?_
 obtain⟨ob,vs,he,hc,_⟩:=ne.there
 have hT:({ s with heap:=g,toks:=tk }:Shared).TypeIs (.ref e) "AttributeError" := ⟨ob,he,hc⟩
 refine wpAny_bind (wpAny_isInstance hT sub_AttributeError ?_)
 exact wpAny_pure (fin g tk ne.keeps)
end
end PySem
namespace PySem
theorem jN:entryFor table "dict.update.loop" = some Builtin.«dict.update.loop»:=entryFor_of_tree (by kernel_rfl)
theorem fI:plainId "dict.update.loop" = true:=by decide +kernel
section
variable {prog:Program} {w:World} {K:Type} [DecidableEq K] {knd:KeyKind prog w K} {A:Around} {s:Shared}
def qo (knd:KeyKind prog w K) (h:Heap) (q:Addr) (p:K × Value):Prop:=∃ key n sl,h.get? q=some { cls:=.type "tuple",dict:=none,data:=.seq #[key,p.2] n,slots:=sl }/\knd.is p.1 key=true
theorem oR {E:Value->Shared->Prop} {q:Addr} {x y:Value} {n:Nat} {sl:Array (Option Value)} {Q:List Value->Shared->Prop} (hq:s.heap.get? q=some { cls:=.type "tuple",dict:=none,data:=.seq #[x,y] n,slots:=sl })
  (fin:Q [x,y] s):wpAny (model prog w) A (Builtin.Dict.pairItems (.ref q)) Q E s:=by
 have hT:s.TypeIs (.ref q) "tuple" := ⟨_,hq,rfl⟩
 unfold Builtin.Dict.pairItems
 refine wpAny_bind (wpAny_typeOf hT ?_)
 rw [if_pos (by decide)]
 unfold seqItems?
 obtain⟨hp,gs,dr,tk,os⟩:=s
 repeat (any_goals (first | wp_step | assumption))
theorem sV {E:Value->Shared->Prop} {d I ax:Addr} {items:Array Value} {rs:List (K × Value)} {R:Result->Shared->Prop} {h0:Heap} (calm:A.handled=none) (ndI:d ≠ I) (nda:d ≠ ax) (nax:ax ≠ I) (len:rs.length=items.size) (bL:rs.length<=sizeLine)
  (pairs:∀ (i:Nat) (p:K × Value),rs[i]? = some p->∃ q,items[i]? = some (.ref q)/\q ≠ d/\q ≠ I/\qo knd h0 q p)
  (fin:∀ (g:Heap) (tk:Nat),g.DictOf knd d (merged [] rs)->(∀ b o,b ≠ d->b ≠ I->h0.get? b=some o->g.get? b=some o)->R (.ok (.ret .none)) { s with heap:=g,toks:=tk }) :
  ∀ (m i:Nat) (h:Heap) (tk:Nat) (t:Tok),rs.length - i=m->i<=rs.length->h.IsTupleIter I ax i->h.IsTuple ax items->h.DictOf knd d (merged [] (rs.take i))->(∀ b o,b ≠ d->b ≠ I->h0.get? b=some o->h.get? b=some o) ->
   codeAny (model prog w) A (.builtin "dict.update.loop" ⟨[.ref d,.ref I,.int i t,.none],[]⟩) R { s with heap:=h,toks:=tk }:=by
 have W:=Walks.tuple (prog:=prog) (w:=w) (A:=A.in1) calm I ax nax items
 intro m
 induction m with
 | zero =>
  intro i h tk t em hi it ta dd kp
  have ei:i=rs.length:=by omega
  subst ei
  refine codeAny_builtin jN ?_
  rw [Around.under_plainId fI _]
  show wpAny _ A.in1 (pyNext (.ref I) >>= _) _ _ _
  refine wpAny_bind (W.done { s with heap:=h,toks:=tk } _ _ ⟨by rw [<-len];exact it,ta⟩ fun g tk' kg=>?_)
  show wpAny _ A.in1 (Builtin.Dict.addKeywords d [] >>= fun _=>ret Value.none) _ _ _
  refine wpAny_bind (wpAny_pure ?_)
  refine wpAny_pure (fin g tk' ?_ fun b o n1 n2 e=>kg b o (by simpa using n2) (kp b o n1 n2 e))
  rw [List.take_length] at dd
  obtain⟨ob,es,ep,ho,rest⟩:=dd
  exact⟨ob,es,ep,kg d ob (by simpa using ndI) ho,rest⟩
 | succ m ih =>
  intro i h tk t em hi it ta dd kp
  have hlt:i < rs.length:=by omega
  have hp:rs[i]? = some rs[i]:=by simp [hlt]
  generalize rs[i] = p at hp
  obtain⟨q,hq,nqd,nqI,key,n,sl,hqo,hkey⟩:=pairs i p hp
  refine codeAny_builtin jN ?_
  rw [Around.under_plainId fI _]
  show wpAny _ A.in1 (pyNext (.ref I) >>= _) _ _ _
  refine wpAny_bind (W.item i { s with heap:=h,toks:=tk } _ _ (by omega) ⟨it,ta⟩ fun v g tk' hv st kg=>?_)
  rw [hq] at hv
  cases hv
  have kp':∀ b o,b ≠ d->b ≠ I->h0.get? b=some o->g.get? b=some o:=fun b o n1 n2 e=>kg b o (by simpa using n2) (kp b o n1 n2 e)
  refine wpAny_bind (wpAny_holding (wpAny_bind (wpAny_tryCatch (oR (kp' q _ nqd nqI hqo) ?_))))
  have dd':g.DictOf knd d (merged [] (rs.take i)):=by
   obtain⟨ob,es,ep,ho,rest⟩:=dd
   exact⟨ob,es,ep,kg d ob (by simpa using ndI) ho,rest⟩
  refine wpAny_holding (wpAny_dictSet_pairs hkey dd' (fun g2 dd2 same=>?_) ?_)
  ·refine wpAny_pure ⟨plainId_quiet fI _,?_⟩
   rw [<-merged_take_succ [] rs i p hp] at dd2
   have k2:∀ b o,b ≠ d->g.get? b=some o->g2.get? b=some o:=fun b o nb e=>(same.2 b nb).trans e
   refine ih (i+1) g2 _ _ (by omega) hlt ?_ ?_ dd2 fun b o n1 n2 e=>k2 b o n1 (kp' b o n1 n2 e)
   ·exact st.1.at fun o e=>k2 I o ndI.symm e
   ·exact st.2.at fun o e=>k2 ax o nda.symm e
  ·have e:=merged_length_le ([]:List (K × Value)) (rs.take i)
   rw [List.length_take] at e
   simp only [List.length_nil] at e
   omega
open PySem.Calls in
theorem oU {E:Value->Shared->Prop} {ax:Addr} {items:Array Value} {na:Nat} {sa:Array (Option Value)} {rs:List (K × Value)} {Q:Value->Shared->Prop} (calm:A.handled=none)
  (hx:s.heap.get? ax=some { cls:=.type "tuple",dict:=none,data:=.seq items na,slots:=sa }) (len:rs.length=items.size) (bL:rs.length<=sizeLine)
  (pairs:∀ (i:Nat) (p:K × Value),rs[i]? = some p->∃ q,items[i]? = some (.ref q)/\qo knd s.heap q p)
  (fin:∀ (g:Heap) (tk:Nat),g.DictOf knd s.heap.objs.size (merged [] rs)->(∀ b o,s.heap.get? b=some o->g.get? b=some o)->Q (.ref s.heap.objs.size) { s with heap:=g,toks:=tk }) :
  wpAny (model prog w) A (call (.type "dict") [.ref ax]) Q E s:=by
 refine callType_codes (Q₁:=fun ob s1=>ob=.ref s.heap.objs.size/\s1 = { s with heap:=s.heap.push { cls:=.type "dict",data:=.dict #[] } }) F.kt_called_dict (F.kt_typeCall_dict_1 _) F.entry_dict_init (kt_code_dict_new _ ⟨rfl,rfl⟩) fun ob s1 e1=>?_
 obtain⟨rfl,rfl⟩:=e1
 have fresh:(s.heap.push { cls:=.type "dict",data:=.dict #[] }).DictOf knd s.heap.objs.size []:=Heap.DictOf.new s.heap
 have hx1:=Heap.get?_push_of_some { cls:=.type "dict",data:=.dict #[] } hx
 refine⟨fresh.typeIs,F.args_dict_init_2 _ _,?_⟩
 have hT:({ s with heap:=s.heap.push { cls:=.type "dict",data:=.dict #[] } }:Shared).TypeIs (.ref ax) "tuple" := ⟨_,hx1,rfl⟩
 unfold Builtin.«dict.__init__»
 refine wpAny_bind ?_
 unfold Builtin.Dict.selfAndRest
 refine wpAny_bind (wpAny_notOrdered_dict fresh.typeIs (wpAny_pure ?_))
 show wpAny _ _ (Builtin.Dict.updateFrom "dict.__init__" s.heap.objs.size (.ref ax) [] .none) _ _ _
 unfold Builtin.Dict.updateFrom
 refine wpAny_bind (wpAny_typeOf hT ?_)
 rw [if_pos (by decide)]
 refine wpAny_bind (nh hx1 calm fun g tk kg=>?_)
 rw [if_pos (show (none:Option Value).isNone=true from rfl)]
 refine wpAny_bind (wpAny_rule ?_)
 have hxg:=kg _ _ hx1
 have hta:g.IsTuple ax items:=⟨_,hxg,rfl,na,rfl⟩
 refine wpAny_bind (wpAny_pyIter_tuple hta ?_)
 have dg:g.DictOf knd s.heap.objs.size []:=by
  obtain⟨ob,es,ep,ho,rest⟩:=fresh
  exact⟨ob,es,ep,kg _ _ ho,rest⟩
 have ltd:s.heap.objs.size < g.objs.size:=by
  obtain⟨ob,es,ep,ho,rest⟩:=dg
  exact Heap.lt_size ho
 have lta:ax < g.objs.size:=Heap.lt_size hxg
 have ltx:ax < s.heap.objs.size:=Heap.lt_size hx
 have kg':∀ b o,s.heap.get? b=some o->(g.push { cls:=.type "tuple_iterator",data:=.fields #[.ref ax,.int 0 0] }).get? b=some o:=fun b o e=>Heap.get?_push_of_some _ (kg b o (Heap.get?_push_of_some _ e))
 refine wpAny_pure ⟨plainId_quiet fI _,?_⟩
 refine sV (E:=E) (knd:=knd) (s:=s) (A:=A.in1) (items:=items) (rs:=rs) (h0:=g.push { cls:=.type "tuple_iterator",data:=.fields #[.ref ax,.int 0 0] }) calm (Nat.ne_of_lt ltd) (Nat.ne_of_gt ltx) (Nat.ne_of_lt lta) len bL (fun i p hp=>?_) (fun g2 tk2 dd2 k2=>⟨rfl,fin g2 tk2 dd2 fun b o e=>k2 b o (Nat.ne_of_lt (Heap.lt_size e)) (Nat.ne_of_lt (Nat.lt_trans (Heap.lt_size e) ltd)) (kg' b o e)⟩) rs.length 0 _ _ _ (Nat.sub_zero _) (Nat.zero_le _) ⟨_,Heap.get?_push_size _ rfl,rfl,rfl⟩ (hta.push _) (dg.push _) fun b o _ _ e=>e
 obtain⟨q,hq,key,n,sl,hqo,hkey⟩:=pairs i p hp
 have hql:=Heap.lt_size hqo
 exact⟨q,hq,Nat.ne_of_lt hql,Nat.ne_of_lt (Nat.lt_trans hql ltd),key,n,sl,kg' q _ hqo,hkey⟩
end
end PySem
namespace L2
open PySem PySem.Spec PyProof.Rows
theorem wX:∀ (kvs:List (Key × V)) (P:Nat->Key × Value->Prop),(∀ (i:Nat) (k:Key) (v:V),kvs[i]? = some (k,v)->∃ u,RelV v u/\P i (k,u))->∃ rs:List (Key × Value),KV kvs rs/\∀ (i:Nat) (p:Key × Value),rs[i]? = some p->P i p
 | [],_,_=>⟨[],.nil,fun i p h=>by simp at h⟩
 | (k,v) :: r,P,h=>by
  obtain⟨u,ru,hu⟩:=h 0 k v rfl
  obtain⟨rs,kr,hr⟩:=wX r (fun i=>P (i+1)) fun i k' v' e=>h (i+1) k' v' (by simpa using e)
  refine⟨(k,u) :: rs,.cons ⟨rfl,ru⟩ kr,fun i p e=>?_⟩
  cases i with
  | zero=>cases (Option.some.inj e);exact hu
  | succ i=>exact hr i p (by simpa using e)
theorem mx:∀ {xs:List V} {us:List Value} {j:Nat} {x:V},Vals xs us->xs[j]? = some x->∃ u,us[j]? = some u/\RelV x u
 | _,_,_,_,.nil,e=>by simp at e
 | _,_,0,_,.cons r _,e=>by
  cases (Option.some.inj e)
  exact⟨_,rfl,r⟩
 | _,_,j+1,x,.cons _ t,e=>by
  obtain⟨u,h1,h2⟩:=mx (j:=j) (x:=x) t (by simpa using e)
  exact⟨u,by simpa using h1,h2⟩
section
variable {X:Cx}
theorem dY (hc:X.calm=true):d9 X (.type "dict") (fun vs H Q=>∃ (a:Addr) (xs:List V) (kvs:List (Key × V)),vs = [.ref a]/\H a=some (.tup xs)/\xs.length=kvs.length /\
  (∀ (i:Nat) (k:Key) (v:V),kvs[i]? = some (k,v)->∃ q,xs[i]? = some (.ref q)/\H q=some (.tup [kV k,v]))/\(kvs.map (·.1)).Nodup/\∀ d,H d=none->Q (.ref d) (upd H d (.dK kvs))):=by
 intro pins s σ H vs us Q I r h
 obtain⟨a,xs,kvs,rfl,ha,hl,hp,nd,q⟩:=h
 obtain⟨u,rfl,ru⟩:=vals1 r
 cases (show u=Value.ref a from ru)
 obtain⟨hz,its,rv,⟨c,dct,dat,sl⟩,h1,h2,n,h3,h4⟩:=(show bS X.prog X.w H s.heap a (.tup xs) from I.aG a _ ha)
 dsimp only at h2 h3 h4
 subst h2 h3 h4
 have hil:its.length=kvs.length:=by rw [<-rv.length];exact hl
 obtain⟨rs,rel,prs⟩:=wX kvs (fun i p=>∃ q,its.toArray[i]? = some (.ref q)/\qo (aL X.prog X.w) s.heap q p) fun i k v e=>by
  obtain⟨q,e1,e2⟩:=hp i k v e
  obtain⟨_,its2,rv2,⟨c2,dct2,dat2,sl2⟩,g1,g2,n2,g3,g4⟩:=(show bS X.prog X.w H s.heap q (.tup [kV k,v]) from I.aG q _ e2)
  dsimp only at g2 g3 g4
  subst g2 g3 g4
  obtain⟨key,u2,rfl,rk,ru2⟩:=vals2 rv2
  refine⟨u2,ru2,q,?_,key,n2,sl2,g1,iN rk⟩
  obtain⟨w',hw,rw'⟩:=mx rv e1
  cases (show w' = Value.ref q from rw')
  simpa using hw
 have hkl:kvs.length<=sizeLine:=by rw [<-hl];exact hz
 have ndr:(rs.map (·.1)).Nodup:=by rw [<-rel.keys];exact nd
 refine oU (knd:=aL X.prog X.w) (rs:=rs) (I.ok.hd hc) h1 (by rw [<-rel.length,<-hil];simp) (by rw [<-rel.length];exact hkl) prs fun g tk dd kg=>?_
 rw [merged_nil_of_nodup rs ndr] at dd
 exact⟨.ref s.heap.objs.size,_,I.laid (a:=s.heap.objs.size) (o:=.dK kvs) (t':=tk) kg (Nat.le_refl _) (iC hkl (beq_eq_false_iff_ne.mpr (Ne.symm (Nat.ne_of_lt I.big))) rel dd),rfl,q _ (I.aG.fresh (Nat.le_refl _))⟩
theorem all_range (bs:List Bool):((List.range bs.length).all fun i=>(bs[i]?).getD true)=bs.all id:=by
 rw [Bool.eq_iff_iff]
 simp only [List.all_eq_true,List.mem_range]
 constructor
 ·intro h b hb
  obtain⟨i,hi,rfl⟩:=List.getElem_of_mem hb
  have:=h i hi
  simpa [hi] using this
 ·intro h i hi
  have:=h bs[i] (List.getElem_mem hi)
  simpa [hi] using this
theorem uC (hc:X.calm=true):d9 X (.builtin "all") (fun vs H Q=>∃ (p:Addr) (bs:List Bool),vs = [.ref p]/\aX X.K H p (bs.map V.bl)/\Q (.bl (bs.all id)) H):=by
 intro pins s σ H vs us Q I r h
 obtain⟨p,bs,rfl,hS,q⟩:=h
 obtain⟨u,rfl,ru⟩:=vals1 r
 cases (show u=Value.ref p from ru)
 obtain⟨its,rv,pl,hz⟩:=I.list hS
 have hl:=pl.isList
 have hlt:p < s.heap.objs.size:=by
  obtain⟨_,e,_⟩:=hl
  exact Heap.lt_size e
 have hsz:its.toArray.size=bs.length:=by
  have:=rv.length
  simp at this
  simp [this]
 refine call_all_walk (wpAny_pyIter_list hl ?_)
 refine⟨s.heap.objs.size,[s.heap.objs.size,p],[s.heap.objs.size],its.toArray.size,_,_,fun j=>(bs[j]?).getD true,rfl,Walks.list (A:=X.A.in1) (I.ok.hd hc) _ p (Nat.ne_of_lt hlt) its.toArray,
  ⟨⟨_,Heap.get?_push_size _ rfl,rfl,rfl⟩,hl.push _⟩,fun j v t Q' E' hP hQ=>?_,fun g tk hk=>?_⟩
 ·have hj:its[j]? = some v:=by simpa using hP
  have hjl:j < bs.length:=by
   have:=(List.getElem?_eq_some_iff.mp hj).1
   rw [<-rv.length,List.length_map] at this
   exact this
  have hb:bs[j]? = some bs[j]:=by simp [hjl]
  obtain⟨w',hw,rw'⟩:=mx (j:=j) (x:=V.bl bs[j]) rv (by rw [List.getElem?_map,hb];rfl)
  rw [hj] at hw
  cases hw
  cases (show v=Value.bool bs[j] from rw')
  have hQ':Q' ((bs[j]?).getD true) t:=hQ
  rw [hb] at hQ'
  exact wpAny_truthy_bool hQ'
 ·refine⟨.bl (bs.all id),H,?_,?_,q⟩
  ·refine I.kept (t':=tk) fun b o e=>hk b o (fun hm=>?_) (Heap.get?_push_of_some _ e)
   rw [List.mem_singleton.mp hm] at e
   exact Nat.lt_irrefl _ (Heap.lt_size e)
  ·show _=Value.bool (bs.all id)
   rw [hsz,all_range]
end
def ni (a b:Str):Prop:=a.cps.toList<=b.cps.toList
theorem uD {a b c:Str} (h:ni a b) (g:ni b c):ni a c:=List.le_trans h g
theorem vT {a b:Str} (h:ni a b) (g:ni b a):a=b:=by
 have e:a.cps.toList=b.cps.toList:=List.le_antisymm h g
 have e2:a.cps=b.cps:=by rw [<-Array.toArray_toList (xs:=a.cps),e,Array.toArray_toList]
 cases a
 cases b
 cases e2
 rfl
theorem oD:∀ (l:List Str) (p:Str),risingS p l=true->(p :: l).Pairwise ni
 | [],p,_=>by simp
 | x :: r,p,h=>by
  have h':(!ltCps x.cps.toList p.cps.toList && risingS x r)=true:=h
  rw [Bool.and_eq_true,Bool.not_eq_true'] at h'
  have h1:ni p x:=by
   have:=h'.1
   rw [ltCps_eq] at this
   exact of_decide_eq_false this
  have ih:=oD r x h'.2
  refine List.Pairwise.cons (fun y hy=>?_) ih
  rcases List.mem_cons.mp hy with e | hy
  ·rw [e];exact h1
  ·exact uD h1 ((List.pairwise_cons.mp ih).1 y hy)
theorem kH {l:List Str} (h:sortedS l=true):l.Pairwise ni:=by
 cases l with
 | nil=>exact List.Pairwise.nil
 | cons x r=>exact oD r x h
structure jb (ss:List Str):Prop where
 pw:ss.Pairwise ni
 nd:ss.Nodup
theorem jb.tail {x:Str} {r:List Str} (h:jb (x :: r)):jb r:=⟨(List.pairwise_cons.mp h.pw).2,(List.nodup_cons.mp h.nd).2⟩
theorem jb.unique:∀ {l m:List Str},jb l->jb m->(∀ x,x ∈ l ↔ x ∈ m)->l=m
 | [],[],_,_,_=>rfl
 | [],b :: m,_,_,h=>absurd ((h b).mpr (List.mem_cons_self ..)) (by simp)
 | a :: l,[],_,_,h=>absurd ((h a).mp (List.mem_cons_self ..)) (by simp)
 | a :: l,b :: m,hl,hm,h=>by
  have e:a=b:=by
   rcases List.mem_cons.mp ((h a).mp (List.mem_cons_self ..)) with e | h1
   ·exact e
   ·rcases List.mem_cons.mp ((h b).mpr (List.mem_cons_self ..)) with e | h2
    ·exact e.symm
    ·exact vT ((List.pairwise_cons.mp hl.pw).1 b h2) ((List.pairwise_cons.mp hm.pw).1 a h1)
  subst e
  have na:=(List.nodup_cons.mp hl.nd).1
  have nb:=(List.nodup_cons.mp hm.nd).1
  rw [jb.unique hl.tail hm.tail fun x=>⟨fun hx=>?_,fun hx=>?_⟩]
  ·rcases List.mem_cons.mp ((h x).mp (List.mem_cons_of_mem _ hx)) with e | h1
   ·exact absurd (by rw [<-e];exact hx) na
   ·exact h1
  ·rcases List.mem_cons.mp ((h x).mpr (List.mem_cons_of_mem _ hx)) with e | h1
   ·exact absurd (by rw [<-e];exact hx) nb
   ·exact h1
theorem jb.filter {l:List Str} (h:jb l) (p:Str->Bool):jb (l.filter p):=⟨h.pw.filter p,h.nd.filter p⟩
abbrev Sx:=Option Int × Option Int
def bE:Sx:=(none,none)
structure gQ (K:PySem.W.Frag) (mg:Str->Option Value) (aA:Addr):Prop where
 lQ:mg "ALL" = some (.ref aA)
 at_:∃ dc n sl,K.lookup aA=some ⟨.type "tuple",dc,.seq #[.none,.none] n,sl⟩
theorem gQ.sq {K:PySem.W.Frag} {mg:Str->Option Value} {aA:Addr} (h:gQ K mg aA) (H:Hp):ay K H aA [.aB,.aB]:=by
 obtain⟨dc,n,sl,e⟩:=h.at_
 exact .inr ⟨_,#[.none,.none],n,e,rfl,rfl,by decide,.cons rfl (.cons rfl .nil)⟩
def SH (H:Hp) (v:V) (s:Sx):Prop:=∃ q,v=.ref q/\H q=some (.tup [vO s.1,vO s.2])
def SV (aA:Addr) (H:Hp) (v:V) (s:Sx):Prop:=SH H v s\/(v=.ref aA/\s=bE)
def dS (s:Sx):PyData:=.tuple [dO s.1,dO s.2]
theorem SH.rd {H:Hp} {v:V} {s:Sx} (h:SH H v s):bB H v (dS s):=by
 obtain⟨q,rfl,e⟩:=h
 exact .tup e (.cons (yF _) (.cons (yF _) .nil))
theorem SH.aI {H H':Hp} {v:V} {s:Sx} (h:SH H v s) (k:∀ p xs,H p=some (.tup xs)->H' p=some (.tup xs)):SH H' v s:=by
 obtain⟨q,e,h⟩:=h
 exact⟨q,e,k _ _ h⟩
theorem SV.aI {aA:Addr} {H H':Hp} {v:V} {s:Sx} (h:SV aA H v s) (k:∀ p xs,H p=some (.tup xs)->H' p=some (.tup xs)):SV aA H' v s:=h.elim (fun h=>.inl (h.aI k)) .inr
theorem SV.sq {K:PySem.W.Frag} {mg:Str->Option Value} {aA:Addr} {H:Hp} {v:V} {s:Sx} (g:gQ K mg aA) (h:SV aA H v s):∃ q,v=.ref q/\ay K H q [vO s.1,vO s.2]:=by
 rcases h with ⟨q,e,h⟩ | ⟨e,rfl⟩
 ·exact⟨q,e,ay.of h⟩
 ·exact⟨aA,e,g.sq H⟩
theorem lF {H:Hp} {v:V} {o:Option Int} (h:bB H v (dO o)):v=vO o:=by
 cases o with
 | none=>cases h;rfl
 | some i=>exact h.int_inv
structure Tb (aA:Addr) (H:Hp) (kvs:List (Key × V)) (ks:List Str) (T:Str->Sx):Prop where
 keys:kvs.map (·.1)=ks.map Sum.inr
 nd:ks.Nodup
 val:∀ x:Str,(bG kvs (Sum.inr x)=none/\T x=bE/\¬ x ∈ ks)\/(∃ v,bG kvs (Sum.inr x)=some v/\SV aA H v (T x)/\x ∈ ks)
def cc (T:Str->Sx) (x:Str) (s:Sx):Str->Sx:=fun y=>if y=x then s else T y
theorem Tb.aI {aA:Addr} {H H':Hp} {kvs:List (Key × V)} {ks:List Str} {T:Str->Sx} (h:Tb aA H kvs ks T) (k:∀ p xs,H p=some (.tup xs)->H' p=some (.tup xs)):Tb aA H' kvs ks T :=
 ⟨h.keys,h.nd,fun x=>(h.val x).elim .inl fun ⟨v,e,s,m⟩=>.inr ⟨v,e,s.aI k,m⟩⟩
theorem Tb.put {aA:Addr} {H:Hp} {kvs:List (Key × V)} {ks:List Str} {T:Str->Sx} (h:Tb aA H kvs ks T) {v:V} {s:Sx} (x:Str) (hv:SV aA H v s) :
  ∃ ks',Tb aA H (putK kvs (Sum.inr x) v) ks' (cc T x s)/\ks'.length<=ks.length+1/\∀ y,y ∈ ks' ↔ y ∈ ks\/y=x:=by
 have vals:∀ (ks':List Str),(∀ y,y ∈ ks' ↔ y ∈ ks\/y=x)->∀ y:Str,(bG (putK kvs (Sum.inr x) v) (Sum.inr y)=none/\cc T x s y=bE/\¬ y ∈ ks')\/(∃ u,bG (putK kvs (Sum.inr x) v) (Sum.inr y)=some u/\SV aA H u (cc T x s y)/\y ∈ ks'):=by
  intro ks' hk y
  rw [vn]
  unfold cc
  by_cases e:y=x
  ·subst e
   rw [if_pos rfl,if_pos rfl]
   exact .inr ⟨v,rfl,hv,(hk y).mpr (.inr rfl)⟩
  ·rw [if_neg (fun z=>e (Sum.inr.inj z)),if_neg e]
   rcases h.val y with ⟨a,b,c⟩ | ⟨u,a,b,c⟩
   ·exact .inl ⟨a,b,fun z=>((hk y).mp z).elim c e⟩
   ·exact .inr ⟨u,a,b,(hk y).mpr (.inl c)⟩
 rcases ky (kvs:=kvs) (k:=(Sum.inr x:Key)) (v:=v) with ⟨e1,hm⟩ | ⟨e1,hn⟩
 ·have hx:x ∈ ks:=by
   rw [h.keys] at hm
   obtain⟨y,hy,e⟩:=List.mem_map.mp hm
   cases e
   exact hy
  have hk:∀ y,y ∈ ks ↔ y ∈ ks\/y=x:=fun y=>⟨.inl,fun z=>z.elim id fun e=>by rw [e];exact hx⟩
  exact⟨ks,⟨by rw [e1];exact h.keys,h.nd,vals ks hk⟩,Nat.le_succ _,hk⟩
 ·have hx:¬ x ∈ ks:=fun z=>hn (by rw [h.keys];exact List.mem_map.mpr ⟨x,z,rfl⟩)
  have hk:∀ y,y ∈ ks ++ [x] ↔ y ∈ ks\/y=x:=fun y=>by simp
  refine⟨ks ++ [x],⟨by rw [e1,h.keys,List.map_append];rfl,?_,vals _ hk⟩,by simp,hk⟩
  rw [List.nodup_append]
  refine⟨h.nd,by simp,fun a ha b hb=>?_⟩
  rw [List.mem_singleton] at hb
  subst hb
  exact fun z=>hx (by rw [<-z];exact ha)
def dF (T:Str->Sx) (x:Str):PyData:=.tuple [.str x,dS (T x)]
def FV (H:Hp) (v:V) (T:Str->Sx):Prop:=∃ (p:Addr) (xs:List V) (ss:List Str),v=.ref p/\H p=some (.tup xs)/\jb ss/\(∀ x,x ∈ ss ↔ T x ≠ bE)/\bg H xs (ss.map (dF T))
def gg (T:Str->Sx) (ss:List Str):PyData:=.tuple (ss.map (dF T))
theorem gR (T:Str->Sx):∀ ss:List Str,cB (ss.map (dF T))=true
 | []=>rfl
 | x :: ss=>by
  show (dX (dF T x) && cB (ss.map (dF T)))=true
  rw [gR T ss]
  show ((true && ((dX (dO (T x).1) && (dX (dO (T x).2) && true)) && true)) && true)=true
  cases (T x).1 <;> cases (T x).2 <;> rfl
theorem FV.aI {H H':Hp} {v:V} {T:Str->Sx} (h:FV H v T) (k:∀ p xs,H p=some (.tup xs)->H' p=some (.tup xs)):FV H' v T:=by
 obtain⟨p,xs,ss,e,hp,hs,hm,r⟩:=h
 exact⟨p,xs,ss,e,k _ _ hp,hs,hm,r.aI k (gR T ss)⟩
theorem FV.same {H H':Hp} {v:V} {T:Str->Sx} (h:FV H v T) (s:ah H H'):FV H' v T:=h.aI fun p xs e=>s _ _ e
theorem FV.tb {H:Hp} {xs:List V} {T:Str->Sx} {ss:List Str} (aA:Addr) (hs:jb ss) (hm:∀ x,x ∈ ss ↔ T x ≠ bE) (r:bg H xs (ss.map (dF T))) :
  ∃ kvs:List (Key × V),xs.length=kvs.length/\(∀ (i:Nat) (k:Key) (v:V),kvs[i]? = some (k,v)->∃ q,xs[i]? = some (.ref q)/\H q=some (.tup [kV k,v]))/\(kvs.map (·.1)).Nodup/\Tb aA H kvs ss T:=by
 have go:∀ (ss:List Str) (xs:List V),bg H xs (ss.map (dF T))->∃ kvs:List (Key × V),xs.length=kvs.length/\(∀ (i:Nat) (k:Key) (v:V),kvs[i]? = some (k,v)->∃ q,xs[i]? = some (.ref q)/\H q=some (.tup [kV k,v])) /\
   kvs.map (·.1)=ss.map Sum.inr/\∀ x:Str,(bG kvs (Sum.inr x)=none/\¬ x ∈ ss)\/(∃ v,bG kvs (Sum.inr x)=some v/\SH H v (T x)/\x ∈ ss):=by
  intro ss
  induction ss with
  | nil =>
   intro xs r
   have z:=bg.nil_inv r
   subst z
   exact⟨[],rfl,fun i k v e=>by simp at e,rfl,fun x=>.inl ⟨rfl,by simp⟩⟩
  | cons y ss ih =>
   intro xs r
   obtain⟨x1,t1,rfl,h1,r⟩:=bg.cons_inv r
   obtain⟨kvs,l1,l2,l3,l4⟩:=ih t1 r
   obtain⟨q,zs,rfl,hq,rz⟩:=bB.cQ h1
   obtain⟨z1,t2,rfl,g1,rz⟩:=rz.cons_inv
   obtain⟨z2,t3,rfl,g2,rz⟩:=rz.cons_inv
   have z:=rz.nil_inv
   subst z
   obtain⟨q2,ws,rfl,hq2,rw2⟩:=bB.cQ g2
   obtain⟨w1,t4,rfl,f1,rw2⟩:=rw2.cons_inv
   obtain⟨w2,t5,rfl,f2,rw2⟩:=rw2.cons_inv
   have z:=rw2.nil_inv
   subst z
   have e1:w1=vO (T y).1:=lF f1
   have e2:w2=vO (T y).2:=lF f2
   subst e1 e2
   rw [g1.str_inv] at hq
   refine⟨(Sum.inr y,.ref q2) :: kvs,by simp [l1],fun i k v e=>?_,by simp [l3],fun x=>?_⟩
   ·cases i with
    | zero=>cases (Option.some.inj e);exact⟨q,rfl,hq⟩
    | succ i =>
     obtain⟨q',a,b⟩:=l2 i k v (by simpa using e)
     exact⟨q',by simpa using a,b⟩
   ·by_cases e:x=y
    ·subst e
     exact .inr ⟨_,cO rfl,⟨q2,rfl,hq2⟩,List.mem_cons_self ..⟩
    ·rw [cH (fun z=>e (Sum.inr.inj z).symm)]
     rcases l4 x with ⟨a,b⟩ | ⟨v,a,b,c⟩
     ·exact .inl ⟨a,fun z=>(List.mem_cons.mp z).elim e b⟩
     ·exact .inr ⟨v,a,b,List.mem_cons_of_mem _ c⟩
 obtain⟨kvs,l1,l2,l3,l4⟩:=go ss xs r
 refine⟨kvs,l1,l2,?_,⟨l3,hs.nd,fun x=>?_⟩⟩
 ·rw [l3]
  exact List.Pairwise.map _ (fun a b n z=>n (Sum.inr.inj z)) hs.nd
 ·rcases l4 x with ⟨a,b⟩ | ⟨v,a,b,c⟩
  ·refine .inl ⟨a,?_,b⟩
   exact Classical.byContradiction fun z=>b ((hm x).mpr z)
  ·exact .inr ⟨v,a,.inl b,c⟩
theorem jO (s:Sx):PyData.eqv (dS s) (.tuple [.none,.none])=decide (s=bE):=by
 obtain⟨a,b⟩:=s
 cases a <;> cases b <;> rfl
theorem pd (s:Sx):(dS s).canLay0=true:=by
 obtain⟨a,b⟩:=s
 cases a <;> cases b <;> rfl
theorem sW (s:Sx):(dS s).depth<=60:=by
 obtain⟨a,b⟩:=s
 cases a <;> cases b <;> (show (1:Nat)<=60;decide)
section
variable {X:Cx}
theorem uE {pins:List (Addr × Obj)} {σ : St} {H:Hp} {s:Shared} {aA:Addr} (I:Inv X pins σ H s) (g:gQ X.K X.mg aA):∃ as,Reads s.heap (.ref aA) (.tuple [.none,.none]) as:=by
 obtain⟨dc,n,sl,e⟩:=g.at_
 exact⟨_,.tuple (I.oa aA _ e) rfl rfl (.cons .none (.cons .none .nil))⟩
theorem yP {aA:Addr} (hu:X.A.units+64 < cLine) (g:gQ X.K X.mg aA):en X (compareOp .NotEq) (fun x y H Q=>∃ s,SV aA H x s/\y=.ref aA/\Q (.bl (!decide (s=bE))) H):=by
 intro pins sh σ H x y v u Q I rx ry h
 obtain⟨s,hs,rfl,q⟩:=h
 cases (show u=Value.ref aA from ry)
 obtain⟨bs,rb⟩:=uE I g
 rcases hs with hs | ⟨rfl,rfl⟩
 ·obtain⟨as,ra⟩:=hs.rd.reads I.aG rx
  refine PySem.SeqAt.neOverData X.prog X.w X.A X.xe sh v _ _ _ as bs _ ra rb (pd s) rfl (by have:=sW s;omega) ⟨.bl _,H,I,?_,q⟩
  show _=Value.bool (!decide (s=bE))
  rw [jO]
 ·cases (show v=Value.ref aA from rx)
  exact PySem.SeqAt.neOverData X.prog X.w X.A X.xe sh _ _ _ _ bs bs _ rb rb rfl rfl (by show X.A.units+1 < cLine;omega) ⟨.bl _,H,I,rfl,q⟩
end
def iE (aA:Addr):Sp:=fun vs H Q _=>∃ (d:Addr) (kvs:List (Key × V)) (ks:List Str) (T:Str->Sx),vs = [.ref d]/\H d=some (.dK kvs)/\Tb aA H kvs ks T/\ks.length < 64/\∀ v H',FV H' v T->ah H H'->Q v H'
def jc (o:Option Int) (n:Int):Option Int:=o.map (· + n)
def zC (s:Sx) (n:Int):Sx:=(jc s.1 n,jc s.2 n)
def my (T:Str->Sx):cx->Sx
 | .put _ n=>(some n,some n)
 | .copy _ y=>T y
 | .add x n=>zC (T x) n
 | .read _=>bE
 | .tell x=>T x
def sX (T:Str->Sx) (d:cx):Str->Sx:=cc T (ef d) (my T d)
def bx (T:Str->Sx):List cx->(Str->Sx):=fun ds=>ds.foldl sX T
def nM (K:PySem.W.Frag):Sp:=fun vs H Q _=>∃ (q:Addr) (s:Sx) (n:Int),vs = [.ref q,.int n]/\ay K H q [vO s.1,vO s.2]/\∀ v H',SH H' v (zC s n)->ah H H'->Q v H'
def j1 (aA:Addr):Sp:=fun vs H Q _=>∃ (d q:Addr) (kvs:List (Key × V)) (ks:List Str) (T:Str->Sx) (dd:cx),vs = [.ref d,.ref q]/\H d=some (.dK kvs)/\Tb aA H kvs ks T/\H q=some (.tup (ll dd))/\∀ v H',SV aA H' v (my T dd)->ah H H'->Q v H'
theorem yQ:bootBuiltins "all" = some (.builtin "all"):=by decide +kernel
theorem Tb.getD {aA:Addr} {H:Hp} {kvs:List (Key × V)} {ks:List Str} {T:Str->Sx} (h:Tb aA H kvs ks T) (x:Str):∃ v,(bG kvs (Sum.inr x)).getD (.ref aA)=v/\SV aA H v (T x):=by
 rcases h.val x with ⟨a,b,_⟩ | ⟨v,a,b,_⟩
 ·exact⟨_,by rw [a];rfl,.inr ⟨rfl,b⟩⟩
 ·exact⟨v,by rw [a];rfl,b⟩
theorem uF {H:Hp} {v:V} {T:Str->Sx} {y:Str} (h:bB H v (dF T y)):∃ t q,v=.ref t/\H t=some (.tup [.str y,.ref q])/\H q=some (.tup [vO (T y).1,vO (T y).2]):=by
 obtain⟨t,zs,rfl,ht,rz⟩:=bB.cQ h
 obtain⟨z1,t2,rfl,g1,rz⟩:=rz.cons_inv
 obtain⟨z2,t3,rfl,g2,rz⟩:=rz.cons_inv
 have z:=rz.nil_inv
 subst z
 obtain⟨q2,ws,rfl,hq2,rw2⟩:=bB.cQ g2
 obtain⟨w1,t4,rfl,f1,rw2⟩:=rw2.cons_inv
 obtain⟨w2,t5,rfl,f2,rw2⟩:=rw2.cons_inv
 have z:=rw2.nil_inv
 subst z
 rw [g1.str_inv] at ht
 rw [lF f1,lF f2] at hq2
 exact⟨t,q2,rfl,ht,hq2⟩
section
variable {C D:Addr} {H0 H H1:Hp} {w0 w1:WA} {plv:V} {x0 x1 x':yG}
end
section
variable {prog:Program} {w:World} {E:Value->Shared->Prop}
end
abbrev KX (kvs:List (PyData × Addr × V)) (xs:List (PyData × Addr × Value)):Prop:=Paired (fun (p:PyData × Addr × V) (q:PyData × Addr × Value)=>p.1=q.1/\p.2.1=q.2.1/\RelV p.2.2 q.2.2) kvs xs
section
variable {X:Cx} {pins:List (Addr × Obj)} {σ : St} {H:Hp} {s:Shared} {a k:Addr} {kvs:List (PyData × Addr × V)} {d:PyData}
end
open LS
section
variable {X:Cx}
def zp (K:PySem.W.Frag):List V->Hp->VK->Prop:=fun vs H Q=>∃ (p:Addr) (ns:List Int),vs = [.ref p]/\aX K H p (ns.map V.int)/\0 < ns.length/\∀ M,M ∈ ns->(∀ a,a ∈ ns->M<=a)->Q (.int M) H
theorem uG (hc:X.calm=true):d9 X (.builtin "min") (zp X.K):=by
 intro pins s σ H xs us Q I r h
 obtain⟨p,ns,rfl,hS,hn,q⟩:=h
 obtain⟨u,rfl,ru⟩:=vals1 r
 cases (show u=Value.ref p from ru)
 obtain⟨its,rv,pl,hz⟩:=I.list hS
 have hi:IntsAre its ns:=intsAre_of rv
 have hl:=pl.isList
 obtain⟨zs,e⟩:=hi.allInts.items
 have hns:ns=zs.toList.map (·.1):=by rw [<-hi.numsOf,<-nums_intItems,<-e]
 have hsz:0 < zs.size:=by
  have h3:=hn
  rw [hns,List.length_map,Array.length_toList] at h3
  exact h3
 rw [e] at hl
 refine min_intList (I.ok.hd hc) hl hsz fun v h' tk hv hk=>?_
 obtain⟨t,rfl⟩:=intItems_at hv
 obtain⟨h1,h2⟩:=argBest_lt (numAt zs) (zs.size - 1)
 refine⟨.int _,H,I.kept hk,⟨_,rfl⟩,q _ ?_ fun a ha=>?_⟩
 ·rw [hns,numAt_eq];exact getD_mem (by rw [List.length_map,Array.length_toList];omega)
 ·rw [hns] at ha
  obtain⟨j,hj,rfl⟩:=mem_getD ha
  rw [List.length_map,Array.length_toList] at hj
  rw [<-numAt_eq];exact h2 j (by omega)
end
section
variable {a0 a1 z:V}
end
section
variable {C r m d:Addr} {H H':Hp} {ms:List Nat}
end
section
variable (C:Addr)
end
theorem vU {X:Cx} {K:PySem.W.Frag} (h:X.K=K):rH X (sE K):=by subst h;exact bK
structure NF (X:Cx) (a:Addr):Prop where
 none_:∀ o,X.du.heap.get? a=some o->X.jR a=none->a ∉ X.ex->False
 tup:∀ xs,X.jR a ≠ some (.tup xs)
 dB:∀ o u,X.jR a ≠ some (.dB o u)
 kd:∀ ps,X.jR a ≠ some (.kd ps)
section
variable {X:Cx} {pins:List (Addr × Obj)} {σ : L2.St} {H:Hp} {s:Shared} {a:Addr}
theorem Inv.nf {kvs:List (Key × V)} (I:Inv X pins σ H s) (e:H a=some (.dK kvs)):NF X a where
 none_:=fun o h1 h2 h3=>by
  have:=I.base.free a o h1 h2 h3
  rw [e] at this
  cases this
 tup:=fun xs h=>by
  have:=I.base.aI a xs h
  rw [e] at this
  cases this
 dB:=fun o u h=>by
  have:=I.base.iH a o u h
  rw [e] at this
  cases this
 kd:=fun ps h=>by
  obtain⟨more,this⟩:=I.base.iX a ps h
  rw [e] at this
  cases this
theorem Inv.swap {u u':HO} (I:Inv X pins σ H s) (nf:NF X a) (e:H a=some u) (no:∀ y,u ≠ .own y) (nt:∀ xs,u ≠ .tup xs) (new:bS X.prog X.w (upd H a u') s.heap a u'):Inv X pins σ (upd H a u') s where
 ok:=I.ok
 os:=I.os
 bare:=I.bare
 base:={
  keep:=I.base.keep
  slot:=I.base.slot
  free:=fun b o h1 h2 h3=>by
   by_cases z:b=a
   ·subst z;exact absurd (nf.none_ o h1 h2 h3) id
   ·rw [au z];exact I.base.free b o h1 h2 h3
  there:=I.base.there
  aI:=fun b xs h=>by
   have z:b ≠ a:=fun z=>by subst z;exact nf.tup xs h
   rw [au z];exact I.base.aI b xs h
  iH:=fun b o v h=>by
   have z:b ≠ a:=fun z=>by subst z;exact nf.dB o v h
   rw [au z];exact I.base.iH b o v h
  iX:=fun b ps h=>by
   have z:b ≠ a:=fun z=>by subst z;exact nf.kd ps h
   rw [au z];exact I.base.iX b ps h }
 loc:=I.loc
 cell:=I.cell
 free:=by rw [au (fun z=>by have:=I.free;rw [z,e] at this;cases this)];exact I.free
 d8:=fun x c h=>by rw [au (fun z=>by have:=I.d8 x c h;rw [z,e] at this;cases this)];exact I.d8 x c h
 pin:=fun p hp=>by
  obtain⟨h1,h2,h3⟩:=I.pin p hp
  exact⟨h1,by rw [au (fun z=>by rw [z,e] at h2;cases h2)];exact h2,h3⟩
 aG:=fun b o h=>by
  by_cases z:b=a
  ·subst z
   rw [ae] at h
   cases h
   exact new
  ·rw [au z] at h
   refine (I.aG b o h).lY (fun _ _ _ q=>q) (fun c q=>?_) fun c xs q=>?_
   ·rw [au (fun y=>by rw [y,e] at q;exact no _ (Option.some.inj q))];exact q
   ·rw [au (fun y=>by rw [y,e] at q;exact nt _ (Option.some.inj q))];exact q
 len:=I.len
end
theorem xF {P:Program} {w:World} {k:Key} {v:Value} (h:(aL P w).is k v=true):RelV (kV k) v:=by
 cases k with
 | inr x=>exact jx h
 | inl i =>
  obtain⟨t,e⟩:=Value.isInt_shape (show Value.isInt i v=true from h)
  exact⟨t,e⟩
def zD (a:Addr) (kvs:List (Key × V)) (ob:Obj):It :=
 ⟨fun i H=>H a=some (.dB ob (.dK kvs))/\i < kvs.length,fun i H x H'=>H' = H/\∃ k v,kvs[i]? = some (k,v)/\x=kV k,fun i H=>H a=some (.dB ob (.dK kvs))/\kvs.length<=i⟩
theorem uH {P:Program} {w:World} {K:PySem.W.Frag} {tg:Expr} {kvs:List (Key × V)} {vs:List (Key × Value)} {ob:Obj} {ep:Nat} (a it:Addr) (hat:∀ h:Heap,h.get? a=some ob->h.DictAt (aL P w) a vs ep) (rel:KV kvs vs) :
  Turn P w K tg (zD a kvs ob) [it] it (fun i h=>h.IsKeyIter it a i vs.length ep) where
 mem:=by simp
 obj:=fun i h st b hb=>by
  have e:b=it:=by simpa using hb
  subst e
  obtain⟨o,e,c,d⟩:=st
  exact⟨o,e,fun v z=>by rw [d] at z;cases z⟩
 keep:=fun i h h' st k=>st.at fun o e=>k it (by simp) o e
 item:=by
  intro X hP hw hK hc i pins s σ H E I hf st hg
  subst hP hw hK
  obtain⟨ha,hi⟩:=hg
  obtain⟨e0,_⟩:=(show bS X.prog X.w H s.heap a (.dB ob (.dK kvs)) from I.aG a _ ha)
  have hvi:i < vs.length:=by rw [<-rel.length];exact hi
  have hx:vs[i]? = some vs[i]:=by simp [hvi]
  generalize vs[i] = p at hx
  obtain⟨k,u⟩:=p
  obtain⟨v,hkv⟩:∃ v,kvs[i]? = some (k,v):=by
   have e1:(vs.map (·.1))[i]? = some k:=by rw [List.getElem?_map,hx];rfl
   rw [<-rel.keys,List.getElem?_map] at e1
   cases e2:kvs[i]? with
   | none=>rw [e2] at e1;cases e1
   | some q =>
    rw [e2] at e1
    obtain⟨k',v⟩:=q
    cases (Option.some.inj e1)
    exact⟨v,rfl⟩
  obtain⟨f0,f1,f2,f3,f4,f5⟩:=hf it (by simp)
  refine wpAny_pyNext_dict_item st (hat _ e0) hx fun key h' hkey st' sb=>?_
  have I1:Inv X pins σ H { s with heap:=h' }:=I.turned (t':=s.toks) (fun b o hb e=>(sb.2 b hb).trans e) f0 f1 f3 f4 f5
  obtain⟨o,e,c,d⟩:=id st'
  exact⟨key,rfl,o5 (s:={ s with heap:=h' }) e c d (by decide) ⟨kV k,H,I1,xF hkey,⟨rfl,k,v,hkv,rfl⟩,st',fun b hb=>(hf b hb).1⟩⟩
 done:=by
  intro X hP hw hK hc i pins s σ H E I hf st hg
  subst hP hw hK
  obtain⟨ha,hi⟩:=hg
  obtain⟨e0,_⟩:=(show bS X.prog X.w H s.heap a (.dB ob (.dK kvs)) from I.aG a _ ha)
  obtain⟨f0,f1,f2,f3,f4,f5⟩:=hf it (by simp)
  exact wpAny_pyNext_dict_end (I.ok.hd hc) st (hat _ e0) (List.getElem?_eq_none (by rw [<-rel.length];exact hi)) fun h' eb=>⟨rfl,I.turned (t':=s.toks) (fun b o hb e=>eb b o hb e) f0 f1 f3 f4 f5⟩
 self:=fun _ _ _ _ _ st h=>wpAny_pyIter_keyiter st h
section
variable {X:Cx}
def zq (i:Nat) (X:Cx):TI:=fun σ H R=>∃ v,σ[i]? = some (some v)/\∃ a kvs,v=.ref a/\H a=some (.dK kvs)/\∀ ob,NF X a->R (zD a kvs ob) (upd H a (.dB ob (.dK kvs)))
theorem xG {tg l:Expr} {i:Nat} (hl:PE X l (nB i)):PI X tg l (zq i X):=by
 intro pins s σ H R I h
 obtain⟨v0,hv0,a,kvs,rfl,ha,q⟩:=h
 refine bh (hl pins s σ H (fun x H1=>x=.ref a/\H1=H) I ⟨_,hv0,rfl,rfl⟩) fun v s1 ⟨x,H1,I1,r1,e1,e2⟩=>?_
 subst e1 e2
 cases r1
 have nf:=I1.nf ha
 obtain⟨z,hd,vs,rel,dd⟩:=jj I1.aG ha
 obtain⟨ep,ob,es,ho,rest⟩:=dd.dictAt
 have I2:Inv X pins σ (upd H1 a (.dB ob (.dK kvs))) s1:=I1.swap nf ha (fun _ h=>nomatch h) (fun _ h=>nomatch h) ⟨ho,iC z hd rel ⟨ob,es,ep,ho,rest⟩⟩
 refine wpAny_pyIter_dict hd ⟨ob,es,ho,rest⟩ ?_
 refine⟨s1.heap.objs.size,[s1.heap.objs.size],_,_,_,rfl,I2.kept (t':=s1.toks) fun b o e=>Heap.get?_push_of_some _ e,uH a _ (fun h e=>⟨ob,es,e,rest⟩) rel,⟨_,Heap.get?_push_size _ rfl,rfl,rfl⟩,fun b hb=>?_,q ob nf⟩
 have e:b=s1.heap.objs.size:=by simpa using hb
 subst e
 exact I2.lZ (Nat.le_refl _) (I2.aG.fresh (Nat.le_refl _))
def zr (i:Nat) (g:TG) (tb:TS):TS:=fun D σ H=>∃ v,σ[i]? = some (some v)/\∃ a kvs,v=.ref a/\H a=some (.dK kvs)/\∀ ob,∃ Pv:Nat->L2.St->Hp->Prop,Pv 0 σ (upd H a (.dB ob (.dK kvs))) /\
 (∀ j τ H2,Pv j τ H2->H2 a=some (.dB ob (.dK kvs))) /\
 (∀ j k u τ H2,kvs[j]? = some (k,u)->Pv j τ H2->g (kV k) τ H2 fun τ3 H3=>tb { D with nx:=Pv (j+1),ct:=Pv (j+1),bk:=fun τ4 H4=>∃ ob',H4 a=some (.dB ob' (.dK kvs))/\D.nx τ4 (upd H4 a (.dK kvs)),rt:=fun r H4=>∃ ob',H4 a=some (.dB ob' (.dK kvs))/\D.rt r (upd H4 a (.dK kvs)) } τ3 H3) /\
 (∀ τ H2,Pv kvs.length τ H2->D.nx τ (upd H2 a (.dK kvs)))
theorem yR {pins:List (Addr × Obj)} {σ : L2.St} {H:Hp} {s:Shared} {a:Addr} {ob:Obj} {kvs:List (Key × V)} (I:Inv X pins σ H s) (nf:NF X a) (e:H a=some (.dB ob (.dK kvs))):Inv X pins σ (upd H a (.dK kvs)) s:=by
 obtain⟨z,hd,vs,rel,dd⟩:=jW I.aG (.inr ⟨ob,e⟩)
 exact I.swap nf e (fun _ h=>nomatch h) (fun _ h=>nomatch h) (iC z hd rel dd)
theorem nN {tg l:Expr} {body:List Stmt} {i:Nat} {g:TG} {tb:TS} {pos:Pos} (hp:PassesOwn (model X.prog X.w) X.A X.env X.xe) (hc:X.calm=true) (hl:PE X l (nB i)) (hg:PG X tg g) (hb:je X body tb)
  (hs:∀ x,foldedSetIterable l X.env x=pure x:=by intro _;rfl):PS X (.For tg l body [] pos) (zr i g tb):=by
 intro pins s σ H D I h
 obtain⟨v,hv,a,kvs,rfl,ha,h⟩:=h
 have nf:=I.nf ha
 refine bh (dH hp hc (xG hl) hg hb hs pins s σ H { nx:=fun τ H2=>∃ ob,H2 a=some (.dB ob (.dK kvs))/\D.nx τ (upd H2 a (.dK kvs)),rt:=fun r H2=>∃ ob,H2 a=some (.dB ob (.dK kvs))/\D.rt r (upd H2 a (.dK kvs)),bk:=D.bk,ct:=D.ct } I ?_) fun f s' q=>?_
 ·refine⟨_,hv,a,kvs,rfl,ha,fun ob _=>?_⟩
  obtain⟨Pv,p0,pf,ps,pe⟩:=h ob
  refine⟨fun j m τ H2=>m=kvs.length - j/\j<=kvs.length/\Pv j τ H2,⟨kvs.length,by simp,Nat.zero_le _,p0⟩,?_⟩
  rintro j m τ H2 ⟨rfl,hj,p⟩
  by_cases hlt:j < kvs.length
  ·refine .inr ⟨⟨pf j τ H2 p,hlt⟩,Pv (j+1),fun τ' H' p'=>⟨kvs.length - (j+1),by omega,rfl,hlt,p'⟩,fun x H' y=>?_⟩
   obtain⟨e1,k,u,e2,e3⟩:=y
   subst e1 e3
   exact ps j k u τ _ e2 p
  ·have e:j=kvs.length:=by omega
   subst e
   exact .inl ⟨⟨pf _ τ H2 p,Nat.le_refl _⟩,ob,pf _ τ H2 p,pe τ H2 p⟩
 ·cases f with
  | next =>
   obtain⟨τ,H2,I2,ob,e,q⟩:=q
   exact⟨τ,_,yR I2 nf e,q⟩
  | brk=>exact q
  | cont=>exact q
  | ret u =>
   obtain⟨r,τ,H2,I2,rr,ob,e,q⟩:=q
   exact⟨r,τ,_,yR I2 nf e,rr,q⟩
end
def LT (H:Hp) (d:Addr) (T:Str->Sx) (m:Nat):Prop:=∃ kvs ks,H d=some (.dK kvs)/\Tb 0 H kvs ks T/\(∀ x ∈ ks,T x ≠ bE)/\ks.length<=m
theorem LT.aI {H H':Hp} {d:Addr} {T:Str->Sx} {m:Nat} (h:LT H d T m) (hd:∀ o,H d=some o->H' d=some o) (k:∀ p xs,H p=some (.tup xs)->H' p=some (.tup xs)):LT H' d T m:=by
 obtain⟨kvs,ks,h1,h2,h3,h4⟩:=h
 exact⟨kvs,ks,hd _ h1,h2.aI k,h3,h4⟩
theorem LT.same {H H':Hp} {d:Addr} {T:Str->Sx} {m:Nat} (h:LT H d T m) (s:ah H H'):LT H' d T m:=h.aI (fun o e=>s _ _ e) fun p xs e=>s _ _ e
theorem LT.get {H:Hp} {T:Str->Sx} {kvs:List (Key × V)} {ks:List Str} {t:Addr} (tb:Tb 0 H kvs ks T) (cl:∀ x ∈ ks,T x ≠ bE) (ht:H t=some (.tup [.aB,.aB])) (x:Str):∃ v,(bG kvs (Sum.inr x)).getD (.ref t)=v/\SH H v (T x):=by
 rcases tb.val x with ⟨a,b,_⟩ | ⟨v,a,b,c⟩
 ·exact⟨_,by rw [a];rfl,t,rfl,by rw [b];exact ht⟩
 ·refine⟨v,by rw [a];rfl,?_⟩
  rcases b with b | ⟨_,b⟩
  ·exact b
  ·exact absurd b (cl x c)
theorem kJ {T:Str->Sx} {x:Str} (h:T x=bE):cc T x bE=T:=by
 funext y
 unfold cc
 by_cases e:y=x
 ·rw [if_pos e,e,h]
 ·rw [if_neg e]
theorem uI {T:Str->Sx} {x:Str} {s t:Sx}:cc (cc T x s) x t=cc T x t:=by
 funext y
 unfold cc
 by_cases e:y=x
 ·rw [if_pos e,if_pos e]
 ·rw [if_neg e,if_neg e,if_neg e]
theorem oE (k j:Key):∀ kvs:List (Key × V),bG (cz kvs k) j=if j=k then none else bG kvs j
 | []=>by simp [cz,bG]
 | p :: r=>by
  have ih:=oE k j r
  by_cases e:p.1=k
  ·rw [oA e,ih]
   by_cases z:j=k
   ·rw [if_pos z,if_pos z]
   ·rw [if_neg z,if_neg z,cH (p:=p) (fun w:p.1=j=>z (w.symm.trans e))]
  ·rw [oB e]
   by_cases w:p.1=j
   ·rw [cO w,cO w,if_neg (fun z=>e (w.trans z))]
   ·rw [cH w,cH w,ih]
theorem Tb.drop {aA:Addr} {H:Hp} {kvs:List (Key × V)} {ks:List Str} {T:Str->Sx} (h:Tb aA H kvs ks T) (x:Str):Tb aA H (cz kvs (Sum.inr x)) (ks.filter fun y=>decide (y ≠ x)) (cc T x bE) where
 keys:=by
  have go:∀ (kvs:List (Key × V)) (ks:List Str),kvs.map (·.1)=ks.map Sum.inr->(cz kvs (Sum.inr x)).map (·.1)=(ks.filter fun y=>decide (y ≠ x)).map Sum.inr:=by
   intro kvs
   induction kvs with
   | nil =>
    intro ks e
    cases ks with
    | nil=>rfl
    | cons a b=>simp at e
   | cons p r ih =>
    intro ks e
    cases ks with
    | nil=>simp at e
    | cons a b =>
     rw [List.map_cons,List.map_cons] at e
     injection e with e1 e2
     by_cases z:a=x
     ·rw [oA (by rw [e1,z]),List.filter_cons_of_neg (by simp [z])]
      exact ih b e2
     ·rw [oB (fun w=>z (Sum.inr.inj (e1.symm.trans w))),List.filter_cons_of_pos (by simp [z]),List.map_cons,List.map_cons,ih b e2,e1]
  exact go kvs ks h.keys
 nd:=h.nd.filter _
 val:=fun y=>by
  rw [oE]
  unfold cc
  by_cases e:y=x
  ·subst e
   rw [if_pos rfl,if_pos rfl]
   exact .inl ⟨rfl,rfl,by simp⟩
  ·rw [if_neg (fun z=>e (Sum.inr.inj z)),if_neg e]
   rcases h.val y with ⟨a,b,c⟩ | ⟨v,a,b,c⟩
   ·exact .inl ⟨a,b,fun z=>c (List.mem_filter.mp z).1⟩
   ·exact .inr ⟨v,a,b,List.mem_filter.mpr ⟨c,by simp [e]⟩⟩
theorem uJ {kvs:List (Key × V)} {k:Key} {v:V} {j:Nat} (nd:(kvs.map (·.1)).Nodup) (h:kvs[j]? = some (k,v)):putK (kvs.take j) k v=kvs.take (j+1):=by
 have hj:j < kvs.length:=(List.getElem?_eq_some_iff.mp h).1
 have hn:¬ k ∈ (kvs.take j).map (·.1):=fun hm=>by
  have hs:(kvs.take (j+1)).map (·.1)=(kvs.take j).map (·.1) ++ [k]:=by
   rw [List.take_add_one,h,List.map_append];rfl
  have nd2:((kvs.take (j+1)).map (·.1)).Nodup:=by
   rw [List.map_take]
   exact nd.sublist (List.take_sublist _ _)
  rw [hs,List.nodup_append] at nd2
  exact nd2.2.2 k hm k (by simp) rfl
 have hv:bG (kvs.take j) k=none:=by
  cases e:bG (kvs.take j) k with
  | none=>rfl
  | some u=>exact absurd (xo e) hn
 rw [vo _ hv,List.take_add_one,h]
 rfl
def nO:Sp:=fun vs H Q _=>∃ (d:Addr) (T:Str->Sx),vs = [.ref d]/\LT H d T 63/\∀ v H',FV H' v T->ah H H'->Q v H'
def Sound (T:Str->Sx) (w:Str->Int):Prop:=∀ x,dA (w x) (T x).1 (T x).2=true
theorem vV {x:Str} (h:gd x):PyData.canLay0 (.str x)=true:=by
 show (x.cps.all fun c=>decide (c < 0x110000))=true
 rw [<-Array.all_toList,List.all_eq_true]
 intro c hc
 have:=h.az c hc
 exact decide_eq_true (by omega)
def cy (lo lo2:Option Int):Bool:=match lo2,lo with
 | none,_=>true
 | some _,none=>false
 | some a,some b=>decide (a<=b)
def bI (hi hi2:Option Int):Bool:=match hi2,hi with
 | none,_=>true
 | some _,none=>false
 | some a,some b=>decide (b<=a)
def cw (s t:Sx):Bool:=cy s.1 t.1 && bI s.2 t.2
def jd (T:Str->Sx) (m:Nat):Prop:=∀ ss:List Str,(∀ x ∈ ss,T x ≠ bE)->ss.Nodup->ss.length<=m
def nP (aA:Addr):Sp:=fun vs H Q _=>∃ (fv:V) (x:Str) (T:Str->Sx),vs = [fv,.str x]/\FV H fv T/\∀ v H',SV aA H' v (T x)->ah H H'->Q v H'
def jA (aA:Addr):Sp:=fun vs H Q _=>∃ (fv sv:V) (x:Str) (T:Str->Sx) (s:Sx),vs = [fv,.str x,sv]/\FV H fv T/\SV aA H sv s/\jd T 62/\∀ v H',FV H' v (cc T x s)->ah H H'->Q v H'
def jr (K:PySem.W.Frag):Sp:=fun vs H Q _=>∃ (p q:Addr) (s t:Sx),vs = [.ref p,.ref q]/\ay K H p [vO s.1,vO s.2]/\ay K H q [vO t.1,vO t.2]/\Q (.bl (cw s t)) H
def mz:Sp:=fun vs H Q _=>∃ (fv gv:V) (T U:Str->Sx),vs = [fv,gv]/\FV H fv T/\FV H gv U/\jd T 63/\∀ b H',(b=true ↔ ∀ x,cw (U x) (T x)=true)->ah H H'->Q (.bl b) H'
theorem nQ (s:Sx):cw s bE=true:=by
 obtain⟨a,b⟩:=s
 cases a <;> cases b <;> rfl
theorem uK {T U:Str->Sx} {ss:List Str} (hm:∀ x,x ∈ ss ↔ T x ≠ bE):(ss.map fun x=>cw (U x) (T x)).all id=true ↔ ∀ x,cw (U x) (T x)=true:=by
 rw [List.all_eq_true]
 constructor
 ·intro h x
  by_cases e:T x=bE
  ·rw [e];exact nQ _
  ·exact h _ (List.mem_map.mpr ⟨x,(hm x).mpr e,rfl⟩)
 ·intro h b hb
  obtain⟨x,_,rfl⟩:=List.mem_map.mp hb
  exact h x
section
variable {X:Cx}
end
theorem vW (s:Sx):cw s s=true:=by
 obtain⟨a,b⟩:=s
 cases a <;> cases b <;> simp [cw,cy,bI]
theorem LT.up {H:Hp} {d:Addr} {T:Str->Sx} {m n:Nat} (h:LT H d T m) (le:m<=n):LT H d T n:=by
 obtain⟨kvs,ks,g1,g2,g3,g4⟩:=h
 exact⟨kvs,ks,g1,g2,g3,Nat.le_trans g4 le⟩
def nR (K:PySem.W.Frag):Sp:=fun vs H Q _=>∃ (n:Int) (q:Addr) (lo hi:Option Int),vs = [.int n,.ref q]/\ay K H q [vO lo,vO hi]/\Q (.bl (dA n lo hi)) H
def iI (K:PySem.W.Frag) (F:Option Int->Option Int->Int->Rs):Sp:=fun vs H Q _=>∃ (p:Addr) (n:Int) (lo hi:Option Int),vs = [.ref p,.int n]/\ay K H p [vO lo,vO hi]/\∀ v H',RV H' v (F lo hi n)->ah H H'->Q v H'
def nS (K:PySem.W.Frag):Sp:=fun vs H Q _=>∃ (p:Addr) (w:Str) (n:Int) (side:Bool) (lo hi:Option Int),vs = [.ref p,.str w,.int n,.bl side]/\ay K H p [vO lo,vO hi]/\∀ v H',RV H' v (dP w lo hi n side)->ah H H'->Q v H'
def iK (T:Str->Sx) (b:Bool) (x:Str) (n:Int) (side:Bool):Rs:=dP (wT b) (T x).1 (T x).2 n side
def gS (T:Str->Sx):End->List (Option (Str->Sx))
 | .stop=>[]
 | .go _=>[some T]
 | .d6 b x n _ _=>[(iK T b x n true).map (cc T x),(iK T b x n false).map (cc T x)]
def BV (H:Hp) (u:V):Option (Str->Sx)->Prop
 | none=>u=.aB
 | some T=>FV H u T
theorem BV.same {H H':Hp} {u:V} {o:Option (Str->Sx)} (h:BV H u o) (s:ah H H'):BV H' u o:=by
 cases o with
 | none=>exact h
 | some T=>exact FV.same h s
theorem BV.aI {H H':Hp} {u:V} {o:Option (Str->Sx)} (h:BV H u o) (k:∀ p xs,H p=some (.tup xs)->H' p=some (.tup xs)):BV H' u o:=by
 cases o with
 | none=>exact h
 | some T=>exact FV.aI h k
def cI (H:Hp) (us:List V) (os:List (Option (Str->Sx))):Prop:=Paired (BV H) us os
def fJ (T:Str->Sx) (e:End):List (Nat × (Str->Sx)):=((cJ e).zip (gS T e)).filterMap fun p=>p.2.map fun U=>(p.1,U)
def mB (aA:Addr):Sp:=fun vs H Q _=>∃ (fv:V) (ea:Addr) (T:Str->Sx) (e:End),vs = [fv,.ref ea]/\FV H fv T/\H ea=some (.tup (i6 e))/\jd T 62 /\
 ∀ (t:Addr) (us:List V) (H':Hp),H' t=some (.tup us)->cI H' us (gS T e)->ah H H'->Q (.ref t) H'
def PV (H:Hp) (v:V) (p:Nat × (Str->Sx)):Prop:=∃ q u,v=.ref q/\H q=some (.tup [.int p.1,u])/\FV H u p.2
theorem PV.aI {H H':Hp} {v:V} {p:Nat × (Str->Sx)} (h:PV H v p) (k:∀ p xs,H p=some (.tup xs)->H' p=some (.tup xs)):PV H' v p:=by
 obtain⟨q,u,e,h1,h2⟩:=h
 exact⟨q,u,e,k _ _ h1,h2.aI k⟩
def j9 (H:Hp) (vs:List V) (ps:List (Nat × (Str->Sx))):Prop:=Paired (PV H) vs ps
theorem j9.aI {H H':Hp} (k:∀ p xs,H p=some (.tup xs)->H' p=some (.tup xs)):∀ {vs:List V} {ps:List (Nat × (Str->Sx))},j9 H vs ps->j9 H' vs ps
 | _,_,.nil=>.nil
 | _,_,.cons h t=>.cons (h.aI k) (j9.aI k t)
theorem cI.aI {H H':Hp} (k:∀ p xs,H p=some (.tup xs)->H' p=some (.tup xs)):∀ {vs:List V} {ps:List (Option (Str->Sx))},cI H vs ps->cI H' vs ps
 | _,_,.nil=>.nil
 | _,_,.cons h t=>.cons (h.aI k) (cI.aI k t)
theorem j9.same {H H':Hp} {vs:List V} {ps:List (Nat × (Str->Sx))} (h:j9 H vs ps) (s:ah H H'):j9 H' vs ps:=h.aI fun p xs e=>s _ _ e
theorem cI.same {H H':Hp} {vs:List V} {ps:List (Option (Str->Sx))} (h:cI H vs ps) (s:ah H H'):cI H' vs ps:=h.aI fun p xs e=>s _ _ e
def nT (aA:Addr):Sp:=fun vs H Q _=>∃ (fv:V) (ea:Addr) (T:Str->Sx) (e:End),vs = [fv,.ref ea]/\FV H fv T/\H ea=some (.tup (i6 e))/\jd T 62 /\
 ∀ (t:Addr) (vs:List V) (H':Hp),H' t=some (.tup vs)->j9 H' vs (fJ T e)->ah H H'->Q (.ref t) H'
theorem FV.wY {H:Hp} {u v:V} {T:Str->Sx} (hu:FV H u T) (hv:FV H v T):∃ ss:List Str,bB H u (gg T ss)/\bB H v (gg T ss)/\∀ x ∈ ss,T x ≠ bE:=by
 obtain⟨p,xs,ss,rfl,hp,srt,hm,r⟩:=hu
 obtain⟨p',xs',ss',rfl,hp',srt',hm',r'⟩:=hv
 have e:ss' = ss:=srt'.unique srt fun x=>by rw [hm,hm']
 subst e
 exact⟨ss',.tup hp r,.tup hp' r',fun x hx=>(hm x).mp hx⟩
def vX (T:Str->Sx):Prop:=∀ x,T x ≠ bE->PyData.canLay0 (.str x)=true
theorem uL {T:Str->Sx} (h:vX T):∀ ss:List Str,(∀ x ∈ ss,T x ≠ bE)->(gg T ss).canLay0=true
 | [],_=>rfl
 | x :: ss,hs=>by
  have ih:=uL h ss fun y hy=>hs y (List.mem_cons_of_mem _ hy)
  show ((PyData.canLay0 (.str x) && ((dS (T x)).canLay0 && true)) && (gg T ss).canLay0)=true
  rw [h x (hs x (List.mem_cons_self ..)),pd,ih]
  rfl
theorem yS (T:Str->Sx) (ss:List Str):(gg T ss).depth<=3:=by
 have go:∀ ss:List Str,PyData.depthAll (ss.map (dF T))<=2:=by
  intro ss
  induction ss with
  | nil=>exact Nat.zero_le _
  | cons x ss ih =>
   show max (max 0 (max ((dS (T x)).depth) 0)+1) (PyData.depthAll (ss.map (dF T)))<=2
   have hd:(dS (T x)).depth<=1:=by
    obtain⟨a,b⟩:=T x
    cases a <;> cases b <;> (show (1:Nat)<=1;decide)
   omega
 show PyData.depthAll (ss.map (dF T))+1<=3
 have:=go ss
 omega
theorem xH {T:Str->Sx} {e:End} (h:(cJ e).length < 2):gS T e=(cJ e).map fun _=>some T:=by
 cases e with
 | stop=>rfl
 | go p=>rfl
 | d6 b x n p q=>exact absurd h (by show ¬ 2 < 2;omega)
theorem rW {H:Hp} {fv:V} {T:Str->Sx} (h:FV H fv T):∀ l:List Nat,cI H (List.replicate l.length fv) (l.map fun _=>some T)
 | []=>.nil
 | _ :: l=>.cons h (rW h l)
def lU (H:Hp) (vs:List V) (rs:List Rs):Prop:=Paired (RV H) vs rs
theorem lU.same {H H':Hp} (s:ah H H'):∀ {vs:List V} {rs:List Rs},lU H vs rs->lU H' vs rs
 | _,_,.nil=>.nil
 | _,_,.cons h t=>.cons (h.same s) (lU.same s t)
theorem lU.put {H:Hp} {l:Addr} {xs:List V} {o:HO} (hl:H l=some (.lst xs)):∀ {vs:List V} {rs:List Rs},lU H vs rs->lU (upd H l o) vs rs
 | _,_,.nil=>.nil
 | _,_,.cons h t=>.cons (h.put hl) (lU.put hl t)
theorem RV.sv {aA:Addr} {H:Hp} {v:V} {s:Sx} (h:RV H v (some s)):SV aA H v s:=by
 obtain⟨a,b⟩:=s
 obtain⟨p,e,h⟩:=h
 exact .inl ⟨p,e,h⟩
def qp (ss:List Str):PyData:=.tuple (ss.map fun x=>.tuple [.str x,.tuple [.int 0,.int 0]])
def nU:Sp:=fun vs H Q _=>∃ (plv:V) (ps:List Piece) (xs:List Str) (m:Nat),vs = [plv]/\bB H plv (il ps)/\fe xs m ps/\xs.length < 64/\(aR ps).length<=4000 /\
 ∀ (v:V) (ss:List Str) (H':Hp),bB H' v (qp ss)->ss.Perm (cn (aR ps))->sortedS ss=true->ah H H'->Q v H'
theorem iF:∀ ss:List Str,cB (ss.map fun x=>PyData.tuple [.str x,.tuple [.int 0,.int 0]])=true
 | []=>rfl
 | x :: ss=>by
  show (true && cB (ss.map fun x=>PyData.tuple [.str x,.tuple [.int 0,.int 0]]))=true
  rw [iF ss];rfl
theorem oF {T:Str->Sx} {e:End} {i k:Nat} {o:Option (Str->Sx)} (h1:(cJ e)[i]? = some k) (h2:(gS T e)[i]? = some o) :
  (((cJ e).zip (gS T e)).take (i+1)).filterMap (fun p=>p.2.map fun U=>(p.1,U))=(((cJ e).zip (gS T e)).take i).filterMap (fun p=>p.2.map fun U=>(p.1,U))++(o.map fun U=>(k,U)).toList:=by
 have hz:((cJ e).zip (gS T e))[i]? = some (k,o):=by rw [List.getElem?_zip_eq_some];exact⟨h1,h2⟩
 rw [List.take_add_one,hz,List.filterMap_append]
 cases o <;> rfl
theorem iG {α β : Type} {F:α->β->Prop} {l:List α} {m:List β} (h:Paired F l m) {i:Nat} {x:α} (e:l[i]? = some x):∃ y,m[i]? = some y/\F x y:=LS.j0 h e
theorem eZ {α β : Type} {F:α->β->Prop}:∀ {l l':List α} {m m':List β},Paired F l m->Paired F l' m'->Paired F (l++l') (m++m')
 | _,_,_,_,.nil,h=>h
 | _,_,_,_,.cons r t,h=>.cons r (eZ t h)
section
variable {prog:Program} {w:World} {A:Around} {E:Value->Shared->Prop} {s:Shared}
end
section
variable {X:Cx}
end
def mC (lo hi:Option Int):Rs:=match lo,hi with
 | some a,some b=>if b < a then none else some (some a,some b)
 | lo,hi=>some (lo,hi)
theorem uM (lo hi:Option Int) (n:Int):mC lo (some (i7 hi n))=gf lo hi n:=by
 cases lo <;> rfl
theorem vY (lo hi:Option Int) (n:Int):mC (some (i8 lo n)) hi=iq lo hi n:=by
 cases hi <;> rfl
theorem xI {lo hi:Option Int} {n:Int} (le:lP lo hi):mC (if lo=some n then some (n+1) else lo) (if hi=some n then some (n - 1) else hi)=i9 lo hi n:=by
 unfold i9
 by_cases h1:lo=some n
 ·rw [if_pos h1,if_pos h1]
  by_cases h2:hi=some n
  ·rw [if_pos h2,if_pos h2]
   show (if n - 1 < n+1 then none else _)=none
   rw [if_pos (by omega)]
  ·rw [if_neg h2,if_neg h2]
   subst h1
   cases hi with
   | none=>rfl
   | some h =>
    have:n<=h:=le
    have:¬ h=n:=fun z=>h2 (by rw [z])
    show (if h < n+1 then none else _)=_
    rw [if_neg (by omega)]
 ·rw [if_neg h1,if_neg h1]
  by_cases h2:hi=some n
  ·rw [if_pos h2,if_pos h2]
   subst h2
   cases lo with
   | none=>rfl
   | some a =>
    have:a<=n:=le
    have:¬ a=n:=fun z=>h1 (by rw [z])
    show (if n - 1 < a then none else _)=_
    rw [if_neg (by omega)]
  ·rw [if_neg h2,if_neg h2]
   cases lo with
   | none=>rfl
   | some a =>
    cases hi with
    | none=>rfl
    | some h =>
     have:a<=h:=le
     show (if h < a then none else _)=_
     rw [if_neg (by omega)]
def nV:Sp:=fun vs H Q _=>∃ (p:Addr) (b:Bool) (n:Int) (side:Bool) (lo hi:Option Int),vs = [.ref p,.str (wT b),.int n,.bl side]/\H p=some (.tup [vO lo,vO hi])/\lP lo hi/\∀ v H',RV H' v (dP (wT b) lo hi n side)->ah H H'->Q v H'
theorem LT.put {H:Hp} {d l:Addr} {T:Str->Sx} {m:Nat} {xs:List V} {o:HO} (h:LT H d T m) (hl:H l=some (.lst xs)):LT (upd H l o) d T m:=by
 refine h.aI (fun u e=>?_) fun p zs e=>by rw [au (bA e hl (by intro z;cases z))];exact e
 obtain⟨kvs,ks,g,_⟩:=h
 rw [au (bA g hl (by intro z;cases z))]
 exact e
def qq:Sp:=fun vs H Q _=>∃ (plv:V) (ps:List Piece) (xs:List Str) (m:Nat),vs = [plv]/\bB H plv (il ps)/\fe xs m ps/\xs.length < 64 /\
 ∀ (l:Addr) (ss:List Str) (H':Hp),H' l=some (.lst (ss.map V.str))->ss.Perm (cn (aR ps))->sortedS ss=true->ss.length < 64->ah H H'->Q (.ref l) H'
def KeysAre (kvs:List (Key × V)) (ns:List Str):Prop:=kvs.map (·.1)=(cn ns).map Sum.inr
theorem sY (ns:List Str) (x:Str):cn (ns ++ [x])=LS.putIn (cn ns) x:=by unfold cn;rw [List.foldl_append];rfl
theorem KeysAre.put {kvs:List (Key × V)} {ns:List Str} (h:KeysAre kvs ns) (x:Str) (v:V):KeysAre (putK kvs (Sum.inr x) v) (ns ++ [x]):=by
 unfold KeysAre at h ⊢
 rw [sY]
 unfold LS.putIn
 rcases ky (kvs:=kvs) (k:=(Sum.inr x:Key)) (v:=v) with ⟨e1,hm⟩ | ⟨e1,hn⟩
 ·rw [h] at hm
  obtain⟨y,hy,e⟩:=List.mem_map.mp hm
  cases e
  rw [if_pos hy,e1,h]
 ·rw [if_neg (fun z=>hn (by rw [h];exact List.mem_map.mpr ⟨x,z,rfl⟩)),e1,h,List.map_append];rfl
theorem KeysAre.len {kvs:List (Key × V)} {ns:List Str} (h:KeysAre kvs ns):kvs.length=(cn ns).length:=by have:=congrArg List.length h;simpa using this
theorem vZ {ns xs:List Str} (h:∀ x ∈ ns,x ∈ xs):(cn ns).length<=xs.length:=sub_len (mr _) fun x hx=>h x (jo.mp hx)
theorem xJ {xs:List Str} {m:Nat} {ps:List Piece} (ok:fe xs m ps):(aR ps).length<=ps.length * (2 * m+1):=by
 unfold aR
 have h:∀ p ∈ ps,(pNames p).length<=2 * m+1:=fun p hp=>by
  have h1:=(ok.lh p hp).1
  unfold pNames
  rw [List.length_append]
  have h2:(p.1.flatMap bR).length<=2 * p.1.length:=by
   induction p.1 with
   | nil=>simp
   | cons d ds ih =>
    rw [List.flatMap_cons,List.length_append,List.length_cons]
    have:(bR d).length<=2:=by cases d <;> simp [bR]
    omega
  have h3:(fB p.2).length<=1:=by cases p.2 <;> simp [fB]
  omega
 clear ok
 induction ps with
 | nil=>simp
 | cons p ps ih =>
  rw [List.flatMap_cons,List.length_append,List.length_cons]
  have h1:=h p (List.mem_cons_self ..)
  have h2:=ih fun q hq=>h q (List.mem_cons_of_mem _ hq)
  rw [Nat.add_mul]
  omega
section
variable {X:Cx}
end
section
variable {prog:Program} {w:World} {A:Around} {E:Value->Shared->Prop} {s:Shared}
end
section
variable {X:Cx}
end
section
variable {X:Cx}
end
section
variable {P:Program} {w:World} {K:PySem.W.Frag} {mg:Str->Option Value} {base:Heap}
end
section
variable {P:Program} {w:World} {C r m d:Addr} {H H':Hp} {ms:List (PyData × Addr)}
end
section
variable (P:Program) (w:World) (C:Addr)
end
def T0:Str->Sx:=fun _=>bE
def FD (T:Str->Sx) (d:PyData):Prop:=∃ ss:List Str,jb ss/\(∀ x,x ∈ ss ↔ T x ≠ bE)/\d=gg T ss
theorem FD.fv {H:Hp} {v:V} {T:Str->Sx} {d:PyData} (h:FD T d) (r:bB H v d):FV H v T:=by
 obtain⟨ss,srt,hm,rfl⟩:=h
 obtain⟨p,xs,rfl,hp,r⟩:=bB.cQ r
 exact⟨p,xs,ss,rfl,hp,srt,hm,r⟩
section
variable (tops:Nat->Prop) (most:Nat)
end
structure de (xs:List Str) (T:Str->Sx):Prop where
 sup:∀ x,T x ≠ bE->x ∈ xs
 le:∀ x,lP (T x).1 (T x).2
theorem de.set {xs:List Str} {T:Str->Sx} (h:de xs T) {x:Str} {s:Sx} (hx:x ∈ xs) (hs:lP s.1 s.2):de xs (cc T x s):=by
 refine⟨fun y hy=>?_,fun y=>?_⟩
 ·unfold cc at hy
  by_cases e:y=x
  ·rw [e];exact hx
  ·rw [if_neg e] at hy;exact h.sup y hy
 ·unfold cc
  by_cases e:y=x
  ·rw [if_pos e];exact hs
  ·rw [if_neg e];exact h.le y
theorem xK {w:Str} {lo hi:Option Int} {n:Int} {side:Bool} {s:Sx} (le:lP lo hi) (h:dP w lo hi n side=some s):lP s.1 s.2:=by
 unfold dP at h
 split at h
 ·unfold lr at h
  split at h
  ·unfold gf at h
   cases lo with
   | none=>cases h;exact True.intro
   | some l =>
    dsimp only at h
    split at h
    ·cases h
    ·cases h;show l<=i7 hi n;omega
  ·unfold iq at h
   cases hi with
   | none=>cases h;exact True.intro
   | some l =>
    dsimp only at h
    split at h
    ·cases h
    ·cases h;show i8 lo n<=l;omega
 ·unfold rO at h
  split at h
  ·unfold j7 at h
   split at h
   ·cases h;exact Int.le_refl n
   ·cases h
  ·unfold i9 at h
   split at h
   ·next h1 =>
    split at h
    ·cases h
    ·next h2 =>
     cases h
     subst h1
     cases hi with
     | none=>exact True.intro
     | some b =>
      have:n<=b:=le
      have:¬ b=n:=fun z=>h2 (by rw [z])
      show n+1<=b
      omega
   ·next h1 =>
    split at h
    ·next h2 =>
     cases h
     subst h2
     cases lo with
     | none=>exact True.intro
     | some a =>
      have:a<=n:=le
      have:¬ a=n:=fun z=>h1 (by rw [z])
      show a<=n - 1
      omega
    ·cases h;exact le
theorem de.zE {xs:List Str} {T:Str->Sx} (h:de xs T) {d:cx} (hd:eB xs d):de xs (sX T d):=by
 refine h.set hd.name ?_
 cases d with
 | put x n=>exact Int.le_refl n
 | copy x y=>exact h.le y
 | add x n =>
  have:=h.le x
  show lP (jc (T x).1 n) (jc (T x).2 n)
  cases e1:(T x).1 with
  | none=>exact True.intro
  | some a=>cases e2:(T x).2 with
   | none=>exact True.intro
   | some b =>
    rw [e1,e2] at this
    have:a<=b:=this
    show a+n<=b+n
    omega
 | read x=>exact True.intro
 | tell x=>exact h.le x
theorem de.qr {xs:List Str}:∀ {ds:List cx} {T:Str->Sx},de xs T->(∀ d ∈ ds,eB xs d)->de xs (bx T ds)
 | [],_,h,_=>h
 | d :: ds,T,h,hd=>de.qr (ds:=ds) (h.zE (hd d (List.mem_cons_self ..))) fun e he=>hd e (List.mem_cons_of_mem _ he)
theorem rX {xs:List Str} {c:Nat} {T:Str->Sx} {e:End} (h:de xs T) (he:mV xs c e):∀ p ∈ fJ T e,p.1 < c/\de xs p.2:=fun p hp=>by
 unfold fJ at hp
 obtain⟨⟨k,o⟩,ho,hm⟩:=List.mem_filterMap.mp hp
 have hz:=List.of_mem_zip ho
 cases e with
 | stop=>cases hz.1
 | go q =>
  rw [List.mem_singleton.mp hz.2] at hm
  cases hm
  exact⟨by rw [List.mem_singleton.mp hz.1];exact he,h⟩
 | d6 b x n q r =>
  have hk:k < c:=by
   rcases List.mem_cons.mp hz.1 with z | z
   ·rw [z];exact he.2.2.1
   ·rw [List.mem_singleton.mp z];exact he.2.2.2
  have key:∀ side,o=(iK T b x n side).map (cc T x)->p.1 < c/\de xs p.2:=fun side eo=>by
   dsimp only at hm
   rw [eo] at hm
   cases z:iK T b x n side with
   | none=>rw [z] at hm;cases hm
   | some s =>
    rw [z] at hm
    cases hm
    exact⟨hk,h.set he.1 (xK (h.le x) z)⟩
  rcases List.mem_cons.mp hz.2 with z | z
  ·exact key true z
  ·exact key false (List.mem_singleton.mp z)
theorem de.lay {xs:List Str} {T:Str->Sx} (h:de xs T) (hx:∀ x ∈ xs,gd x):vX T:=fun x hx'=>vV (hx x (h.sup x hx'))
theorem de.bL {xs:List Str} {T:Str->Sx} (h:de xs T):jd T xs.length:=fun ss hs nd=>sub_len nd fun x hx=>h.sup x (hs x hx)
open Classical in
noncomputable def startT (ps:List Piece):Str->Sx:=fun x=>if x ∈ aR ps then (some 0,some 0) else bE
theorem v5 {ps:List Piece} {ss:List Str} (hp:ss.Perm (LS.cn (aR ps))) (hs:sortedS ss=true):FD (startT ps) (qp ss):=by
 have hm:∀ x,x ∈ ss ↔ x ∈ aR ps:=fun x=>hp.mem_iff.trans LS.jo
 refine⟨ss,⟨kH hs,hp.nodup_iff.mpr (LS.mr _)⟩,fun x=>?_,?_⟩
 ·rw [hm]
  unfold startT
  by_cases h:x ∈ aR ps
  ·rw [if_pos h];exact⟨fun _ z=>(by cases z),fun _=>h⟩
  ·rw [if_neg h];exact⟨fun z=>absurd z h,fun z=>absurd rfl z⟩
 ·unfold qp gg
  congr 1
  refine List.map_congr_left fun x hx=>?_
  unfold dF startT
  rw [if_pos ((hm x).mp hx)]
  rfl
theorem qt {ps:List Piece} {xs:List Str} {m:Nat} (ok:fe xs m ps):de xs (startT ps):=by
 refine⟨fun x hx=>?_,fun x=>?_⟩
 ·unfold startT at hx
  by_cases h:x ∈ aR ps
  ·exact kF ok x h
  ·rw [if_neg h] at hx;exact absurd rfl hx
 ·unfold startT
  split
  ·exact Int.le_refl 0
  ·exact True.intro
theorem nj:∀ {vs:List Value} {ks:List Int},vs.length=ks.length->(∀ (j:Nat) (v:Value) (x:Int),vs[j]? = some v->ks[j]? = some x->∃ t,v=.int x t)->IntsAre vs ks
 | [],[],_,_=>.nil
 | [],_ :: _,h,_=>by cases h
 | _ :: _,[],h,_=>by cases h
 | v :: vs,x :: ks,hl,h=>by
  obtain⟨t,rfl⟩:=h 0 v x rfl rfl
  exact .cons x t (nj (by simpa using hl) fun j v y h1 h2=>h (j+1) v y (by simpa using h1) (by simpa using h2))
section
variable {prog:Program} {w:World} {A:Around} {E:Value->Shared->Prop} {s:Shared}
end
section
variable {X:Cx}
end
open Classical in
noncomputable def mD (T:Str->Sx) (ss:List Str):Str->Sx:=fun x=>if x ∈ ss then T x else bE
theorem v7 {T:Str->Sx} {ss:List Str} {x:Str}:cc (mD T ss) x (T x)=mD T (ss ++ [x]):=by
 funext y
 unfold cc mD
 by_cases e:y=x
 ·rw [if_pos e,if_pos (by rw [e];exact List.mem_append_right _ (List.mem_singleton.mpr rfl)),e]
 ·rw [if_neg e]
  by_cases h:y ∈ ss
  ·rw [if_pos h,if_pos (List.mem_append_left _ h)]
  ·rw [if_neg h,if_neg (fun z=>(List.mem_append.mp z).elim h fun w=>e (List.mem_singleton.mp w))]
theorem v8 {T:Str->Sx} {ss:List Str} (h:∀ x,x ∈ ss ↔ T x ≠ bE):mD T ss=T:=by
 funext x
 unfold mD
 by_cases z:x ∈ ss
 ·rw [if_pos z]
 ·rw [if_neg z]
  exact (Classical.byContradiction fun w=>z ((h x).mpr fun e=>w e.symm))
section
variable {tops:Nat->Prop} {most:Nat}
end
section
variable {X:Cx}
end
abbrev dD:=List (Option (Str->Sx))
def Met (tab:dD) (ld:Nat × (Str->Sx)):Prop:=∃ T,tab[ld.1]? = some (some T)/\∀ x,cw (ld.2 x) (T x)=true
def Ac (tab:dD) (o:Option (Str->Sx)) (p:Piece):Prop:=∀ T,o=some T->∀ ld ∈ fJ (bx T p.1) p.2,Met tab ld
theorem uN {a b:Option Int} {n:Int}:(match a with | none=>true | some a=>decide (a<=n))=true->cy a b=true->(match b with | none=>true | some a=>decide (a<=n))=true:=by
 intro hl h
 cases b with
 | none=>rfl
 | some b =>
  cases a with
  | none=>cases h
  | some a =>
   have h1:b<=a:=of_decide_eq_true h
   have h2:a<=n:=of_decide_eq_true hl
   exact decide_eq_true (by omega)
theorem sZ {a b:Option Int} {n:Int}:(match a with | none=>true | some a=>decide (n<=a))=true->bI a b=true->(match b with | none=>true | some a=>decide (n<=a))=true:=by
 intro hl h
 cases b with
 | none=>rfl
 | some b =>
  cases a with
  | none=>cases h
  | some a =>
   have h1:a<=b:=of_decide_eq_true h
   have h2:n<=a:=of_decide_eq_true hl
   exact decide_eq_true (by omega)
theorem v9 {s t:Sx} {n:Int} (h:cw s t=true) (hl:dA n s.1 s.2=true):dA n t.1 t.2=true:=by
 unfold cw at h
 unfold dA at hl ⊢
 rw [Bool.and_eq_true] at h hl ⊢
 exact⟨uN hl.1 h.1,sZ hl.2 h.2⟩
theorem Sound.wide {T U:Str->Sx} {w:Str->Int} (h:Sound T w) (hu:∀ x,cw (T x) (U x)=true):Sound U w:=fun x=>v9 (hu x) (h x)
theorem tf {a b c:Option Int} (h:cy a b=true) (g:cy b c=true):cy a c=true:=by
 cases c with
 | none=>rfl
 | some c =>
  cases b with
  | none=>cases g
  | some b =>
   cases a with
   | none=>cases h
   | some a =>
    have h1:b<=a:=of_decide_eq_true h
    have h2:c<=b:=of_decide_eq_true g
    exact decide_eq_true (by omega)
theorem qS {a b c:Option Int} (h:bI a b=true) (g:bI b c=true):bI a c=true:=by
 cases c with
 | none=>rfl
 | some c =>
  cases b with
  | none=>cases g
  | some b =>
   cases a with
   | none=>cases h
   | some a =>
    have h1:a<=b:=of_decide_eq_true h
    have h2:b<=c:=of_decide_eq_true g
    exact decide_eq_true (by omega)
theorem uO {a b c:Sx} (h:cw a b=true) (g:cw b c=true):cw a c=true:=by
 unfold cw at h g ⊢
 rw [Bool.and_eq_true] at h g ⊢
 exact⟨tf h.1 g.1,qS h.2 g.2⟩
def cW (s t:Sx):Sx:=(if cw t (s.1,none)=true then s.1 else none,if cw t (none,s.2)=true then s.2 else none)
def g0 (T U:Str->Sx):Str->Sx:=fun x=>cW (T x) (U x)
theorem rY (s t:Sx):cw s (cW s t)=true:=by
 unfold cw cW
 rw [Bool.and_eq_true]
 constructor
 ·dsimp only
  split
  ·cases s.1 <;> simp [cy]
  ·rfl
 ·dsimp only
  split
  ·cases s.2 <;> simp [bI]
  ·rfl
theorem wb (s t:Sx):cw t (cW s t)=true:=by
 unfold cW
 show (cy t.1 _ && bI t.2 _)=true
 rw [Bool.and_eq_true]
 constructor
 ·dsimp only
  split
  ·rename_i h
   unfold cw at h
   rw [Bool.and_eq_true] at h
   exact h.1
  ·rfl
 ·dsimp only
  split
  ·rename_i h
   unfold cw at h
   rw [Bool.and_eq_true] at h
   exact h.2
  ·rfl
theorem qu (t:Sx):cW bE t=bE:=by
 unfold cW bE
 simp
theorem zt {s:Sx} (t:Sx) (h:lP s.1 s.2):lP (cW s t).1 (cW s t).2:=by
 unfold cW
 dsimp only
 split <;> split <;> first | exact h | exact True.intro | (cases s.1 <;> exact True.intro)
theorem de.op {xs:List Str} {T U:Str->Sx} (h:de xs T):de xs (g0 T U):=⟨fun x hx=>h.sup x fun e=>hx (by unfold g0;rw [e,qu]),fun x=>zt _ (h.le x)⟩
def qv (o:Option Int):Nat:=if o.isSome=true then 1 else 0
def ir (s:Sx):Nat:=qv s.1+qv s.2
theorem wc (s:Sx):ir s<=2:=by
 unfold ir qv
 split <;> split <;> omega
theorem rZ (s t:Sx):ir (cW s t)<=ir s:=by
 have key:∀ (c:Bool) (o:Option Int),qv (if c=true then o else none)<=qv o:=fun c o=>by cases c <;> cases o <;> simp [qv]
 exact Nat.add_le_add (key _ _) (key _ _)
theorem uP {s t:Sx} (h:cw t s=false):ir (cW s t) < ir s:=by
 unfold cw at h
 have key:∀ a b:Option Int,cy a b=false->∃ k,b=some k:=fun a b h=>by cases b with | none=>cases h | some k=>exact⟨k,rfl⟩
 have key2:∀ a b:Option Int,bI a b=false->∃ k,b=some k:=fun a b h=>by cases b with | none=>cases h | some k=>exact⟨k,rfl⟩
 have e1:cw t (s.1,none)=cy t.1 s.1:=by unfold cw;simp [bI]
 have e2:cw t (none,s.2)=bI t.2 s.2:=by unfold cw;simp [cy]
 unfold ir cW qv
 rw [e1,e2]
 dsimp only
 cases h1:cy t.1 s.1 with
 | false =>
  obtain⟨k,hk⟩:=key _ _ h1
  rw [hk]
  simp
  split <;> simp <;> (try split) <;> omega
 | true =>
  rw [h1,Bool.true_and] at h
  obtain⟨k,hk⟩:=key2 _ _ h
  rw [h,hk]
  simp
def gU (xs:List Str) (T:Str->Sx):Nat:=(xs.map fun x=>ir (T x)).sum
theorem qw:∀ (xs:List Str) (T:Str->Sx),gU xs T<=2 * xs.length
 | [],T=>Nat.le_refl _
 | x :: xs,T=>by
  have:=qw xs T
  have h:=wc (T x)
  unfold gU at this ⊢
  simp only [List.map_cons,List.sum_cons,List.length_cons]
  omega
theorem qx:∀ (xs:List Str) (T U:Str->Sx),gU xs (g0 T U)<=gU xs T
 | [],T,U=>Nat.le_refl _
 | x :: xs,T,U=>by
  have:=qx xs T U
  have h:=rZ (T x) (U x)
  unfold gU at this ⊢
  simp only [List.map_cons,List.sum_cons]
  show ir (cW (T x) (U x))+_<=_
  omega
theorem nq:∀ (xs:List Str) (T U:Str->Sx) (y:Str),y ∈ xs->cw (U y) (T y)=false->gU xs (g0 T U) < gU xs T
 | [],T,U,y,h,_=>nomatch h
 | x :: xs,T,U,y,h,hw=>by
  have h1:=rZ (T x) (U x)
  have h2:=qx xs T U
  unfold gU at h2 ⊢
  simp only [List.map_cons,List.sum_cons]
  show ir (cW (T x) (U x))+_ < _
  rcases List.mem_cons.mp h with e | e
  ·subst e
   have:=uP hw
   omega
  ·have:=nq xs T U y e hw
   unfold gU at this
   omega
def qy (xs:List Str):Option (Str->Sx)->Nat
 | none=>2 * xs.length+1
 | some T=>gU xs T
def fV (xs:List Str) (tab:dD):Nat:=(tab.map (qy xs)).sum
theorem sd (xs:List Str):∀ (tab:dD) (k:Nat) (o o':Option (Str->Sx)),tab[k]? = some o->fV xs (tab.set k o')+qy xs o=fV xs tab+qy xs o'
 | [],k,o,o',h=>by simp at h
 | f :: tab,0,o,o',h=>by
  cases h
  simp only [fV,List.set_cons_zero,List.map_cons,List.sum_cons]
  omega
 | f :: tab,k+1,o,o',h=>by
  have ih:=sd xs tab k o o' h
  simp only [fV,List.set_cons_succ,List.map_cons,List.sum_cons] at ih ⊢
  omega
def fC (o:Option (Str->Sx)) (U:Str->Sx):Str->Sx:=match o with
 | none=>U
 | some T=>g0 T U
theorem tj (o:Option (Str->Sx)) (U:Str->Sx) (x:Str):cw (U x) (fC o U x)=true:=by
 cases o with
 | none=>exact vW _
 | some T=>exact wb _ _
theorem Met.up {tab:dD} {k:Nat} {o:Option (Str->Sx)} {U:Str->Sx} (hk:tab[k]? = some o) {ld:Nat × (Str->Sx)} (h:Met tab ld):Met (tab.set k (some (fC o U))) ld:=by
 obtain⟨T,h1,h2⟩:=h
 by_cases e:ld.1=k
 ·rw [e,hk] at h1
  cases h1
  refine⟨_,by rw [e,List.getElem?_set_self (List.getElem?_eq_some_iff.mp hk).1],fun x=>?_⟩
  exact uO (h2 x) (rY _ _)
 ·exact⟨T,by rw [List.getElem?_set_ne (fun z=>e z.symm)];exact h1,h2⟩
theorem Met.new {tab:dD} {k:Nat} {o:Option (Str->Sx)} {U:Str->Sx} (hk:tab[k]? = some o):Met (tab.set k (some (fC o U))) (k,U) :=
 ⟨_,List.getElem?_set_self (List.getElem?_eq_some_iff.mp hk).1,tj o U⟩
theorem se {xs:List Str} {tab:dD} {k:Nat} {o:Option (Str->Sx)} {U:Str->Sx} (hk:tab[k]? = some o) (ho:∀ T,o=some T->de xs T) (hm:¬ Met tab (k,U)):fV xs (tab.set k (some (fC o U))) < fV xs tab:=by
 have h:=sd xs tab k o (some (fC o U)) hk
 have hl:qy xs (some (fC o U)) < qy xs o:=by
  cases o with
  | none=>have:=qw xs U;show gU xs U < 2 * xs.length+1;omega
  | some T =>
   have:∃ y,cw (U y) (T y)=false:=by
    by_cases hz:∃ y,cw (U y) (T y)=false
    ·exact hz
    ·exact absurd ⟨T,hk,fun x=>by
      cases hb:cw (U x) (T x) with
      | true=>rfl
      | false=>exact absurd ⟨x,hb⟩ hz⟩ hm
   obtain⟨y,hy⟩:=this
   have hy2:T y ≠ bE:=fun e=>by rw [e,nQ] at hy;cases hy
   exact nq xs T U y ((ho T rfl).sup y hy2) hy
 omega
def yT (J:It) (n:Nat) (js:List Nat) (g:TG) (ct:TT) (tk tv:TE) (acc:Addr) (σ : St) (H1:Hp) (Q:VK):Prop :=
 ∃ W:Nat->Nat->List (Key × V)->St->Hp->Prop,(∃ m,W 0 m [] (iA n js σ) (upd H1 acc (.dK [])))/\∀ i m ys τ H2,W i m ys τ H2->H2 acc=some (.dK ys)/\ys.length < sizeLine /\
  ((J.stop i H2/\Q (.ref acc) H2)\/(J.go i H2/\∃ N:List (Key × V)->St->Hp->Prop,(∀ ys' τ' H',N ys' τ' H'->∃ m',m' < m/\W (i+1) m' ys' τ' H')/\∀ x H3,J.pF i H2 x H3->g x τ H3 fun τ1 H4=>ct τ1 H4 fun b H5 =>
   if b=true then tk τ1 H5 fun x1 H6=>tv τ1 H6 fun y H7=>∃ k,x1=kV k/\H7 acc=some (.dK ys)/\N (putK ys k y) τ1 (upd H7 acc (.dK (putK ys k y))) else N ys τ1 H5))
def Aw (n:Nat) (js:List Nat) (wi:TI) (g:TG) (ct:TT) (tk tv:TE):TE:=fun σ H Q=>wi σ H fun J H1=>∀ acc,H1 acc=none->yT J n js g ct tk tv acc σ H1 Q
section
variable {X:Cx} {pos:Pos}
theorem kc {prog:Program} {w:World} {A:Around} {R:Result->Shared->Prop} {s:Shared} {kx vx target iter:Expr} {ifs:List Expr} {scope:Scope} {pos:Pos} {it:Value} {D:Addr} {env:Env} (I:Nat->Shared->Prop)
  (turn:∀ n s,I n s->wpAny (model prog w) A (pyNext it) (fun r s₁=>match r with
   | none=>R (.ok .next) s₁
   | some v=>wpAny (model prog w) A (letOwnedTupleGo target it v) (fun _ s₁'=>wpAny (model prog w) A (assign target env v) (fun _ s₂ =>
     wpAny (model prog w) A (forIn ifs true fun c r=>if r=true then do let ok <-isTrue c env (eval c env);pure (ForInStep.yield ok) else pure (ForInStep.yield r)) (fun ok s₃ =>
      if ok=true then wpAny (model prog w) A (eval kx env) (fun kv s₄=>wpAny (model prog w) A (eval vx env) (fun vv s₅ =>
       wpAny (model prog w) A (dictSet D kv vv) (fun _ s₆=>∃ m,m < n/\I m s₆) (fun _ _=>False) s₅) (fun _ _=>False) s₄) (fun _ _=>False) s₃
      else ∃ m,m < n/\I m s₃) (fun _ _=>False) s₂) (fun _ _=>False) s₁') (fun _ _=>False) s₁) (fun _ _=>False) s)
  (n:Nat) (h:I n s) :
  codeAny (model prog w) A (.compLoop (.DictComp kx vx [⟨target,iter,ifs,0⟩] scope pos) 0 it (.ref D) env) R s:=by
 refine codeAny_loop rfl I (fun n s hI=>?_) n h
 show wpAny _ A ((compTurn (.DictComp kx vx [⟨target,iter,ifs,0⟩] scope pos) 0 it (.ref D) env).onRaise (fun x=>do noteFrame x env;theTreesLotGoes x)) _ _ s
 refine wpAny_noted ?_
 rw [compTurn_dict]
 refine wpAny_bind (wpAny_standAt (wpAny_bind (wpAny_mono (turn n s hI) (fun r s₁ h₁=>?_) fun _ _ h'=>h'.elim)))
 cases r with
 | none=>exact wpAny_pure h₁
 | some v =>
  refine wpAny_bind (wpAny_mono h₁ (fun _ s₁' h₁'=>?_) fun _ _ h'=>h'.elim)
  refine wpAny_bind (wpAny_mono h₁' (fun _ s₂ h₂=>wpAny_bind (wpAny_mono h₂ (fun ok s₃ h₃=>?_) fun _ _ h'=>h'.elim)) fun _ _ h'=>h'.elim)
  cases ok with
  | false=>exact wpAny_pure ⟨rfl,h₃⟩
  | true =>
   exact wpAny_bind (wpAny_bind (wpAny_mono h₃ (fun kv s₄ h₄=>wpAny_bind (wpAny_holding (wpAny_mono h₄ (fun vv s₅ h₅=>wpAny_bind (wpAny_standAt (wpAny_holding (wpAny_mono h₅ (fun _ s₆ h₆=>wpAny_pure ⟨rfl,h₆⟩) fun _ _ h'=>h'.elim)))) fun _ _ h'=>h'.elim))) fun _ _ h'=>h'.elim))
theorem xM {pins:List (Addr × Obj)} {σ : St} {H:Hp} {s:Shared} {E:Value->Shared->Prop} {tg kx vx iter:Expr} {ifs:List Expr} {scope:Scope} {g:TG} {ct:TT} {tk tv:TE} {ts fr:List Str} {js:List Nat}
    {it:Addr} {fp:List Addr} {tn:Nat->Heap->Prop} {J:It} {Q:VK} {RR:Value->Addr->Result->Shared->Prop}
    (hc:X.calm=true) (hkind:scope.kind=.function) (hcell:∀ y ∈ scope.names,y.2 ≠ .cell) (hfree:∀ y ∈ scope.names,y.2=.free->X.env.kindOf y.1=some .cell\/X.env.kindOf y.1=some .free)
    (hfr:gr X scope fr js) (htg:∀ C fp s₁ H₁,PG (cY X scope C (ts++fr) fp s₁ H₁) tg g) (hct:∀ C fp s₁ H₁,pT (cY X scope C (ts++fr) fp s₁ H₁) ifs ct) (htk:∀ C fp s₁ H₁,PE (cY X scope C (ts++fr) fp s₁ H₁) kx tk) (htv:∀ C fp s₁ H₁,PE (cY X scope C (ts++fr) fp s₁ H₁) vx tv)
    (I:Inv X pins σ H s) (T:Turn X.prog X.w X.K tg J fp it tn) (st:tn 0 s.heap) (hfp:∀ b ∈ fp,hJ X pins H b)
    (h:∀ acc,H acc=none->yT J ts.length js g ct tk tv acc σ H Q)
    (hRR:∀ acc C H' s' m,Inv X pins σ H' s'->s'.heap.Ns C m->H' C=none->s.heap.objs.size<=C->Q (.ref acc) H'->RR (.ref acc) C (.ok .next) s') :
    wpAny (model X.prog X.w) X.A newDict (fun acc s₃=>wpAny (model X.prog X.w) X.A (newFunctionEnv scope X.env.globals (iz X.env.cells scope.names []) [] X.env.qual none .none (some X.env)) (fun cenv s₄ =>
      codeAny (model X.prog X.w) X.A (.compStart (.DictComp kx vx [⟨tg,iter,ifs,0⟩] scope pos) 0 (.ref it) acc { cenv with scope:=relabel scope X.env }) (RR acc cenv.locals) s₄) E s₃) E s:=by
  have hf:∀ y ∈ scope.names,y.2=.free->∃ c,X.env.cells.lookup y.1=some c:=fun y hy e=>I.ok.has y.1 (hfree y hy e)
  have ag:∀ x c,(iz X.env.cells scope.names []).lookup x=some c->X.env.cells.lookup x=some c:=ji scope.names [] hf fun x c e=>by simp at e
  have hlt:∀ b ∈ fp,b < s.heap.objs.size:=fun b hb=>by
    obtain⟨o,e,_⟩:=T.obj _ _ st b hb
    exact Heap.lt_size e
  refine wpAny_newObj_type (wpAny_newFunctionEnv hcell (by intro y hy;simp at hy) (fun h₁ hns₁ hsb₁=>?_) hkind)
  dsimp only at hns₁ hsb₁ ⊢
  have hnew:(s.heap.push { cls:=.type "dict",dict:=none,data:=.dict #[] }).DictOf (aL X.prog X.w) s.heap.objs.size []:=Heap.DictOf.new s.heap
  generalize hH2:s.heap.push { cls:=.type "dict",dict:=none,data:=.dict #[] }=G2 at hns₁ hsb₁ hnew ⊢
  have hC:G2.objs.size=s.heap.objs.size+1:=by rw [<-hH2,Heap.size_push]
  have hDC:s.heap.objs.size ≠ G2.objs.size:=by rw [hC];exact Nat.ne_of_lt (Nat.lt_succ_self _)
  have hCle:s.heap.objs.size<=G2.objs.size:=by rw [hC];exact Nat.le_succ _
  have below:∀ b,b < s.heap.objs.size->b ≠ G2.objs.size/\b ≠ s.heap.objs.size:=fun b hb=>⟨by rw [hC];exact Nat.ne_of_lt (Nat.lt_succ_of_lt hb),Nat.ne_of_lt hb⟩
  have old:∀ b o,s.heap.get? b=some o->h₁.get? b=some o:=fun b o e=>hsb₁.extBut b o (below b (Heap.lt_size e)).1 (Heap.get?_push_of_some _ (hH2 ▸ Heap.get?_push_of_some _ e))
  have hacc:h₁.DictOf (aL X.prog X.w) s.heap.objs.size []:=hnew.at fun o e=>hsb₁.extBut _ _ hDC (Heap.get?_push_of_some _ e)
  have nD:H s.heap.objs.size=none:=I.aG.fresh (Nat.le_refl _)
  have nC:H G2.objs.size=none:=I.aG.fresh hCle
  obtain⟨W,⟨m0,w0⟩,turn⟩:=h s.heap.objs.size nD
  generalize hXb:cY X scope G2.objs.size (ts++fr) fp s H=Xb
  have Ib:∀ tk,Inv Xb [] (iA ts.length js σ) (upd H s.heap.objs.size (.dK [])) { s with heap:=h₁,toks:=tk }:=by
    intro tk
    subst hXb
    refine⟨tZ I hkind hcell hf hCle hfp hlt,rfl,I.bare,Un.laid old (Nat.le_refl _) nD,⟨_,hns₁,fun i x v e1 e2 e3=>?_⟩,fun x c e=>?_,?_,fun x c e=>?_,fun p hp=>absurd (show p ∈ ([]:List (Addr × Obj)) from hp) (by simp),I.aG.laid old (Nat.le_refl _) (iC (Nat.zero_le _) (beq_eq_false_iff_ne.mpr (Ne.symm (Nat.ne_of_lt I.big))) .nil hacc),?_⟩
    · have hi:ts.length<=i:=by
        refine Nat.le_of_not_lt fun hi=>?_
        unfold iA at e2
        rw [List.getElem?_append_left (by simpa using hi),List.getElem?_replicate] at e2
        split at e2 <;> cases e2
      have e1':fr[i - ts.length]? = some x:=by
        have e1'':(ts++fr)[i]? = some x:=e1
        rw [List.getElem?_append_right hi] at e1''
        exact e1''
      unfold iA at e2
      rw [List.getElem?_append_right (by simpa using hi),List.length_replicate,List.getElem?_map] at e2
      cases ej:js[i - ts.length]? with
      | none=>rw [ej] at e2;cases e2
      | some j =>
        rw [ej] at e2
        have e2':σ.getD j none=some v:=by simpa using e2
        obtain⟨q1,q2,q3⟩:=hfr.get e1' ej
        have e2'':σ[j]? = some (some v):=by
          rw [List.getD_eq_getElem?_getD] at e2'
          cases ez:σ[j]? with
          | none=>rw [ez] at e2';cases e2'
          | some z=>rw [ez] at e2';rw [show z=some v from e2']
        obtain⟨m,hn,hl⟩:=I.loc
        obtain⟨u,r,l⟩:=hl j x v q1 e2'' (by
          rcases q2 with q2 | q2
          · exact .inr (.inl q2)
          · exact .inr (.inr q2))
        refine⟨u,r,.inr ⟨i3 q3,?_⟩⟩
        rcases l with ⟨l,_⟩ | ⟨_,c,lc,lv⟩
        · rcases q2 with q2 | q2 <;> (rw [l] at q2;cases q2)
        · obtain⟨c',hc'⟩:=kY (cells:=X.env.cells) scope.names [] (.inl (PySem.mem_of_lookup q3))
          have:=ag x c' hc'
          rw [lc] at this
          cases this
          obtain⟨o,ho,hd⟩:=lv
          exact⟨c,hc',o,old _ _ ho,hd⟩
    · obtain⟨v,o,ho,hd⟩:=I.cell x c (ag x c e)
      exact⟨v,o,old _ _ ho,hd⟩
    · show upd H s.heap.objs.size (.dK []) G2.objs.size=none
      rw [au hDC.symm];exact nC
    · obtain⟨v,o,ho,hd⟩:=I.cell x c (ag x c e)
      rw [au (Nat.ne_of_lt (Heap.lt_size ho))]
      exact I.d8 x c (ag x c e)
    · show (iA ts.length js σ).length=(ts++fr).length
      unfold iA
      rw [List.length_append,List.length_replicate,List.length_map,List.length_append,hfr.len]
  have fpB:∀ {H':Hp},(∀ b ∈ fp,H' b=none)->∀ b ∈ fp,hJ Xb [] H' b:=fun {H'} hn b hb=>by
    subst hXb
    obtain⟨h1,h2,h3,h4,h5,h6⟩:=hfp b hb
    refine⟨hn b hb,(below b (hlt b hb)).1,fun z=>?_,.inl hb,fun x c e=>h5 x c (ag x c e),fun p hp=>absurd (show p ∈ ([]:List (Addr × Obj)) from hp) (by simp)⟩
    rcases List.mem_cons.mp (I.kh b z) with z | z
    · exact h2 z
    · exact h3 z
  have fin:∀ {τ : St} {H':Hp} {s':Shared},Inv Xb [] τ H' s'->Q (.ref s.heap.objs.size) H'->RR (.ref s.heap.objs.size) G2.objs.size (.ok .next) s':=fun {τ H' s'} Jb q=>by
    subst hXb
    obtain⟨m,hn,_⟩:=Jb.loc
    refine hRR _ _ H' s' m (I.wG (ch:=fp) Jb.os Jb.base Jb.aG Jb.bare fun b hb=>?_) hn Jb.free hCle q
    obtain⟨h1,h2,h3,h4,h5,h6⟩:=hfp b hb
    exact⟨h4,h2,h5,h6⟩
  have loop:∀ tk,codeAny (model X.prog X.w) X.A (.compLoop (.DictComp kx vx [⟨tg,iter,ifs,0⟩] scope pos) 0 (.ref it) (.ref s.heap.objs.size) (compEnvC scope (iz X.env.cells scope.names []) G2.objs.size X.env))
        (RR (.ref s.heap.objs.size) G2.objs.size) { s with heap:=h₁,toks:=tk }:=by
    intro tk
    refine kc (fun n s'=>∃ i ys τ H',Inv Xb [] τ H' s'/\tn i s'.heap/\(∀ b ∈ fp,H' b=none)/\W i n ys τ H') ?_ m0 ⟨0,[],_,_,Ib tk,T.keep _ _ _ st fun b hb o e=>old b o e,fun b hb=>?_,w0⟩
    · rintro n s3 ⟨i,ys,τ,H3,I3,st3,fr3,w3⟩
      have htg':=htg G2.objs.size fp s H
      have hct':=hct G2.objs.size fp s H
      have htk':=htk G2.objs.size fp s H
      have htv':=htv G2.objs.size fp s H
      rw [hXb] at htg' hct' htk' htv'
      have eP:Xb.prog=X.prog:=by subst hXb;rfl
      have ew:Xb.w=X.w:=by subst hXb;rfl
      have eK:Xb.K=X.K:=by subst hXb;rfl
      have eA:Xb.A=X.A:=by subst hXb;rfl
      have ec:Xb.calm=true:=by subst hXb;exact hc
      have ee:Xb.env=compEnvC scope (iz X.env.cells scope.names []) G2.objs.size X.env:=by subst hXb;rfl
      have ex:Xb.xe=fun _ _=>False:=by subst hXb;rfl
      rw [<-eP,<-ew,<-eA,<-ee]
      obtain⟨ha,hl,turn'⟩:=turn i n ys τ H3 w3
      rcases turn' with ⟨stop,q⟩ | ⟨go,N,hN,step⟩
      · have hd:=T.done Xb eP ew eK ec i [] s3 τ H3 (fun _ _=>False) I3 (fpB fr3) st3 stop
        rw [<-eP,<-ew] at hd
        refine wpAny_mono hd (fun r s4 hr4=>?_) fun _ _ z=>z
        obtain⟨hr,I4⟩:=hr4
        subst hr
        exact fin I4 q
      · have hd:=T.item Xb eP ew eK ec i [] s3 τ H3 (fun _ _=>False) I3 (fpB fr3) st3 go
        rw [<-eP,<-ew] at hd
        refine wpAny_mono hd (fun r s4 hr4=>?_) fun _ _ z=>z
        obtain⟨u,hr,h4⟩:=hr4
        subst hr
        refine wpAny_mono h4 (fun _ s5 ⟨x,H5,I5,r5,y5,st5,fr5⟩=>?_) fun _ _ z=>z
        have I5':=I5.pinned (fpB fr5) (T.obj _ _ st5)
        have keepT:∀ {σ7:St} {H7:Hp} {s7:Shared},Inv Xb ([] ++ jH fp s5.heap) σ7 H7 s7->tn (i+1) s7.heap/\∀ b ∈ fp,H7 b=none:=fun {σ7 H7 s7} I7=>by
          refine⟨T.keep _ _ _ st5 fun b hb o e=>(I7.pin (b,o) (List.mem_append_right _ (List.mem_append_right _ (fG hb e)))).1,fun b hb=>?_⟩
          obtain⟨o,e,d⟩:=T.obj _ _ st5 b hb
          exact (I7.pin (b,o) (List.mem_append_right _ (List.mem_append_right _ (fG hb e)))).2.1
        refine wpAny_mono (htg' _ s5 τ H5 x u _ I5' r5 (step x H5 y5)) (fun _ s6 ⟨τ6,H6,I6,q6⟩=>?_) (fun _ _ z=>by rw [ex] at z;exact z)
        refine wpAny_mono (hct' _ s6 τ6 H6 _ I6 q6) (fun ok s7 ⟨H7,I7,q7⟩=>?_) (fun _ _ z=>by rw [ex] at z;exact z)
        cases ok with
        | false =>
          have q7':N ys τ6 H7:=by rw [if_neg (by simp)] at q7;exact q7
          rw [if_neg (by simp)]
          obtain⟨m',hm,w7⟩:=hN _ _ _ q7'
          exact⟨m',hm,i+1,ys,τ6,H7,I7.gn,(keepT I7).1,(keepT I7).2,w7⟩
        | true =>
          rw [if_pos rfl] at q7 ⊢
          refine wpAny_mono (htk' _ s7 τ6 H7 _ I7 q7) (fun kv s8 ⟨x8,H8,I8,r8,q8⟩=>?_) (fun _ _ z=>by rw [ex] at z;exact z)
          refine wpAny_mono (htv' _ s8 τ6 H8 _ I8 q8) (fun v s9 ⟨y,H9,I9,r9,k,ek,ha9,n9⟩=>?_) (fun _ _ z=>by rw [ex] at z;exact z)
          subst ek
          obtain⟨z,hd,vs,rel,dd⟩:=jj I9.aG ha9
          have hz:vs.length<=sizeLine:=by rw [<-rel.length];exact z
          have hl9:(putK ys k y).length<=sizeLine:=by have:=ip ys k y;omega
          refine wpAny_dictSet_pairs (hsz:=hz) (iN r8) dd fun h' dd' hs=>?_
          have he:∃ q,h'.get? s.heap.objs.size=some q:=let ⟨q,_,_,hq,_⟩:=dd';⟨q,hq⟩
          have I10:=fun tk=>jK (t':=tk) I9 (by rw [ha9];exact True.intro) hs he (iC hl9 hd (rel.put k r9) dd')
          obtain⟨m',hm,w8⟩:=hN _ _ _ n9
          exact⟨m',hm,i+1,_,τ6,_,(I10 (s9.toks+1)).gn,(keepT (I10 (s9.toks+1))).1,(keepT (I10 (s9.toks+1))).2,w8⟩
    · rw [au (Nat.ne_of_lt (hlt b hb))]
      exact (hfp b hb).1
  exact codeAny_compStart_dict (loop _) (T.self _ 0 _ _ _ (T.keep _ _ _ st fun b hb o e=>old b o e) (loop _))
theorem we {tg kx vx iter:Expr} {ifs:List Expr} {scope:Scope} {wi:TI} {g:TG} {ct:TT} {tk tv:TE} (ts fr:List Str) (js:List Nat)
  (hc:X.calm=true) (hi:PI X tg iter wi) (hkind:scope.kind=.function) (hcell:∀ y ∈ scope.names,y.2 ≠ .cell) (hnames:∀ y ∈ scope.names,y.2=.local->scope.names.lookup y.1=some .local)
  (hfree0:∀ y ∈ scope.names,y.2=.free->y.1 ∈ fr) (hfr:gr X scope fr js)
  (htg:∀ C fp s₁ H₁,PG (cY X scope C (ts++fr) fp s₁ H₁) tg g) (hct:∀ C fp s₁ H₁,pT (cY X scope C (ts++fr) fp s₁ H₁) ifs ct) (htk:∀ C fp s₁ H₁,PE (cY X scope C (ts++fr) fp s₁ H₁) kx tk) (htv:∀ C fp s₁ H₁,PE (cY X scope C (ts++fr) fp s₁ H₁) vx tv)
  (hs:∀ x,foldedSetIterable iter X.env x=pure x:=by intro _;rfl):PE X (.DictComp kx vx [⟨tg,iter,ifs,0⟩] scope pos) (Aw ts.length js wi g ct tk tv):=by
 have hfree:∀ y ∈ scope.names,y.2=.free->X.env.kindOf y.1=some .cell\/X.env.kindOf y.1=some .free:=fun y hy e=>hfr.mem (hfree0 y hy e)
 intro pins s σ H Q I h
 rw [arm_eval_DictComp]
 refine wpAny_comprehension_free (use:=none) rfl hs (jT fun y hy e=>I.ok.has y.1 (hfree y hy e)) hkind hnames (bh (hi pins s σ H _ I h) fun xv s1 h1=>bh h1 fun itv s2 h2=>?_)
 obtain⟨it,fp,tn,J,H2,e,I2,T,st2,f2,hW⟩:=h2
 subst e
 refine xM (RR:=fun acc C=>compPost (model X.prog X.w) X.A X.xe none (EP X pins σ Q) acc C) hc hkind hcell hfree hfr htg hct htk htv I2 T st2 f2 hW ?_
 intro acc C H' s' m I' hn hC hle q
 exact⟨m,hn,fun h' hsb=>⟨.ref acc,H',I2.pU I' hC hle hsb,rfl,q⟩⟩
end
theorem yU {K:PySem.W.Frag} {a acc:Addr} {xs:List V} {n:Nat} {js:List Nat} {g:TG} {ct:TT} {tk tv:TE} {σ : St} {H1:Hp} {Q:VK} (Pv:Nat->List (Key × V)->St->Hp->Prop) (h0:Pv 0 [] (iA n js σ) (upd H1 acc (.dK [])))
  (hl:∀ i ys τ H,i<=xs.length->Pv i ys τ H->ay K H a xs/\H acc=some (.dK ys)/\ys.length < sizeLine)
  (hs:∀ i x ys τ H,xs[i]? = some x->Pv i ys τ H->g x τ H fun τ1 H4=>ct τ1 H4 fun b H5=>if b=true then tk τ1 H5 fun x1 H6=>tv τ1 H6 fun y H7=>∃ k,x1=kV k/\H7 acc=some (.dK ys)/\Pv (i+1) (putK ys k y) τ1 (upd H7 acc (.dK (putK ys k y))) else Pv (i+1) ys τ1 H5)
  (hd:∀ ys τ H,Pv xs.length ys τ H->Q (.ref acc) H) :
  yT (pG K a) n js g ct tk tv acc σ H1 Q:=by
 refine⟨fun i m ys τ H=>m=xs.length - i/\i<=xs.length/\Pv i ys τ H,⟨xs.length,by simp,Nat.zero_le _,h0⟩,?_⟩
 rintro i m ys τ H ⟨rfl,hi,p⟩
 obtain⟨q,q2,q3⟩:=hl i ys τ H hi p
 refine⟨q2,q3,?_⟩
 by_cases hlt:i < xs.length
 ·refine .inr ⟨⟨xs,xs[i],q,by simp [hlt]⟩,Pv (i+1),fun ys' τ' H' p'=>⟨xs.length - (i+1),by omega,rfl,hlt,p'⟩,fun x H' y=>?_⟩
  obtain⟨e,y⟩:=y
  subst e
  exact hs i x ys τ _ (y xs q) p
 ·have e:i=xs.length:=by omega
  subst e
  exact .inl ⟨⟨xs,q,Nat.le_refl _⟩,hd ys τ H p⟩
section
variable {X:Cx}
theorem yV:rH X (fun x i H Q=>sE X.K x i H Q\/vh X.K x i H Q):=by
 intro value slice pins s σ H x y v u Q I rx ry h e
 rcases h with h | h
 ·exact bK value slice pins s σ H x y v u Q I rx ry h e
 ·exact aZ value slice pins s σ H x y v u Q I rx ry h e
end
section
variable {X:Cx}
def xN:V->List V->Hp->VK->Prop:=fun x vs H Q=>∃ (l:Addr) (xs:List V) (y z:V) (i:Nat),x=.ref l/\vs = [y]/\H l=some (.lst xs)/\gi y=true/\xs.all gi=true/\xs[i]? = some z/\kn z y=true/\(∀ (j:Nat) (z':V),j < i->xs[j]? = some z'->kn z' y=false)/\Q (.int (i:Nat)) H
theorem uQ:yr X "list.index" xN:=by
 intro pins s σ H x vs v us Q I rx rv h
 obtain⟨l,xs,y,z,i,rfl,rfl,hH,fy,fs,hi,hz,hlt,q⟩:=h
 cases rx
 obtain⟨u,rfl,ru⟩:=rv.one
 obtain⟨z',its,n,r,hl,e⟩:=I.pN hH
 have hlen:xs.length=its.length:=r.length
 have hil:i < xs.length:=(List.getElem?_eq_some_iff.mp hi).1
 have key:∀ (m:Nat) (w:V) (hm:m < its.length),xs[m]? = some w->iy y its[m] = kn w y:=fun m w hm hw=>by
  obtain⟨u',hu',ru'⟩:=r.get hw
  rw [List.getElem?_eq_getElem hm] at hu'
  cases hu'
  exact pJ ru' (by rw [List.all_eq_true] at fs;exact fs w (List.mem_of_getElem? hw))
 refine call_meets F.slot_list_index ⟨_,e,rfl⟩ F.entry_list_index (F.args_list_index_2 _ _)
  (SeqAt.list_indexAt l its.toArray n none #[] u (iy y) i (by rw [List.size_toArray];omega) (by have:=i0;omega) ?_ ?_) ⟨e,fun w hw=>hX ru fy r fs w (by simpa using hw),?_⟩
 ·rw [show its.toArray[i]'(by rw [List.size_toArray];omega)=its[i]'(by omega) from rfl,key i z (by omega) hi]
  exact hz
 ·intro m hm hmi
  have hm':m < its.length:=by rw [List.size_toArray] at hm;exact hm
  have hx:xs[m]? = some xs[m]:=by simp
  rw [show its.toArray[m] = its[m]'hm' from rfl,key m _ hm' hx]
  exact hlt m _ hmi hx
 ·exact⟨.int _,H,I.Av,⟨_,rfl⟩,q⟩
end
theorem uR (b:Bool):∀ bs:List Bool,pK (.bl b) (bs.map V.bl)=decide (b ∈ bs)
 | []=>rfl
 | c :: r=>by
  have ih:=uR b r
  unfold pK at ih ⊢
  rw [List.map_cons,List.any_cons,ih]
  show ((c == b) || _)=_
  cases b <;> cases c <;> simp
theorem mE:∀ bs:List Bool,(bs.map V.bl).all gi=true
 | []=>rfl
 | _ :: r=>mE r
theorem nu:∀ {bs:List Bool},true ∈ bs->∃ i:Nat,bs[i]? = some true/\∀ j:Nat,j < i->bs[j]? = some false
 | [],h=>nomatch h
 | true :: r,_=>⟨0,rfl,fun j h=>absurd h (Nat.not_lt_zero _)⟩
 | false :: r,h=>by
  obtain⟨i,h1,h2⟩:=nu (bs:=r) (by simpa using h)
  exact⟨i+1,h1,fun j hj=>by cases j with | zero=>rfl | succ j=>exact h2 j (by omega)⟩
def jt (bs:List Bool):Nat:=(bs.map fun b=>if b=true then 1 else 0).sum
theorem mF:∀ bs:List Bool,jt bs<=bs.length
 | []=>Nat.le_refl _
 | b :: r=>by
  have:=mF r
  unfold jt at this ⊢
  simp only [List.map_cons,List.sum_cons,List.length_cons]
  split <;> omega
theorem kK:∀ (bs:List Bool) (i:Nat),bs[i]? = some true->jt (bs.set i false)+1=jt bs
 | [],i,h=>by simp at h
 | b :: r,0,h=>by cases h;simp [jt];omega
 | b :: r,i+1,h=>by
  have:=kK r i h
  unfold jt at this ⊢
  simp only [List.set_cons_succ,List.map_cons,List.sum_cons]
  omega
theorem h8 {α β : Type} {F:α->β->Prop}:∀ {l:List α} {m:List β},Paired F l m->∀ {i:Nat} {y:β},m[i]? = some y->∃ x,l[i]? = some x/\F x y
 | _,_,.nil,i,y,h=>by simp at h
 | _,_,.cons f t,0,y,h=>by cases h;exact⟨_,rfl,f⟩
 | _,_,.cons f t,i+1,y,h=>h8 t h
theorem e5 {α β : Type} {F:α->β->Prop}:∀ {l:List α} {m:List β},Paired F l m->l.length=m.length
 | _,_,.nil=>rfl
 | _,_,.cons f t=>congrArg (· + 1) (e5 t)
theorem gW {α β : Type} {F:α->β->Prop} {x:α} {y:β} (f:F x y):∀ {l:List α} {m:List β} (i:Nat),Paired F l m->Paired F (l.set i x) (m.set i y)
 | _,_,_,.nil=>.nil
 | _,_,0,.cons _ t=>.cons f t
 | _,_,i+1,.cons g t=>.cons g (gW f i t)
def TabOk (xs:List Str) (tab:dD):Prop:=∀ T,some T ∈ tab->de xs T
def kL:Sp:=fun vs H Q _=>∃ (fv:V) (p:Addr) (ws:List V) (ds:List cx) (T:Str->Sx) (xs:List Str),vs = [fv,.ref p]/\FV H fv T/\H p=some (.tup ws)/\bg H ws (ds.map dN)/\de xs T/\(∀ d ∈ ds,eB xs d)/\xs.length < 64/\∀ v H',FV H' v (bx T ds)->ah H H'->Q v H'
def nW:Sp:=fun vs H Q _=>∃ (lv:V) (ta:Addr) (us:List V) (tab:dD) (k:Nat) (U:Str->Sx),vs = [lv,.ref ta]/\PV H lv (k,U)/\(H ta=some (.lst us)\/H ta=some (.tup us))/\cI H us tab/\k < tab.length/\(∀ T,some T ∈ tab->jd T 63) /\
 ∀ b H',(b=true ↔ Met tab (k,U))->ah H H'->Q (.bl b) H'
def jB:Sp:=fun vs H Q _=>∃ (fv:V) (pc da ea:Addr) (ws:List V) (ds:List cx) (e:End) (T:Str->Sx) (xs:List Str),vs = [fv,.ref pc]/\FV H fv T/\H pc=some (.tup [.ref da,.ref ea])/\H da=some (.tup ws)/\bg H ws (ds.map dN)/\H ea=some (.tup (i6 e))/\de xs T/\(∀ d ∈ ds,eB xs d)/\xs.length<=62 /\
 ∀ (t:Addr) (vs:List V) H',H' t=some (.tup vs)->j9 H' vs (fJ (bx T ds) e)->ah H H'->Q (.ref t) H'
def mG (K:PySem.W.Frag):Sp:=fun vs H Q _=>∃ (p q:Addr) (s t:Sx),vs = [.ref p,.ref q]/\ay K H p [vO s.1,vO s.2]/\ay K H q [vO t.1,vO t.2]/\∀ v H',SH H' v (cW s t)->ah H H'->Q v H'
def kM:Sp:=fun vs H Q _=>∃ (ev fv:V) (o:Option (Str->Sx)) (U:Str->Sx),vs = [ev,fv]/\BV H ev o/\FV H fv U/\(∀ T,o=some T->jd T 63)/\jd U 63/\∀ v H',FV H' v (fC o U)->ah H H'->Q v H'
structure eG (xs:List Str) (ps:List Piece) (tab:dD) (bs:List Bool) (ex:Option Nat):Prop where
 len:tab.length=ps.length
 gy:bs.length=ps.length
 ok:TabOk xs tab
 zero:∃ T,tab[0]? = some (some T)/\Sound T fun _=>0
 wait:∀ k:Nat,bs[k]? = some true->∃ T,tab[k]? = some (some T)
 met:∀ (k:Nat) (p:Piece) (o:Option (Str->Sx)),ps[k]? = some p->tab[k]? = some o->bs[k]? = some false->some k ≠ ex->Ac tab o p
theorem gF {n i:Nat} (h:i < n):km n (i:Int)=some i:=by
 unfold km
 simp
 omega
theorem qA {H:Hp}:∀ n:Nat,cI H (List.replicate n .aB) (List.replicate n none)
 | 0=>.nil
 | n+1=>.cons rfl (qA n)
theorem lV (ps:List Piece):Sound (startT ps) fun _=>0:=fun x=>by
 unfold startT
 split <;> rfl
theorem nX (bs:List Bool) (k:Nat) (b:Bool):(bs.map V.bl).set k (.bl b)=(bs.set k b).map V.bl:=by rw [List.map_set]
theorem uS {α : Type} {n k:Nat} {a b:α} (h:(List.replicate n a)[k]? = some b):b=a:=by
 rw [List.getElem?_replicate] at h
 split at h
 ·cases h;rfl
 ·cases h
theorem eG.start {xs:List Str} {ps:List Piece} {T:Str->Sx} (hp:0 < ps.length) (hT:de xs T) (hs:Sound T fun _=>0):eG xs ps ((List.replicate ps.length none).set 0 (some T)) ((List.replicate ps.length false).set 0 true) none:=by
 have h0:((List.replicate ps.length none).set 0 (some T))[0]? = some (some T):=List.getElem?_set_self (by rw [List.length_replicate];exact hp)
 refine⟨by simp,by simp,fun U hU=>?_,⟨T,h0,hs⟩,fun k hk=>?_,fun k p o h1 h2 h3 _=>?_⟩
 ·rcases List.mem_or_eq_of_mem_set hU with h | h
  ·have:=(List.mem_replicate.mp h).2
   cases this
  ·cases h;exact hT
 ·by_cases e:0=k
  ·subst e;exact⟨T,h0⟩
  ·rw [List.getElem?_set_ne e] at hk
   have:=uS hk
   cases this
 ·by_cases e:0=k
  ·subst e
   rw [List.getElem?_set_self (by rw [List.length_replicate];exact hp)] at h3
   cases h3
  ·rw [List.getElem?_set_ne e] at h2
   rw [uS h2]
   exact fun T h=>(nomatch h)
theorem eG.off {xs:List Str} {ps:List Piece} {tab:dD} {bs:List Bool} (I:eG xs ps tab bs none) {k:Nat} (hk:bs[k]? = some true):eG xs ps tab (bs.set k false) (some k):=by
 refine⟨I.len,by rw [List.length_set];exact I.gy,I.ok,I.zero,fun j hj=>?_,fun j p o h1 h2 h3 h4=>?_⟩
 ·by_cases e:k=j
  ·subst e
   exact I.wait k hk
  ·rw [List.getElem?_set_ne e] at hj
   exact I.wait j hj
 ·have e:k ≠ j:=fun e=>h4 (by rw [e])
  rw [List.getElem?_set_ne e] at h3
  exact I.met j p o h1 h2 h3 (fun z=>nomatch z)
theorem eG.on {xs:List Str} {ps:List Piece} {tab:dD} {bs:List Bool} {k:Nat} {p:Piece} {T:Str->Sx} (I:eG xs ps tab bs (some k)) (hp:ps[k]? = some p) (hT:bs[k]? = some false->tab[k]? = some (some T)) (hm:∀ ld ∈ fJ (bx T p.1) p.2,Met tab ld):eG xs ps tab bs none:=by
 refine⟨I.len,I.gy,I.ok,I.zero,I.wait,fun j p' o h1 h2 h3 _=>?_⟩
 by_cases e:k=j
 ·subst e
  rw [hp] at h1
  cases h1
  rw [hT h3] at h2
  cases h2
  exact fun T' h=>by cases h;exact hm
 ·exact I.met j p' o h1 h2 h3 (fun z=>e (Option.some.inj z).symm)
theorem eG.put {xs:List Str} {ps:List Piece} {tab:dD} {bs:List Bool} {ex:Option Nat} (I:eG xs ps tab bs ex) {k:Nat} {o:Option (Str->Sx)} {U:Str->Sx} (hk:tab[k]? = some o) (hU:de xs U):eG xs ps (tab.set k (some (fC o U))) (bs.set k true) ex:=by
 have hkl:k < tab.length:=(List.getElem?_eq_some_iff.mp hk).1
 have wok:de xs (fC o U):=by
  cases o with
  | none=>exact hU
  | some T=>exact (I.ok T (List.mem_of_getElem? hk)).op
 refine⟨by rw [List.length_set];exact I.len,by rw [List.length_set];exact I.gy,fun T hT=>?_,?_,fun j hj=>?_,fun j p o' hp ho hb hx=>?_⟩
 ·rcases List.mem_or_eq_of_mem_set hT with h | h
  ·exact I.ok T h
  ·cases h;exact wok
 ·obtain⟨T,h1,h2⟩:=I.zero
  by_cases e:k=0
  ·subst e
   rw [hk] at h1
   cases h1
   exact⟨_,List.getElem?_set_self hkl,h2.wide fun x=>rY _ _⟩
  ·exact⟨T,by rw [List.getElem?_set_ne e];exact h1,h2⟩
 ·by_cases e:k=j
  ·subst e
   exact⟨_,List.getElem?_set_self hkl⟩
  ·rw [List.getElem?_set_ne e] at hj ⊢
   exact I.wait j hj
 ·by_cases e:k=j
  ·subst e
   rw [List.getElem?_set_self (by rw [I.gy,<-I.len];exact hkl)] at hb
   cases hb
  ·rw [List.getElem?_set_ne e] at ho hb
   exact fun T hT ld hl=>(I.met j p o' hp ho hb hx T hT ld hl).up hk
theorem wg {T U:Str->Sx}:(fun x=>if T x=bE then bE else cW (T x) (U x))=g0 T U:=by
 funext x
 unfold g0
 by_cases e:T x=bE
 ·rw [if_pos e,e,qu]
 ·rw [if_neg e]
section
variable {X:Cx}
end
section
variable {X:Cx}
end
section
variable {X:Cx}
end
theorem LT.lG {H:Hp} {d:Addr} {T:Str->Sx} {m k:Nat} (h:LT H d T m) (f:jd T k):LT H d T k:=by
 obtain⟨kvs,ks,g1,g2,g3,g4⟩:=h
 exact⟨kvs,ks,g1,g2,g3,f ks g3 g2.nd⟩
abbrev jP:=dD × List Bool
open Classical in
noncomputable def j2 (S:jP) (ld:Nat × (Str->Sx)):jP:=if Met S.1 ld then S else (S.1.set ld.1 (some (fC (S.1[ld.1]?.getD none) ld.2)),S.2.set ld.1 true)
noncomputable def gX (S:jP) (ls:List (Nat × (Str->Sx))):jP:=ls.foldl j2 S
def qB (ps:List Piece) (tab:dD) (k:Nat):List (Nat × (Str->Sx)):=match ps[k]?,tab[k]? with
 | some p,some (some T)=>fJ (bx T p.1) p.2
 | _,_=>[]
noncomputable def lH (ps:List Piece) (S:jP):jP:=gX (S.1,S.2.set (S.2.idxOf true) false) (qB ps S.1 (S.2.idxOf true))
open Classical in
noncomputable def dq (ps:List Piece):Nat->jP->jP
 | 0,S=>S
 | n+1,S=>if true ∈ (dq ps n S).2 then lH ps (dq ps n S) else dq ps n S
theorem kN {ps:List Piece} {S:jP} {n:Nat} (h:¬ true ∈ (dq ps n S).2):∀ j,dq ps (n+j) S=dq ps n S
 | 0=>rfl
 | j+1=>by
  show (if true ∈ (dq ps (n+j) S).2 then lH ps (dq ps (n+j) S) else dq ps (n+j) S)=_
  rw [kN h j,if_neg h]
theorem wj {ps:List Piece} {S:jP} {n m:Nat} (hn:¬ true ∈ (dq ps n S).2) (hm:¬ true ∈ (dq ps m S).2):dq ps n S=dq ps m S:=by
 rcases Nat.le_total n m with h | h
 ·obtain⟨j,rfl⟩:∃ j,m=n+j:=⟨m - n,by omega⟩
  exact (kN hn j).symm
 ·obtain⟨j,rfl⟩:∃ j,n=m+j:=⟨n - m,by omega⟩
  exact kN hm j
theorem qC {bs:List Bool} {i:Nat} (h1:bs[i]? = some true) (h2:∀ j:Nat,j < i->bs[j]? = some false):bs.idxOf true=i:=by
 induction bs generalizing i with
 | nil=>simp at h1
 | cons b r ih =>
  cases i with
  | zero=>cases h1;rfl
  | succ i =>
   have h0:=h2 0 (by omega)
   cases h0
   rw [List.idxOf_cons]
   rw [ih (i:=i) h1 fun j hj=>h2 (j+1) (by omega)]
   rfl
theorem iu {S:jP} {ls:List (Nat × (Str->Sx))} {j:Nat} {ld:Nat × (Str->Sx)} (h:ls[j]? = some ld):gX S (ls.take (j+1))=j2 (gX S (ls.take j)) ld:=by
 unfold gX
 rw [List.take_add_one,h]
 show List.foldl j2 S (ls.take j ++ [ld])=_
 rw [List.foldl_append]
 rfl
theorem oG {S:jP} {ld:Nat × (Str->Sx)} (h:Met S.1 ld):j2 S ld=S:=by unfold j2;rw [if_pos h]
theorem oH {tab:dD} {bs:List Bool} {k:Nat} {U:Str->Sx} {o:Option (Str->Sx)} (h:¬ Met tab (k,U)) (hk:tab[k]? = some o):j2 (tab,bs) (k,U)=(tab.set k (some (fC o U)),bs.set k true):=by
 unfold j2
 rw [if_neg h]
 show (tab.set k (some (fC (tab[k]?.getD none) U)),bs.set k true)=_
 rw [hk]
 rfl
noncomputable def ff (ps:List Piece):jP:=((List.replicate ps.length none).set 0 (some (startT ps)),(List.replicate ps.length false).set 0 true)
def lI (ps:List Piece) (tab:dD):Prop:=∃ n,(dq ps n (ff ps)).1=tab/\¬ true ∈ (dq ps n (ff ps)).2
theorem lI.one {ps:List Piece} {tab tab':dD} (h:lI ps tab) (h':lI ps tab'):tab=tab':=by
 obtain⟨n,a,b⟩:=h
 obtain⟨m,c,d⟩:=h'
 rw [<-a,<-c,wj b d]
def mH:Sp:=fun vs H Q _=>∃ (plv:V) (ps:List Piece) (xs:List Str) (m:Nat),vs = [plv]/\bB H plv (il ps)/\fe xs m ps/\0 < ps.length/\ps.length<=400/\xs.length<=62/\(aR ps).length<=4000 /\
 ∀ (t:Addr) (us:List V) (tab:dD) H',H' t=some (.tup us)->cI H' us tab->TabOk xs tab->lI ps tab->ah H H'->Q (.ref t) H'
def kO:Sp:=fun vs H Q _=>∃ (d e:Addr) (T U:Str->Sx) (m:Nat),vs = [.ref d,.ref e]/\LT H d T m/\LT H e U m/\∀ b H',(b=true ↔ ∀ x,cw (U x) (T x)=true)->ah H H'->Q (.bl b) H'
def kP:Sp:=fun vs H Q _=>∃ (d e:Addr) (T U:Str->Sx) (m:Nat),vs = [.ref d,.ref e]/\LT H d T m/\LT H e U m/\m<=63/\∀ (f:Addr) H',LT H' f (g0 T U) m->H f=none->ah H H'->Q (.ref f) H'
theorem xO (s t:Sx):(cW s t).1=if cy t.1 s.1=true then s.1 else none:=by
 have e1:cw t (s.1,none)=cy t.1 s.1:=by unfold cw;simp [bI]
 unfold cW
 rw [e1]
theorem wk (s t:Sx):(cW s t).2=if bI t.2 s.2=true then s.2 else none:=by
 have e2:cw t (none,s.2)=bI t.2 s.2:=by unfold cw;simp [cy]
 unfold cW
 rw [e2]
def e6 (T U:Str->Sx) (l:List Str):Str->Sx:=fun x=>if x ∈ l then g0 T U x else bE
theorem nv {T U:Str->Sx} {l:List Str} {x:Str}:e6 T U (l ++ [x])=cc (e6 T U l) x (g0 T U x):=by
 funext y
 unfold e6 cc
 by_cases e:y=x
 ·rw [if_pos e,if_pos (List.mem_append_right _ (by rw [e];exact List.mem_singleton.mpr rfl)),e]
 ·rw [if_neg e]
  have:y ∈ l ++ [x] ↔ y ∈ l:=by simp [e]
  simp only [this]
theorem tm {T U:Str->Sx} {l:List Str} {x:Str} (h:g0 T U x=bE) (hx:x ∉ l):e6 T U (l ++ [x])=e6 T U l:=by
 rw [nv,h]
 exact kJ (by unfold e6;rw [if_neg hx])
section
variable {X:Cx} {pos:Pos}
end
section
variable {X:Cx} {pos:Pos}
end
section
variable {X:Cx} {pos:Pos}
end
section
variable {prog:Program} {w:World} {A:Around} {E:Value->Shared->Prop} {s:Shared}
end
section
variable {X:Cx} {pins:List (Addr × Obj)} {σ : List (Option V)} {H:Hp} {s:Shared}
end
def wm (f:Str->Option Str) (x:Str) (o:Option Str):Str->Option Str:=fun z=>if z=x then o else f z
def Ad (f:Str->Option Str):cx->Str->Option Str
 | .put x _=>wm f x none
 | .copy x y=>wm f x (f y)
 | .add _ _=>f
 | .read x=>wm f x none
 | .tell _=>f
def Ae (f:Str->Option Str):cx->List (Option Str)
 | .tell x=>[f x]
 | _=>[]
def Ax (S:(Str->Option Str) × List (Option Str)) (d:cx):(Str->Option Str) × List (Option Str):=(Ad S.1 d,S.2++Ae S.1 d)
def zF (ds:List cx):(Str->Option Str) × List (Option Str):=ds.foldl Ax (some,[])
def Af (ds:List cx):Str->Option Str:=(zF ds).1
def Ag (p:Piece):List Str:=((zF p.1).2++(fB p.2).map (Af p.1)).filterMap id
def Ah (xs:List Str) (x:Str):List Str:=if x ∈ xs then xs else xs ++ [x]
def Ay (l:List Str):List Str:=l.foldl Ah []
section
variable {X:Cx} {K:PySem.W.Frag}
end
def F0 (ps:List Piece):List (List Str):=ps.map fun pc=>Ay (Ag pc)
section
variable {X:Cx}
end
end L2
namespace LS
open PySem PySem.Spec PyProof.Rows L2
section
variable {prog:Program} {w:World} {A:Around} {E:Value->Shared->Prop} {s:Shared} {I l:Addr} {its:Array Value}
end
section
variable {prog:Program} {w:World} {A:Around} {E:Value->Shared->Prop} {s:Shared} {I l:Addr} {its:Array Value}
end
end LS
namespace L2
open PySem PySem.Spec PyProof.Rows
section
variable {X:Cx}
end
end L2
namespace LS
open PySem PySem.Spec PyProof.Rows L2
section
variable {prog:Program} {w:World} {K:Type} [DecidableEq K] {knd:KeyKind prog w K}
variable {A:Around} {E:Value->Shared->Prop} {s:Shared} {a:Addr} {ks:List K}
end
section
variable {prog:Program} {w:World} {A:Around} {E:Value->Shared->Prop} {s:Shared}
end
end LS
namespace L2
open PySem PySem.Spec PyProof.Rows LS
section
variable {X:Cx}
end
end L2
namespace HT
open PySem PySem.Spec PyProof.Rows
section
variable {prog:Program} {w:World} {A:Around} {E:Value->Shared->Prop} {s:Shared}
end
end HT
namespace L2
open PySem PySem.Spec PyProof.Rows LS
section
variable {X:Cx}
end
section
variable {prog:Program} {w:World} {A:Around} {E:Value->Shared->Prop} {s:Shared}
end
section
variable {X:Cx}
end
section
variable {X:Cx}
theorem xP:en X (binaryOp .Mult) (fun x y H Q=>∃ t n,x=.str t/\y=.int n/\MulOk t n/\Q (.str (Txt.mul t n)) H):=by
 intro pins s σ H x y v u Q I rx ry h
 obtain⟨t,n,rfl,rfl,hm,q⟩:=h
 obtain⟨k,rfl⟩:=rx
 obtain⟨k',rfl⟩:=ry
 exact SB.mul hm fun t' j=>⟨.str _,H,I.tok _,⟨_,rfl⟩,q⟩
end
theorem wo {c0 c:Nat} {n:Int} (h0:97<=c0/\c0<=122) (hc:97<=c/\c<=122) (h1:1<=n) (h3:n<=4):MulOk ⟨#[c]⟩ n/\(Txt.mul ⟨#[c]⟩ n).length<=4/\gd ((⟨#[c0]⟩:Str)++Txt.mul ⟨#[c]⟩ n):=by
 obtain rfl | rfl | rfl | rfl:n=1\/n=2\/n=3\/n=4:=by omega
 ·refine⟨⟨by decide,fun _ h=>absurd h (by show ¬ true=false;decide),fun _ h=>absurd h (by show ¬ true=false;decide)⟩,by show 1<=4;decide,⟨by show 1<=2;decide,by show 2<=8;decide,fun d hd=>?_⟩⟩
  have:d ∈ [c0,c]:=hd
  simp at this
  omega
 ·refine⟨⟨by decide,fun _ _=>by show ¬ ((1:Nat):Int) > _;decide,fun _ _=>by show Builtin.Str.tooLong (1 * 2)=false;decide⟩,by show 2<=4;decide,⟨by show 1<=3;decide,by show 3<=8;decide,fun d hd=>?_⟩⟩
  have:d ∈ [c0,c,c]:=hd
  simp at this
  omega
 ·refine⟨⟨by decide,fun _ _=>by show ¬ ((1:Nat):Int) > _;decide,fun _ _=>by show Builtin.Str.tooLong (1 * 3)=false;decide⟩,by show 3<=4;decide,⟨by show 1<=4;decide,by show 4<=8;decide,fun d hd=>?_⟩⟩
  have:d ∈ [c0,c,c,c]:=hd
  simp at this
  omega
 ·refine⟨⟨by decide,fun _ _=>by show ¬ ((1:Nat):Int) > _;decide,fun _ _=>by show Builtin.Str.tooLong (1 * 4)=false;decide⟩,by show 4<=4;decide,⟨by show 1<=5;decide,by show 5<=8;decide,fun d hd=>?_⟩⟩
  have:d ∈ [c0,c,c,c,c]:=hd
  simp at this
  omega
def mI:Sp:=fun vs H Q _=>∃ (b:Addr) (c:Nat),vs = [.ref b,.int c]/\cK H b/\0 < c/\c<=1000/\∀ v xs ps H',bB H' v (il ps)->ps.length=c->fe xs 4 ps->((∀ x ∈ xs,gd x)/\xs.length<=60)->cK H' b->Fix b H H'->Q v H'
section
variable {X:Cx}
theorem qT (hc:X.calm=true):d9 X (.type "list") (fun vs H Q=>∃ (a:Addr) (kvs:List (Key × V)) (ks:List Int),vs = [.ref a]/\H a=some (.dK kvs)/\kvs.map (·.1)=ks.map Sum.inl /\
  ∀ (l:Addr),H l=none->Q (.ref l) (upd H l (.lst (ks.map V.int)))):=by
 intro pins s σ H xs us Q I r h
 obtain⟨a,kvs,ks,rfl,ha,hk,q⟩:=h
 obtain⟨u,rfl,ru⟩:=vals1 r
 cases (show u=Value.ref a from ru)
 obtain⟨z,hd,vs,rel,dd⟩:=jj I.aG ha
 obtain⟨ep,hat⟩:=dd.dictAt
 have hkv:vs.map (·.1)=ks.map Sum.inl:=by rw [<-rel.keys];exact hk
 have hl1:vs.length=ks.length:=by have:=congrArg List.length hkv;simpa using this
 have hl2:kvs.length=vs.length:=rel.length
 refine PySem.W.kdl_call (PySem.W.kdl_dict (knd:=aL X.prog X.w) (kvs:=vs) (ep:=ep) hd) (I.ok.hd hc) hat (by rw [<-hl2];exact z) fun h' tk acc c' hkeep hD hacc=>?_
 have hl:acc.toList.length=ks.length:=by rw [Array.length_toList,hacc.1,hl1]
 have hS:IntsAre acc.toList ks:=nj hl fun j v x h1 h2=>by
  obtain⟨k,y,e1,e2⟩:=hacc.2 j v (by rw [<-Array.getElem?_toList];exact h1)
  have e3:(vs.map (·.1))[j]? = some k:=by rw [List.getElem?_map,e1];rfl
  rw [hkv,List.getElem?_map,h2] at e3
  cases (Option.some.inj e3)
  exact qQ e2
 have hv:Vals (ks.map V.int) acc.toList:=ko hS
 refine⟨.ref _,_,I.laid (t':=tk) (o:=.lst (ks.map V.int)) hkeep (Nat.le_refl _) (show bS X.prog X.w _ h' _ (.lst (ks.map V.int)) from ⟨?_,acc.toList,c',hv,by simpa using hD⟩),rfl,q _ (I.aG.fresh (Nat.le_refl _))⟩
 rw [List.length_map,<-hl1,<-hl2]
 exact z
def Ai (ta tb:TE):TE:=fun σ H Q=>ta σ H fun x H1=>∃ k:Bool,(x=.aB/\k=false\/∃ p kvs,x=.ref p/\H1 p=some (.dK kvs)/\k = !kvs.isEmpty)/\(if k=true then Q x H1 else tb σ H1 Q)
theorem yW {a b:Expr} {rest:List Expr} {pos:Pos} {ta tb:TE} (ha:PE X a ta) (hb:PE X (.BoolOp .Or (b :: rest) pos) tb):PE X (.BoolOp .Or (a :: b :: rest) pos) (Ai ta tb):=by
 intro pins s σ H Q I h
 refine BoolOp_or (bh (ha pins s σ H _ I h) fun v s1 ⟨x,H1,I1,r1,k,hk,q1⟩=>?_)
 have hk':ye X.K x H1 k:=by
  rcases hk with ⟨rfl,rfl⟩ | ⟨p,kvs,rfl,e,rfl⟩
  ·exact rfl
  ·exact .inr (.inr ⟨kvs,e,rfl⟩)
 refine bh (yf pins s1 σ H1 x v (fun c H2=>c=k/\H2=H1) I1 r1 ⟨k,hk',rfl,rfl⟩) fun c s2 ⟨H2,I2,e1,e2⟩=>?_
 subst e1
 subst e2
 cases c with
 | false=>exact hb pins s2 σ H2 Q I2 q1
 | true=>exact⟨x,H2,I2,r1,q1⟩
end
def lJ:Sp:=fun vs H Q _=>∃ (d:Addr) (T:Str->Sx) (m:Nat) (x:Str) (sv:V) (s:Sx),vs = [.ref d,.str x,sv]/\LT H d T m/\m<=62/\SH H sv s/\∀ d' H',LT H' d' (cc T x s) (m+1)->H d' = none->ah H H'->Q (.ref d') H'
def nY:Sp:=fun vs H Q _=>∃ (d p:Addr) (T:Str->Sx) (m:Nat) (ws:List V) (ds:List cx) (pool:List Str),vs = [.ref d,.ref p]/\LT H d T m/\H p=some (.tup ws)/\bg H ws (ds.map dN)/\m<=62/\m=pool.length/\de pool T/\(∀ e ∈ ds,eB pool e)/\∀ d' H',LT H' d' (bx T ds) m->(d' = d\/H d' = none)->ah H H'->Q (.ref d') H'
def Az (m:Nat) (F:Addr->Prop) (H:Hp) (v:V) (p:Nat × (Str->Sx)):Prop:=∃ q sv d,v=.ref q/\H q=some (.tup [sv,.int p.1,.ref d])/\LT H d p.2 m/\F d
def jC (m:Nat) (F:Addr->Prop) (H:Hp) (vs:List V) (ps:List (Nat × (Str->Sx))):Prop:=Paired (Az m F H) vs ps
theorem jC.same {m:Nat} {F:Addr->Prop} {H H':Hp} (s:ah H H'):∀ {vs:List V} {ps:List (Nat × (Str->Sx))},jC m F H vs ps->jC m F H' vs ps
 | _,_,.nil=>.nil
 | _,_,.cons ⟨q,sv,d,e,h1,h2,h3⟩ t=>.cons ⟨q,sv,d,e,s _ _ h1,h2.same s,h3⟩ (jC.same s t)
theorem jC.put {m:Nat} {F:Addr->Prop} {H:Hp} {l:Addr} {xs:List V} {o:HO} (hl:H l=some (.lst xs)):∀ {vs:List V} {ps:List (Nat × (Str->Sx))},jC m F H vs ps->jC m F (upd H l o) vs ps
 | _,_,.nil=>.nil
 | _,_,.cons ⟨q,sv,d,e,h1,h2,h3⟩ t=>.cons ⟨q,sv,d,e,by rw [au (bA h1 hl (by intro z;cases z))];exact h1,h2.put hl,h3⟩ (jC.put hl t)
def kQ:Sp:=fun vs H Q _=>∃ (d ea:Addr) (T:Str->Sx) (e:End) (m:Nat),vs = [.ref d,.ref ea]/\LT H d T m/\m<=62/\(∀ x,lP (T x).1 (T x).2)/\H ea=some (.tup (i6 e)) /\
 ∀ (l:Addr) (vs:List V) (H':Hp),H' l=some (.lst vs)->H l=none->jC (m+1) (fun a=>a=d\/H a=none) H' vs (fJ T e)->ah H H'->Q (.ref l) H'
def WD (kvs:List (Key × V)) (bs:List Bool):Prop:=∃ ns:List Nat,kvs.map (·.1)=(ns.map fun n=>((n:Nat):Int)).map Sum.inl/\ns.Nodup/\∀ k:Nat,k ∈ ns ↔ bs[k]? = some true
theorem lW {a b:Nat} (h:(Sum.inl ((a:Nat):Int):Key)=Sum.inl ((b:Nat):Int)):a=b:=by cases h;rfl
theorem WD.len {kvs:List (Key × V)} {bs:List Bool} (h:WD kvs bs):kvs.length<=bs.length:=by
 obtain⟨ns,h1,h2,h3⟩:=h
 have e:=congrArg List.length h1
 simp only [List.length_map] at e
 rw [e]
 have:=L2.sub_len (m:=List.range bs.length) h2 fun x hx=>List.mem_range.mpr (List.getElem?_eq_some_iff.mp ((h3 x).mp hx)).1
 simpa using this
theorem WD.put {kvs:List (Key × V)} {bs:List Bool} (h:WD kvs bs) {k:Nat} (hk:k < bs.length) (v:V):WD (putK kvs (Sum.inl ((k:Nat):Int)) v) (bs.set k true):=by
 obtain⟨ns,h1,h2,h3⟩:=h
 have hin:(Sum.inl ((k:Nat):Int):Key) ∈ kvs.map (·.1) ↔ k ∈ ns:=by
  rw [h1,List.map_map,List.mem_map]
  exact⟨fun ⟨a,ha,e⟩=>lW e ▸ ha,fun h=>⟨k,h,rfl⟩⟩
 have hset:∀ j:Nat,(bs.set k true)[j]? = some true ↔ j=k\/bs[j]? = some true:=fun j=>by
  by_cases e:k=j
  ·subst e;rw [List.getElem?_set_self hk];simp
  ·rw [List.getElem?_set_ne e];exact⟨.inr,fun z=>z.elim (fun z=>absurd z.symm e) id⟩
 rcases ky (kvs:=kvs) (k:=(Sum.inl ((k:Nat):Int):Key)) (v:=v) with ⟨e1,hm⟩ | ⟨e1,hm⟩
 ·have hkn:=hin.mp hm
  refine⟨ns,by rw [e1,h1],h2,fun j=>?_⟩
  rw [hset,h3]
  exact⟨.inr,fun z=>z.elim (fun z=>by rw [z];exact (h3 k).mp hkn) id⟩
 ·have hkn:¬ k ∈ ns:=fun z=>hm (hin.mpr z)
  refine⟨ns ++ [k],by rw [e1,h1,List.map_append,List.map_append];rfl,?_,fun j=>?_⟩
  ·rw [List.nodup_append]
   exact⟨h2,by simp,fun a ha b hb z=>by rw [List.mem_singleton] at hb;subst hb;subst z;exact hkn ha⟩
  ·rw [hset,List.mem_append,List.mem_singleton,h3]
   exact Or.comm
theorem WD.drop {kvs:List (Key × V)} {bs:List Bool} (h:WD kvs bs) {k:Nat} (hk:k < bs.length):WD (cz kvs (Sum.inl ((k:Nat):Int))) (bs.set k false):=by
 obtain⟨ns,h1,h2,h3⟩:=h
 refine⟨ns.filter fun n=>decide (n ≠ k),?_,h2.filter _,fun j=>?_⟩
 ·have go:∀ (kvs:List (Key × V)) (ns:List Nat),kvs.map (·.1)=(ns.map fun n=>((n:Nat):Int)).map Sum.inl->(cz kvs (Sum.inl ((k:Nat):Int))).map (·.1)=((ns.filter fun n=>decide (n ≠ k)).map fun n=>((n:Nat):Int)).map Sum.inl:=by
   intro kvs
   induction kvs with
   | nil =>
    intro ns h
    cases ns with
    | nil=>rfl
    | cons a r=>cases h
   | cons p r ih =>
    intro ns h
    cases ns with
    | nil=>cases h
    | cons a ns =>
     have h':p.1=Sum.inl ((a:Nat):Int)/\r.map (·.1)=(ns.map fun n=>((n:Nat):Int)).map Sum.inl:=by simpa using h
     have ih':=ih ns h'.2
     unfold cz at ih' ⊢
     by_cases e:a=k
     ·rw [List.filter_cons_of_neg (by rw [h'.1,e];simp),List.filter_cons_of_neg (by simp [e])]
      exact ih'
     ·rw [List.filter_cons_of_pos (by rw [h'.1];simp only [decide_eq_true_eq];exact fun z=>e (lW z)),List.filter_cons_of_pos (by simp [e])]
      simp only [List.map_cons]
      rw [ih',h'.1]
  exact go kvs ns h1
 ·rw [List.mem_filter,h3]
  by_cases e:k=j
  ·subst e;rw [List.getElem?_set_self hk];simp
  ·rw [List.getElem?_set_ne e]
   simp [Ne.symm e]
theorem WD.there {kvs:List (Key × V)} {bs:List Bool} (h:WD kvs bs) {k:Nat} (hk:bs[k]? = some true):∃ v,bG kvs (Sum.inl ((k:Nat):Int))=some v:=by
 obtain⟨ns,h1,h2,h3⟩:=h
 have hm:(Sum.inl ((k:Nat):Int):Key) ∈ kvs.map (·.1):=by
  rw [h1,List.map_map,List.mem_map]
  exact⟨k,(h3 k).mpr hk,rfl⟩
 cases e:bG kvs (Sum.inl ((k:Nat):Int)) with
 | some v=>exact⟨v,rfl⟩
 | none =>
  obtain⟨p,hp,e2⟩:=List.mem_map.mp hm
  have:=gu (Sum.inl ((k:Nat):Int):Key) kvs
  rw [e] at this
  have h9:(kvs.any fun kv=>decide (kv.1=(Sum.inl ((k:Nat):Int):Key)))=true:=List.any_eq_true.mpr ⟨p,hp,decide_eq_true e2⟩
  rw [h9] at this
  cases this
theorem WD.none {kvs:List (Key × V)} {bs:List Bool} (h:WD kvs bs):(0 < kvs.length ↔ true ∈ bs):=by
 obtain⟨ns,h1,h2,h3⟩:=h
 have e:=congrArg List.length h1
 simp only [List.length_map] at e
 rw [e]
 constructor
 ·intro hl
  cases ns with
  | nil=>cases hl
  | cons a r=>exact List.mem_of_getElem? ((h3 a).mp (List.mem_cons_self ..))
 ·intro ht
  obtain⟨i,hi⟩:=List.mem_iff_getElem?.mp ht
  exact List.length_pos_of_mem ((h3 i).mpr hi)
theorem WD.least {kvs:List (Key × V)} {bs:List Bool} {ns:List Nat} (h3:∀ k:Nat,k ∈ ns ↔ bs[k]? = some true) {M:Int} (hM:M ∈ ns.map fun n=>((n:Nat):Int)) (hl:∀ a,a ∈ (ns.map fun n=>((n:Nat):Int))->M<=a):∃ i:Nat,M=(i:Nat)/\bs[i]? = some true/\∀ j:Nat,j < i->bs[j]? = some false:=by
 obtain⟨i,hi,rfl⟩:=List.mem_map.mp hM
 have hb:=(h3 i).mp hi
 refine⟨i,rfl,hb,fun j hj=>?_⟩
 have hjl:j < bs.length:=Nat.lt_trans hj (List.getElem?_eq_some_iff.mp hb).1
 have e:bs[j]? = some bs[j]:=by simp [hjl]
 cases hv:bs[j] with
 | false=>rw [e,hv]
 | true =>
  have:=hl _ (List.mem_map.mpr ⟨j,(h3 j).mpr (by rw [e,hv]),rfl⟩)
  omega
def EL (m:Nat) (w:Addr) (H:Hp) (u:V):Option (Str->Sx)->Prop
 | none=>u=.aB
 | some T=>∃ d,u=.ref d/\LT H d T m/\d ≠ w
def hG (m:Nat) (w:Addr) (H:Hp) (us:List V) (os:dD):Prop:=Paired (EL m w H) us os
theorem EL.keep {m:Nat} {w:Addr} {H H':Hp} (k:∀ d T,LT H d T m->d ≠ w->LT H' d T m) {u:V}:∀ {o:Option (Str->Sx)},EL m w H u o->EL m w H' u o
 | none,h=>h
 | some _,⟨d,e,h1,h2⟩=>⟨d,e,k _ _ h1 h2,h2⟩
theorem hG.keep {m:Nat} {w:Addr} {H H':Hp} (k:∀ d T,LT H d T m->d ≠ w->LT H' d T m):∀ {us:List V} {os:dD},hG m w H us os->hG m w H' us os
 | _,_,.nil=>.nil
 | _,_,.cons h t=>.cons (h.keep k) (hG.keep k t)
theorem LT.yX {H:Hp} {d w:Addr} {T:Str->Sx} {m:Nat} {kvs:List (Key × V)} {o:HO} (h:LT H d T m) (hw:H w=some (.dK kvs)) (n:d ≠ w):LT (upd H w o) d T m :=
 h.aI (fun u e=>by rw [au n];exact e) fun p zs e=>by rw [au (bA e hw (by intro z;cases z))];exact e
theorem sf {m:Nat} {w:Addr} {H:Hp}:∀ n:Nat,hG m w H (List.replicate n .aB) (List.replicate n none)
 | 0=>.nil
 | n+1=>.cons rfl (sf n)
def nZ:Sp:=fun vs H Q _=>∃ (plv:V) (ps:List Piece) (xs:List Str) (m:Nat),vs = [plv]/\bB H plv (il ps)/\fe xs m ps/\0 < ps.length/\ps.length<=400/\xs.length<=62 /\
 ∀ (t:Addr) (us:List V) (tab:dD) H',H' t=some (.tup us)->cI H' us tab->lI ps tab->ah H H'->Q (.ref t) H'
theorem cI.wY {H:Hp}:∀ {us vs:List V} {tab:dD},cI H us tab->cI H vs tab->(∀ T,some T ∈ tab->vX T)->∃ ds:List PyData,bg H us ds/\bg H vs ds/\(PyData.tuple ds).canLay0=true/\PyData.depthAll ds<=3
 | _,_,_,.nil,.nil,_=>⟨[],.nil,.nil,rfl,Nat.zero_le _⟩
 | _,_,_,.cons (b:=o) h t,.cons h' t',hl=>by
  obtain⟨ds,r1,r2,l,dd⟩:=cI.wY t t' fun T hT=>hl T (List.mem_cons_of_mem _ hT)
  cases o with
  | none =>
   cases (show _=V.aB from h)
   cases (show _=V.aB from h')
   refine⟨.none :: ds,.cons .aB r1,.cons .aB r2,?_,?_⟩
   ·show (true && (PyData.tuple ds).canLay0)=true
    rw [l];rfl
   ·show max 0 (PyData.depthAll ds)<=3
    omega
  | some T =>
   obtain⟨ss,a1,a2,a3⟩:=FV.wY (show FV H _ T from h) (show FV H _ T from h')
   refine⟨gg T ss :: ds,.cons a1 r1,.cons a2 r2,?_,?_⟩
   ·show ((gg T ss).canLay0 && (PyData.tuple ds).canLay0)=true
    rw [uL (hl T (List.mem_cons_self ..)) ss a3,l]
    rfl
   ·show max (gg T ss).depth (PyData.depthAll ds)<=3
    have:=yS T ss
    omega
end L2
namespace My
open PySem PySem.Spec PyProof.Rows L2
def top (i:Nat):Stmt:=PySem.Challenge.pw_ledpast_k33_tables_by_hand.main.body.getD i (.Pass ⟨0,0,0,0⟩)
structure Bl (mg:Str->Option Value):Prop where
 len:mg "len" = none
 zip:mg "zip" = none
 tuple:mg "tuple" = none
 sorted:mg "sorted" = none
 set:mg "set" = none
 dict:mg "dict" = none
 min:mg "min" = none
 max:mg "max" = none
 range:mg "range" = none
 list:mg "list" = none
 int:mg "int" = none
 all:mg "all" = none
abbrev df:Stmt:=top 3
theorem mJ:aQ ["thing", "kinds", "wanted"] ["thing", "kinds", "wanted"] (av df):=⟨rfl,rfl,rfl,by decide +kernel,rfl,by decide +kernel,by decide +kernel⟩
abbrev gG:Stmt:=top 5
theorem tq:aQ ["end"] ["end"] (av gG):=⟨rfl,rfl,rfl,by decide +kernel,rfl,by decide +kernel,by decide +kernel⟩
abbrev fK:Stmt:=top 4
theorem gh:aQ ["plan", "names", "deeds", "end", "deed"] ["plan"] (av fK):=⟨rfl,rfl,rfl,by decide +kernel,rfl,by decide +kernel,by decide +kernel⟩
abbrev gH:Stmt:=top 7
theorem j3:aQ ["number", "stretch", "low", "high"] ["number", "stretch"] (av gH):=⟨rfl,rfl,rfl,by decide +kernel,rfl,by decide +kernel,by decide +kernel⟩
abbrev eI:Stmt:=top 9
theorem gm:aQ ["stretch", "number", "low", "high", "top"] ["stretch", "number"] (av eI):=⟨rfl,rfl,rfl,by decide +kernel,rfl,by decide +kernel,by decide +kernel⟩
abbrev fh:Stmt:=top 10
theorem gY:aQ ["stretch", "number", "low", "high", "bottom"] ["stretch", "number"] (av fh):=⟨rfl,rfl,rfl,by decide +kernel,rfl,by decide +kernel,by decide +kernel⟩
abbrev gI:Stmt:=top 11
theorem tw:aQ ["stretch", "number"] ["stretch", "number"] (av gI):=⟨rfl,rfl,rfl,by decide +kernel,rfl,by decide +kernel,by decide +kernel⟩
abbrev dQ:Stmt:=top 12
theorem ia:aQ ["stretch", "number", "low", "high"] ["stretch", "number"] (av dQ):=⟨rfl,rfl,rfl,by decide +kernel,rfl,by decide +kernel,by decide +kernel⟩
abbrev gJ:Stmt:=top 13
theorem tD:aQ ["stretch", "word", "number", "side"] ["stretch", "word", "number", "side"] (av gJ):=⟨rfl,rfl,rfl,by decide +kernel,rfl,by decide +kernel,by decide +kernel⟩
abbrev fi:Stmt:=top 8
theorem fD:aQ ["one", "other", "low", "high", "low_fits", "high_fits"] ["one", "other"] (av fi):=⟨rfl,rfl,rfl,by decide +kernel,rfl,by decide +kernel,by decide +kernel⟩
abbrev fL:Stmt:=top 16
theorem qU:aQ ["stretches"] ["stretches"] (av fL):=⟨rfl,rfl,rfl,by decide +kernel,rfl,by decide +kernel,by decide +kernel⟩
abbrev iT:Stmt:=top 17
theorem wq:aQ ["facts", "name"] ["facts", "name"] (av iT):=⟨rfl,rfl,rfl,by decide +kernel,rfl,by decide +kernel,by decide +kernel⟩
abbrev eJ:Stmt:=top 18
theorem ka:aQ ["facts", "name", "stretch", "stretches"] ["facts", "name", "stretch"] (av eJ):=⟨rfl,rfl,rfl,by decide +kernel,rfl,by decide +kernel,by decide +kernel⟩
abbrev ib:Stmt:=top 19
theorem oJ:aQ ["facts", "others", "stretches"] ["facts", "others"] (av ib):=⟨rfl,rfl,rfl,by decide +kernel,rfl,by decide +kernel,by decide +kernel⟩
abbrev iU:Stmt:=top 20
theorem mK:aQ ["stretch", "number", "low", "high"] ["stretch", "number"] (av iU):=⟨rfl,rfl,rfl,by decide +kernel,rfl,by decide +kernel,by decide +kernel⟩
abbrev cS:Stmt:=top 21
theorem iL:aQ ["stretches", "deed", "word", "name"] ["stretches", "deed"] (av cS):=⟨rfl,rfl,rfl,by decide +kernel,rfl,by decide +kernel,by decide +kernel⟩
abbrev ic:Stmt:=top 22
theorem kR:aQ ["facts", "deeds", "stretches", "deed"] ["facts", "deeds"] (av ic):=⟨rfl,rfl,rfl,by decide +kernel,rfl,by decide +kernel,by decide +kernel⟩
abbrev dE:Stmt:=top 23
theorem cP:aQ ["facts", "end", "ways", "word", "name", "number", "stretch", "parts"] ["facts", "end"] (av dE):=⟨rfl,rfl,rfl,by decide +kernel,rfl,by decide +kernel,by decide +kernel⟩
abbrev iV:Stmt:=top 24
theorem qD:aQ ["facts", "end", "beyond"] ["facts", "end"] (av iV):=⟨rfl,rfl,rfl,by decide +kernel,rfl,by decide +kernel,by decide +kernel⟩
abbrev iW:Stmt:=top 25
theorem wu:aQ ["plan"] ["plan"] (av iW):=⟨rfl,rfl,rfl,by decide +kernel,rfl,by decide +kernel,by decide +kernel⟩
abbrev ie:Stmt:=top 27
theorem oM:aQ ["lead", "table", "entry"] ["lead", "table"] (av ie):=⟨rfl,rfl,rfl,by decide +kernel,rfl,by decide +kernel,by decide +kernel⟩
abbrev eM:Stmt:=top 28
theorem iJ:aQ ["entry", "piece", "deeds", "end"] ["entry", "piece"] (av eM):=⟨rfl,rfl,rfl,by decide +kernel,rfl,by decide +kernel,by decide +kernel⟩
abbrev ig:Stmt:=top 29
theorem kT:aQ ["stretch", "other", "low", "high"] ["stretch", "other"] (av ig):=⟨rfl,rfl,rfl,by decide +kernel,rfl,by decide +kernel,by decide +kernel⟩
abbrev gK:Stmt:=top 30
theorem ny:aQ ["entry", "facts", "stretches"] ["entry", "facts"] (av gK):=⟨rfl,rfl,rfl,by decide +kernel,rfl,by decide +kernel,by decide +kernel⟩
abbrev fM:Stmt:=top 31
theorem fj:aQ ["plan", "table", "waits", "at", "lead", "way"] ["plan"] (av fM):=⟨rfl,rfl,rfl,by decide +kernel,rfl,by decide +kernel,by decide +kernel⟩
abbrev gM:Stmt:=top 33
theorem j4:aQ ["script", "k", "cell"] ["script", "k"] (av gM):=⟨rfl,rfl,rfl,by decide +kernel,rfl,by decide +kernel,by decide +kernel⟩
abbrev fN:Stmt:=top 34
theorem lX:aQ ["bag", "many", "found"] ["bag", "many"] (av fN):=⟨rfl,rfl,rfl,by decide +kernel,rfl,by decide +kernel,by decide +kernel⟩
abbrev fk:Stmt:=top 35
theorem cX:aQ ["bag", "letters", "many", "base", "at", "names", "k", "name"] ["bag"] (av fk):=⟨rfl,rfl,rfl,by decide +kernel,rfl,by decide +kernel,by decide +kernel⟩
abbrev eN:Stmt:=top 36
theorem oV:aQ ["bag"] ["bag"] (av eN):=⟨rfl,rfl,rfl,by decide +kernel,rfl,by decide +kernel,by decide +kernel⟩
abbrev fO:Stmt:=top 37
theorem jD:aQ ["bag", "names", "word", "name"] ["bag", "names"] (av fO):=⟨rfl,rfl,rfl,by decide +kernel,rfl,by decide +kernel,by decide +kernel⟩
abbrev gN:Stmt:=top 38
theorem iP:aQ ["bag", "names", "count", "way", "word", "name"] ["bag", "names", "count"] (av gN):=⟨rfl,rfl,rfl,by decide +kernel,rfl,by decide +kernel,by decide +kernel⟩
abbrev fP:Stmt:=top 39
theorem fm:aQ ["bag", "count", "most", "names", "pieces", "k", "many", "end"] ["bag", "count", "most"] (av fP):=⟨rfl,rfl,rfl,by decide +kernel,rfl,by decide +kernel,by decide +kernel⟩
abbrev fq:Stmt:=top 40
theorem qE:aQ ["bag", "most"] ["bag", "most"] (av fq):=⟨rfl,rfl,rfl,by decide +kernel,rfl,by decide +kernel,by decide +kernel⟩
abbrev dh:Stmt:=top 41
theorem dM:aQ ["plan", "names", "deeds", "end", "deed"] ["plan"] (av dh):=⟨rfl,rfl,rfl,by decide +kernel,rfl,by decide +kernel,by decide +kernel⟩
abbrev fQ:Stmt:=top 42
theorem d5:aQ ["stretch", "word", "number", "side", "low", "high"] ["stretch", "word", "number", "side"] (av fQ):=⟨rfl,rfl,rfl,by decide +kernel,rfl,by decide +kernel,by decide +kernel⟩
abbrev fR:Stmt:=top 43
theorem jE:aQ ["facts", "name", "stretch", "more", "other"] ["facts", "name", "stretch"] (av fR):=⟨rfl,rfl,rfl,by decide +kernel,rfl,by decide +kernel,by decide +kernel⟩
abbrev fS:Stmt:=top 46
theorem qV:aQ ["facts"] ["facts"] (av fS):=⟨rfl,rfl,rfl,by decide +kernel,rfl,by decide +kernel,by decide +kernel⟩
abbrev eQ:Stmt:=top 44
theorem bN:aQ ["facts", "deeds", "deed", "stretch", "low", "high"] ["facts", "deeds"] (av eQ):=⟨rfl,rfl,rfl,by decide +kernel,rfl,by decide +kernel,by decide +kernel⟩
abbrev ft:Stmt:=top 45
theorem gZ:aQ ["facts", "end", "found", "side", "part"] ["facts", "end"] (av ft):=⟨rfl,rfl,rfl,by decide +kernel,rfl,by decide +kernel,by decide +kernel⟩
abbrev eR:Stmt:=top 47
theorem dU:aQ ["one", "other", "name", "low", "high", "less", "more"] ["one", "other"] (av eR):=⟨rfl,rfl,rfl,by decide +kernel,rfl,by decide +kernel,by decide +kernel⟩
abbrev eV:Stmt:=top 48
theorem cF:aQ ["one", "other", "found", "name", "low", "high", "less", "more"] ["one", "other"] (av eV):=⟨rfl,rfl,rfl,by decide +kernel,rfl,by decide +kernel,by decide +kernel⟩
abbrev fT:Stmt:=top 49
theorem cT:aQ ["plan", "begun", "name", "table", "waits", "piece", "side", "there", "more"] ["plan"] (av fT):=⟨rfl,rfl,rfl,by decide +kernel,rfl,by decide +kernel,by decide +kernel⟩
abbrev di:Stmt:=top 50
theorem bV:aQ ["bag", "count", "letters", "shift", "names", "k", "sign", "pieces", "deeds"] ["bag", "count"] (av di):=⟨rfl,rfl,rfl,by decide +kernel,rfl,by decide +kernel,by decide +kernel⟩
abbrev iQ:Stmt:=top 51
theorem kU:aQ ["script", "first", "plan", "due"] ["script"] (av iQ):=⟨rfl,rfl,rfl,by decide +kernel,rfl,by decide +kernel,by decide +kernel⟩
section
variable {P:Program} {w:World} {K:PySem.W.Frag} {mg:Str->Option Value} {base:Heap}
theorem mL {f:Addr} {fd:FuncData} (F:bZ K "parts_of_kind" "parts_of_kind" df f fd) (Z:Bl mg)  : bD P w K mg base bX 1 f fd ["thing", "kinds", "wanted"] (lB K):=by
 refine F.ok (k:=0) mJ (fun vs H Q E h=>?_) (fun cdv A outer s H vs Q E hr h=>?_)
 ·obtain⟨t,s,v0,xs,ks,w,rfl,_⟩:=h
  rfl
 ·obtain⟨t,s,v0,xs,ks,w,rfl,ht,hs,hl,q⟩:=h
  refine⟨_,(ar (aH (dJ ["part", "kind"] ["wanted"] [2] rfl (uh rfl Z.zip (aa (vg xq (pv 0) (xg ao) xf) (aa (pv 1) af))) rfl (by decide +kernel) (by decide +kernel) (by decide +kernel) ⟨⟨rfl,.inl rfl,rfl⟩,True.intro⟩ (fun _ _ _ _=>(lg (K:=K) (n:=2) rfl (cv (n:=2) rfl (aM (aF (i:=0) (show ((["part", "kind"]:List Str)++(["wanted"]:List Str)).Nodup by decide +kernel) rfl (Or.inl rfl) (hf:=Or.inr rfl)) (aM (aF (i:=1) (show ((["part", "kind"]:List Str)++(["wanted"]:List Str)).Nodup by decide +kernel) rfl (Or.inl rfl) (hf:=Or.inr rfl)) bU))))) (fun _ _ _ _=>(nH (aP cg (pv 1) (pv 2) (aS _)))) (fun _ _ _ _=>(pv 0))))),?_⟩
  refine⟨_,rfl,_,rfl,t,_,rfl,ay.of ht,fun hw=>?_,fun _ p np=>?_⟩
  ·exfalso
   obtain⟨h1,_⟩:=hw
   simp [HT.bP] at h1
  ·have ec:me (v0 :: xs) (some 1) none=xs:=by simp [me,HT.bP]
   rw [ec]
   have sp:=ah.new (o:=.tup xs) np
   refine⟨_,rfl,p,s,rfl,⟨_,ay.of ae⟩,⟨_,hs.same sp⟩,fun acc na=>?_⟩
   refine ui (K:=K) (a:=p) (b:=s) (xs:=xs) (ys:=ks.map V.str) (fun i zs τ H'=>∃ (c1 c2:Option V),τ = [c1,c2,some (.str w)]/\zs=jn w xs ks i/\H' acc=some (.lst zs)/\H' p=some (.tup xs)/\ah H H') ?_ ?_ ?_ ?_
   ·exact⟨none,none,rfl,rfl,ae,ah.new na _ _ ae,sp.trans (ah.new na)⟩
   ·rintro i zs τ H4 hi ⟨c1,c2,rfl,rfl,ha,hp4,s4⟩
    exact⟨ay.of hp4,hs.same s4,ha,jY (by have:=uk (w:=w) (xs:=xs) (ks:=ks) (i:=i);omega)⟩
   ·rintro i x y zs τ H4 u hx hy hu ⟨c1,c2,rfl,rfl,ha,hp4,s4⟩
    obtain⟨k,rfl,hk⟩:∃ k,y=V.str k/\ks[i]? = some k:=by
     rw [List.getElem?_map] at hy
     cases e:ks[i]? with
     | none=>rw [e] at hy;cases hy
     | some k=>rw [e] at hy;exact⟨k,(Option.some.inj hy).symm,rfl⟩
    have su:=ah.new (o:=.tup [x,.str k]) hu
    refine⟨u,_,rfl,ay.of ae,rfl,_,_,rfl,_,_,rfl,rfl,?_⟩
    refine⟨_,rfl,_,rfl,rfl,_,rfl,?_⟩
    have hn:=sJ (w:=w) hx hk
    by_cases hkw:k=w
    ·rw [if_pos hkw] at hn
     refine bY (decide_eq_true (congrArg V.str hkw)) ?_
     refine⟨_,rfl,su _ _ ha,_,_,rfl,hn.symm,ae,?_,?_⟩
     ·rw [au (bA hp4 ha (by intro z;cases z))]
      exact su _ _ hp4
     ·exact (s4.trans su).put (sp.free na)
    ·rw [if_neg hkw,List.append_nil] at hn
     refine bf (decide_eq_false fun z=>hkw (V.str.inj z)) ?_
     exact⟨_,_,rfl,hn.symm,su _ _ ha,su _ _ hp4,s4.trans su⟩
   ·rintro zs τ H4 ⟨c1,c2,rfl,rfl,ha,hp4,s4⟩
    rw [uj] at ha
    exact q acc H4 ha s4
theorem tE {f:Addr} {fd:FuncData} (F:bZ K "ways_on" "ways_on" gG f fd) (Z:Bl mg) {aE s0 s1 s2 s3:Addr} (GE:qd K mg aE s0 s1 s2 s3) (O_parts_of_kind:Own P w K mg base "parts_of_kind" 1 ["thing", "kinds", "wanted"] (lB K)):bD P w K mg base bX 3 f fd ["end"] m7:=by
 refine F.ok (k:=2) tq (fun vs H Q E h=>?_) (fun cdv A outer s H vs Q E hr h=>?_)
 ·obtain⟨ea,e,rfl,_⟩:=h
  rfl
 ·obtain⟨ea,e,rfl,he,q⟩:=h
  refine⟨_,(ar (aH (bw bH rfl Z.tuple cN (aa (aC O_parts_of_kind (hr.mono (by decide)) rfl (aa (pv 0) (aa (nL GE.tab rfl (aK aZ (pv 0) ao (fun _ _=>rfl)) (fun _ _=>rfl)) (aa bF af)))) af)))),?_⟩
  obtain⟨xs,ev,hl,hp⟩:=um e
  rw [ev] at he
  obtain⟨s,hs,ks⟩:=GE.at_ e
  refine⟨_,rfl,_,rfl,ea,_,0,_,rfl,rfl,ay.of he,cf,_,s,rfl,hs,ea,s,_,xs,kE e, "piece",rfl,he,.inr ks,hl,fun l H1 hl1 s1=>?_⟩
  rw [hp] at hl1
  exact⟨l,_,rfl,.inl ⟨aX.of hl1,fun t ht=>q t _ ae (s1.trans (ah.new ht))⟩⟩
theorem qW {f:Addr} {fd:FuncData} (F:bZ K "names_of" "names_of" fK f fd) (Z:Bl mg) {aD d0 d1 d2 d3 d4:Addr} (GD:o9 K mg aD d0 d1 d2 d3 d4) {aE s0 s1 s2 s3:Addr} (GE:qd K mg aE s0 s1 s2 s3) (O_parts_of_kind:Own P w K mg base "parts_of_kind" 1 ["thing", "kinds", "wanted"] (lB K)):bD P w K mg base bX 3 f fd ["plan"] kG:=by
 refine F.ok (k:=2) gh (fun vs H Q E h=>?_) (fun cdv A outer s H vs Q E hr h=>?_)
 ·obtain⟨plv,ps,xs,m,rfl,_⟩:=h
  rfl
 ·obtain⟨plv,ps,xs,m,rfl,hp,pok,hx64,hal,q⟩:=h
  refine⟨_,(ai (aJ (i:=1) gh.nd rfl (Or.inl rfl) (cD af))
   (ai (dH PassesOwn.never rfl (e7 (pv 0)) (cv rfl (aM (aF (i:=2) gh.nd rfl (Or.inl rfl)) (aM (aF (i:=3) gh.nd rfl (Or.inl rfl)) bU)))
   (ai (dH PassesOwn.never rfl (e7 (pv 2)) (aF (i:=4) gh.nd rfl (Or.inl rfl))
   (ar (fF (ik PySem.F.plainAttrs_list PySem.F.slot_list_extend PySem.F.type_list_extend ox (pv 1) (aa (aC O_parts_of_kind (hr.mono (by decide)) rfl (aa (pv 4) (aa (nL GD.tab rfl (aK aZ (pv 4) ao (fun _ _=>rfl)) (fun _ _=>rfl)) (aa bF af)))) af)))))
   (ar (fF (ik PySem.F.plainAttrs_list PySem.F.slot_list_extend PySem.F.type_list_extend ox (pv 1) (aa (aC O_parts_of_kind (hr.mono (by decide)) rfl (aa (pv 3) (aa (nL GE.tab rfl (aK aZ (pv 3) ao (fun _ _=>rfl)) (fun _ _=>rfl)) (aa bF af)))) af))))))
   (ar (aH (bw bH rfl Z.tuple cN (aa (bO (oO rfl) rfl Z.sorted jm (aa (bw (uB rfl) rfl Z.set yO (aa (pv 1) af)) af)) af)))))),?_⟩
  obtain⟨pp,vs,rfl,e1,r⟩:=bB.cQ hp
  have hl:=r.len
  refine⟨(by show 0<=sizeLine;decide),fun nm nn=>?_⟩
  have s0:=ah.new (o:=.lst []) nn
  have big:∀ (i:Nat) (ys:List Str),ys.length<=4000->(ys.map V.str).length<=sizeLine:=fun i ys h=>by rw [List.length_map];exact Nat.le_trans h (by decide)
  refine⟨_,rfl,pp,rfl,⟨_,ay.of (s0 _ _ e1)⟩,hV (K:=K) (a:=pp) (xs:=vs) (fun i σ H'=>∃ (u1 u2 u3:Option V),σ = [some (.ref pp),some (.ref nm),u1,u2,u3]/\H' nm=some (.lst ((aR (ps.take i)).map V.str))/\ah H H') ?_ ?_ ?_ ?_⟩
  ·exact⟨_,_,_,rfl,ae,s0⟩
  ·rintro i σ H1 hi ⟨u1,u2,u3,rfl,h1,s1⟩
   exact ay.of (s1 _ _ e1)
  ·rintro i x σ H1 hi ⟨u1,u2,u3,rfl,h1,s1⟩
   have hlt:i < ps.length:=by
    have:=(List.getElem?_eq_some_iff.mp hi).1
    rw [hl,List.length_map] at this
    exact this
   have hpi:ps[i]? = some ps[i]:=by simp [hlt]
   generalize ps[i] = pe at hpi
   obtain⟨ds,e⟩:=pe
   have hnext:=jq (f:=pNames) hpi
   have hsz:(aR (ps.take (i+1))).length<=4000:=Nat.le_trans (j8 (f:=pNames) (i+1)) hal
   have hsz':(aR (ps.take i)).length+((ds.flatMap bR).length+(fB e).length)<=4000:=by
    have z:=congrArg List.length hnext
    unfold aR at hsz ⊢
    rw [z] at hsz
    simp only [List.length_append,pNames] at hsz
    omega
   obtain⟨p',xs',pc,da,ea,ws,ep,e1',el',hx',e2,e3,r3,e4⟩:=jX hp hpi
   cases ep
   rw [e1] at e1'
   cases e1'
   rw [hi] at hx'
   cases hx'
   refine⟨pc,_,rfl,ay.of (s1 _ _ e2),rfl,_,_,rfl,_,_,rfl,rfl,?_⟩
   refine⟨_,rfl,da,rfl,⟨_,ay.of (s1 _ _ e3)⟩,hV (K:=K) (a:=da) (xs:=ws) (fun j σ H'=>∃ (u3:Option V),σ = [some (.ref pp),some (.ref nm),some (.ref da),some (.ref ea),u3]/\H' nm=some (.lst ((aR (ps.take i)++(ds.take j).flatMap bR).map V.str))/\ah H H') ?_ ?_ ?_ ?_⟩
   ·exact⟨_,rfl,by simpa using h1,s1⟩
   ·rintro j σ H2 hj ⟨u3',rfl,h2,s2⟩
    exact ay.of (s2 _ _ e3)
   ·rintro j y σ H2 hj ⟨u3',rfl,h2,s2⟩
    have hjl:j < ds.length:=by
     have:=(List.getElem?_eq_some_iff.mp hj).1
     rw [r3.len,List.length_map] at this
     exact this
    have hdj:ds[j]? = some ds[j]:=by simp [hjl]
    generalize ds[j] = dd at hdj
    obtain⟨v,hv,rd⟩:=r3.get (i:=j) (d:=dN dd) (by rw [List.getElem?_map,hdj];rfl)
    rw [hj] at hv
    cases hv
    obtain⟨dp,rfl,hdp⟩:=gC rd
    have hdp2:=s2 _ _ hdp
    obtain⟨zs,ez,hzl,hpk⟩:=sS dd
    rw [ez] at hdp2
    obtain⟨s,hs,ks⟩:=GD.at_ dd
    have hnj:=jq (f:=bR) hdj
    have hsj:((ds.take (j+1)).flatMap bR).length<=(ds.flatMap bR).length:=j8 (f:=bR) (j+1)
    refine bM ?_
    refine⟨_,rfl,.inl ⟨rfl,_,aX.of h2⟩,_,rfl,_,rfl,dp,_,0,_,rfl,rfl,ay.of hdp2,cf,_,s,rfl,hs,dp,s,_,zs,kD dd, "name",rfl,hdp2,.inr ks,hzl,fun l H3 hl3 s3=>?_⟩
    rw [hpk] at hl3
    have h3:=s3 _ _ h2
    refine⟨nm,l,_,_,rfl,rfl,h3,hl3,?_,?_⟩
    ·rw [List.length_map,List.length_map,List.length_append]
     rw [hnj,List.length_append] at hsj
     exact Nat.le_trans (show _<=4000 by omega) (by decide)
    ·refine⟨_,rfl,?_,(s2.trans s3).put nn⟩
     rw [ae,hnj,<-List.append_assoc];simp only [List.map_append]
   ·rintro σ H2 ⟨u3',rfl,h2,s2⟩
    rw [show ws.length=ds.length by rw [r3.len,List.length_map],List.take_length] at h2
    have e42:=s2 _ _ e4
    obtain⟨zs,ez,hzl,hpk⟩:=sT e
    rw [ez] at e42
    obtain⟨s,hs,ks⟩:=GE.at_ e
    refine⟨_,rfl,.inl ⟨rfl,_,aX.of h2⟩,_,rfl,_,rfl,ea,_,0,_,rfl,rfl,ay.of e42,cf,_,s,rfl,hs,ea,s,_,zs,kE e, "name",rfl,e42,.inr ks,hzl,fun l H3 hl3 s3=>?_⟩
    rw [hpk] at hl3
    have h3:=s3 _ _ h2
    refine⟨nm,l,_,_,rfl,rfl,h3,hl3,?_,?_⟩
    ·rw [List.length_map,List.length_map,List.length_append]
     exact Nat.le_trans (show _<=4000 by omega) (by decide)
    ·refine⟨_,_,_,rfl,?_,(s2.trans s3).put nn⟩
     rw [ae,<-List.map_append]
     unfold aR at hnext ⊢
     rw [hnext]
     simp only [pNames,List.append_assoc]
  ·rintro σ H1 ⟨u1,u2,u3,rfl,h1,s1⟩
   rw [show vs.length=ps.length by rw [hl,List.length_map],List.take_length] at h1
   have hk:aX K H1 nm (((aR ps).map (Sum.inr:Str->Key)).map kV):=by rw [xE];exact aX.of h1
   refine⟨_,rfl,nm,(aR ps).map Sum.inr,rfl,hk,(by rw [List.length_map];show _+1 < 4096;omega),fun sa hsa=>?_⟩
   have hf:=mw pok
   refine⟨sa,LS.cn (aR ps),rfl,(by rw [ae,sU]),(by omega),fun l ss hperm hsort hn=>?_⟩
   have s2:=ah.new (o:=qi P w sa (LS.cn ((aR ps).map (Sum.inr:Str->Key)))) hsa
   refine⟨l,_,rfl,.inl ⟨aX.of ae,fun t ht=>?_⟩⟩
   exact q t ss _ ae hperm hsort (by rw [hperm.length_eq];omega) (((s1.trans s2).trans (ah.new hn)).trans (ah.new ht))
theorem tF {f:Addr} {fd:FuncData} (F:bZ K "lies_in" "lies_in" gH f fd) (Z:Bl mg)  : bD P w K mg base bX 1 f fd ["number", "stretch"] (nR K):=by
 refine F.ok (k:=0) j3 (fun vs H Q E h=>?_) (fun cdv A outer s H vs Q E hr h=>?_)
 ·obtain⟨n,q,lo,hi,rfl,_⟩:=h
  rfl
 ·obtain⟨n,q,lo,hi,rfl,hq,k⟩:=h
  refine⟨_,(ai (bT (pv 1) (cv rfl (aM (aF (i:=2) j3.nd rfl (Or.inl rfl)) (aM (aF (i:=3) j3.nd rfl (Or.inl rfl)) bU))))
   (ar (aH (jG (kX (fY (cU (pv 2))) (eh (fH o6 (pv 2) (pv 0) (aS _)))) (eh (kX (fY (cU (pv 3))) (eh (fH o6 (pv 0) (pv 3) (aS _))))))))),?_⟩
  refine⟨_,rfl,q,_,rfl,hq,rfl,_,_,rfl,_,_,rfl,rfl,?_⟩
  cases lo with
  | none =>
   refine⟨_,rfl,_,rfl,aW ⟨_,rfl,aW ?_⟩⟩
   cases hi with
   | none=>exact⟨_,rfl,_,rfl,aW k⟩
   | some b =>
    refine⟨_,rfl,_,rfl,aV ⟨_,rfl,_,rfl,_,_,rfl,rfl,?_⟩⟩
    simpa only [dA,Bool.true_and] using k
  | some a =>
   refine⟨_,rfl,_,rfl,aV ⟨_,rfl,_,rfl,_,_,rfl,rfl,_,rfl,?_⟩⟩
   cases hx:decide (a<=n) with
   | false=>exact aV (by have k':=k;simp only [dA,hx,Bool.false_and] at k';exact k')
   | true =>
    refine aW ?_
    cases hi with
    | none=>exact⟨_,rfl,_,rfl,aW (by have k':=k;simp only [dA,hx,Bool.true_and] at k';exact k')⟩
    | some b =>
     refine⟨_,rfl,_,rfl,aV ⟨_,rfl,_,rfl,_,_,rfl,rfl,?_⟩⟩
     have k':=k
     simp only [dA,hx,Bool.true_and] at k'
     exact k'
theorem oW {f:Addr} {fd:FuncData} (F:bZ K "part_below" "part_below" eI f fd) (Z:Bl mg)  : bD P w K mg base bX 1 f fd ["stretch", "number"] (iI K gf):=by
 refine F.ok (k:=0) gm (fun vs H Q E h=>?_) (fun cdv A outer s H vs Q E hr h=>?_)
 ·obtain⟨p,n,lo,hi,rfl,_⟩:=h
  rfl
 ·obtain⟨p,n,lo,hi,rfl,hp,q⟩:=h
  refine⟨_,(ai (bT (pv 0) (cv rfl (aM (aF (i:=2) gm.nd rfl (Or.inl rfl)) (aM (aF (i:=3) gm.nd rfl (Or.inl rfl)) bU))))
   (ai (aJ (i:=4) gm.nd rfl (Or.inl rfl) (eW (bW (cU (pv 3))) (ba fZ (pv 1) ao) (bO (om rfl) rfl Z.min pQ (aa (pv 3) (aa (ba fZ (pv 1) ao) af)))))
   (ai (bu (PW.pt (fu (bW (cA (pv 2))) (fg (aP jh (pv 2) (pv 4) (aS _)))))
   (ar (aH bC))
   aU)
   (ar (aH (bp (aa (pv 2) (aa (pv 4) af)))))))),?_⟩
  refine⟨_,rfl,p,_,rfl,hp,rfl,_,_,rfl,_,_,rfl,rfl,?_⟩
  cases hi with
  | none =>
   refine⟨_,rfl,_,rfl,aW ⟨_,rfl,_,_,rfl,rfl,?_⟩⟩
   cases lo with
   | none =>
    refine⟨_,rfl,_,rfl,aV (aV ⟨_,rfl,_,rfl,ln2,fun l hl=>?_⟩)⟩
    exact q _ _ ⟨l,rfl,ae⟩ (ah.new hl)
   | some i =>
    refine⟨_,rfl,_,rfl,aW ⟨_,rfl,_,rfl,_,_,rfl,rfl,_,rfl,?_⟩⟩
    refine cM (fun hc=>?_) (fun hc=>?_)
    ·have hlt:i7 none n < i:=of_decide_eq_true hc
     exact q _ _ (by simp only [gf];rw [if_pos hlt];rfl) (ah.refl H)
    ·have hlt:¬ i7 none n < i:=fun z=>hc (decide_eq_true z)
     refine⟨_,rfl,_,rfl,ln2,fun l hl=>?_⟩
     exact q _ _ (by simp only [gf];rw [if_neg hlt];exact⟨l,rfl,ae⟩) (ah.new hl)
  | some j =>
   refine⟨_,rfl,_,rfl,aV ⟨_,rfl,_,rfl,_,_,rfl,rfl,_,_,rfl,?_⟩⟩
   cases lo with
   | none =>
    refine⟨_,rfl,_,rfl,aV (aV ⟨_,rfl,_,rfl,ln2,fun l hl=>?_⟩)⟩
    exact q _ _ ⟨l,rfl,ae⟩ (ah.new hl)
   | some i =>
    refine⟨_,rfl,_,rfl,aW ⟨_,rfl,_,rfl,_,_,rfl,rfl,_,rfl,?_⟩⟩
    refine cM (fun hc=>?_) (fun hc=>?_)
    ·have hlt:i7 (some j) n < i:=of_decide_eq_true hc
     exact q _ _ (by simp only [gf];rw [if_pos hlt];rfl) (ah.refl H)
    ·have hlt:¬ i7 (some j) n < i:=fun z=>hc (decide_eq_true z)
     refine⟨_,rfl,_,rfl,ln2,fun l hl=>?_⟩
     exact q _ _ (by simp only [gf];rw [if_neg hlt];exact⟨l,rfl,ae⟩) (ah.new hl)
theorem qF {f:Addr} {fd:FuncData} (F:bZ K "part_from" "part_from" fh f fd) (Z:Bl mg)  : bD P w K mg base bX 1 f fd ["stretch", "number"] (iI K iq):=by
 refine F.ok (k:=0) gY (fun vs H Q E h=>?_) (fun cdv A outer s H vs Q E hr h=>?_)
 ·obtain⟨p,n,lo,hi,rfl,_⟩:=h
  rfl
 ·obtain⟨p,n,lo,hi,rfl,hp,q⟩:=h
  refine⟨_,(ai (bT (pv 0) (cv rfl (aM (aF (i:=2) gY.nd rfl (Or.inl rfl)) (aM (aF (i:=3) gY.nd rfl (Or.inl rfl)) bU))))
   (ai (aJ (i:=4) gY.nd rfl (Or.inl rfl) (eW (bW (cU (pv 2))) (pv 1) (bO (tT rfl) rfl Z.max yu (aa (pv 2) (aa (pv 1) af)))))
   (ai (bu (PW.pt (fu (bW (cA (pv 3))) (fg (aP jh (pv 4) (pv 3) (aS _)))))
   (ar (aH bC))
   aU)
   (ar (aH (bp (aa (pv 4) (aa (pv 3) af)))))))),?_⟩
  refine⟨_,rfl,p,_,rfl,hp,rfl,_,_,rfl,_,_,rfl,rfl,?_⟩
  cases lo with
  | none =>
   refine⟨_,rfl,_,rfl,aW ⟨_,rfl,?_⟩⟩
   cases hi with
   | none =>
    refine⟨_,rfl,_,rfl,aV (aV ⟨_,rfl,_,rfl,ln2,fun l hl=>?_⟩)⟩
    exact q _ _ ⟨l,rfl,ae⟩ (ah.new hl)
   | some j =>
    refine⟨_,rfl,_,rfl,aW ⟨_,rfl,_,rfl,_,_,rfl,rfl,_,rfl,?_⟩⟩
    refine cM (fun hc=>?_) (fun hc=>?_)
    ·have hlt:j < i8 none n:=of_decide_eq_true hc
     exact q _ _ (by simp only [iq];rw [if_pos hlt];rfl) (ah.refl H)
    ·have hlt:¬ j < i8 none n:=fun z=>hc (decide_eq_true z)
     refine⟨_,rfl,_,rfl,ln2,fun l hl=>?_⟩
     exact q _ _ (by simp only [iq];rw [if_neg hlt];exact⟨l,rfl,ae⟩) (ah.new hl)
  | some i =>
   refine⟨_,rfl,_,rfl,aV ⟨_,rfl,_,rfl,_,_,rfl,?_⟩⟩
   cases hi with
   | none =>
    refine⟨_,rfl,_,rfl,aV (aV ⟨_,rfl,_,rfl,ln2,fun l hl=>?_⟩)⟩
    exact q _ _ ⟨l,rfl,ae⟩ (ah.new hl)
   | some j =>
    refine⟨_,rfl,_,rfl,aW ⟨_,rfl,_,rfl,_,_,rfl,rfl,_,rfl,?_⟩⟩
    refine cM (fun hc=>?_) (fun hc=>?_)
    ·have hlt:j < i8 (some i) n:=of_decide_eq_true hc
     exact q _ _ (by simp only [iq];rw [if_pos hlt];rfl) (ah.refl H)
    ·have hlt:¬ j < i8 (some i) n:=fun z=>hc (decide_eq_true z)
     refine⟨_,rfl,_,rfl,ln2,fun l hl=>?_⟩
     exact q _ _ (by simp only [iq];rw [if_neg hlt];exact⟨l,rfl,ae⟩) (ah.new hl)
theorem tG {f:Addr} {fd:FuncData} (F:bZ K "part_at" "part_at" gI f fd) (Z:Bl mg) (O_lies_in:Own P w K mg base "lies_in" 1 ["number", "stretch"] (nR K)):bD P w K mg base bX 2 f fd ["stretch", "number"] (iI K j7):=by
  refine F.ok (k:=1) tw (fun vs H Q E h=>?_) (fun cdv A outer s H vs Q E hr h=>?_)
  · obtain⟨p,n,lo,hi,rfl,_⟩:=h
    rfl
  · obtain⟨p,n,lo,hi,rfl,hp,q⟩:=h
    refine⟨_,(ai (bu (gO (aC O_lies_in (hr.mono (by decide)) rfl (aa (pv 1) (aa (pv 0) af))))
      (ar (aH (bp (aa (pv 1) (aa (pv 1) af)))))
      aU)
      (ar (aH bC))),?_⟩
    refine⟨_,rfl,_,rfl,n,p,lo,hi,rfl,hp,_,rfl,?_⟩
    refine cM (fun hc=>?_) (fun hc=>?_)
    · refine⟨_,rfl,_,rfl,ln2,fun l hl=>?_⟩
      exact q _ _ (by simp only [j7,if_pos hc];exact⟨l,rfl,ae⟩) (ah.new hl)
    · exact q _ _ (by simp only [j7,if_neg hc];rfl) (ah.refl H)
theorem n4 {f:Addr} {fd:FuncData} (F:bZ K "part_beside" "part_beside" dQ f fd) (Z:Bl mg)  : bD P w K mg base bX 1 f fd ["stretch", "number"] (iI K i9):=by
 refine F.ok (k:=0) ia (fun vs H Q E h=>?_) (fun cdv A outer s H vs Q E hr h=>?_)
 ·obtain⟨p,n,lo,hi,rfl,_⟩:=h
  rfl
 ·obtain⟨p,n,lo,hi,rfl,hp,q⟩:=h
  refine⟨_,(ai (bT (pv 0) (cv rfl (aM (aF (i:=2) ia.nd rfl (Or.inl rfl)) (aM (aF (i:=3) ia.nd rfl (Or.inl rfl)) bU))))
   (ai (bu (PW.pt (fu (aP cg (pv 2) (pv 1) (aS _)) (fg (aP cg (pv 3) (pv 1) (aS _)))))
   (ar (aH bC))
   aU)
   (ai (bu (aP cg (pv 2) (pv 1) (aS _))
   (ar (aH (bp (aa (ba cL (pv 1) ao) (aa (pv 3) af)))))
   aU)
   (ai (bu (aP cg (pv 3) (pv 1) (aS _))
   (ar (aH (bp (aa (pv 2) (aa (ba fZ (pv 1) ao) af)))))
   aU)
   (ar (aH (bp (aa (pv 2) (aa (pv 3) af))))))))),?_⟩
  refine⟨_,rfl,p,_,rfl,hp,rfl,_,_,rfl,_,_,rfl,rfl,?_⟩
  refine⟨_,rfl,_,rfl,iD,_,rfl,?_⟩
  rw [jl]
  refine cM (fun hc=>?_) (fun hc=>?_)
  ·have h1:lo=some n:=of_decide_eq_true hc
   refine⟨_,rfl,_,rfl,iD,_,rfl,?_⟩
   rw [jl]
   refine cM (fun hd=>?_) (fun hd=>?_)
   ·have h2:hi=some n:=of_decide_eq_true hd
    exact q _ _ (by simp only [i9,if_pos h1,if_pos h2];rfl) (ah.refl H)
   ·have h2:¬ hi=some n:=fun z=>hd (decide_eq_true z)
    refine⟨_,rfl,_,rfl,iD,_,rfl,?_⟩
    rw [jl,hc]
    refine aW ⟨_,rfl,_,_,rfl,rfl,_,rfl,ln2,fun l hl=>?_⟩
    exact q _ _ (by simp only [i9,if_pos h1,if_neg h2];exact⟨l,rfl,ae⟩) (ah.new hl)
  ·have h1:¬ lo=some n:=fun z=>hc (decide_eq_true z)
   refine aV ?_
   refine⟨_,rfl,_,rfl,iD,_,rfl,?_⟩
   rw [jl,show decide (lo=some n)=false from decide_eq_false h1]
   refine aV ?_
   refine⟨_,rfl,_,rfl,iD,_,rfl,?_⟩
   rw [jl]
   refine cM (fun hd=>?_) (fun hd=>?_)
   ·have h2:hi=some n:=of_decide_eq_true hd
    refine⟨_,rfl,_,rfl,_,_,rfl,rfl,ln2,fun l hl=>?_⟩
    exact q _ _ (by simp only [i9,if_neg h1,if_pos h2];exact⟨l,rfl,ae⟩) (ah.new hl)
   ·have h2:¬ hi=some n:=fun z=>hd (decide_eq_true z)
    refine⟨_,rfl,_,rfl,ln2,fun l hl=>?_⟩
    exact q _ _ (by simp only [i9,if_neg h1,if_neg h2];exact⟨l,rfl,ae⟩) (ah.new hl)
theorem tH {f:Addr} {fd:FuncData} (F:bZ K "part_of" "part_of" gJ f fd) (Z:Bl mg) (O_part_below:Own P w K mg base "part_below" 1 ["stretch", "number"] (iI K gf)) (O_part_from:Own P w K mg base "part_from" 1 ["stretch", "number"] (iI K iq)) (O_part_at:Own P w K mg base "part_at" 2 ["stretch", "number"] (iI K j7)) (O_part_beside:Own P w K mg base "part_beside" 1 ["stretch", "number"] (iI K i9)):bD P w K mg base bX 3 f fd ["stretch", "word", "number", "side"] (nS K):=by
 refine F.ok (k:=2) tD (fun vs H Q E h=>?_) (fun cdv A outer s H vs Q E hr h=>?_)
 ·obtain⟨p,w,n,side,lo,hi,rfl,_⟩:=h
  rfl
 ·obtain⟨p,w,n,side,lo,hi,rfl,hp,q⟩:=h
  refine⟨_,(ai (bu (aP cg (pv 1) bF (aS _))
   (ar (aH (eW (gO (pv 3)) (aC O_part_below (hr.mono (by decide)) rfl (aa (pv 0) (aa (pv 2) af))) (aC O_part_from (hr.mono (by decide)) rfl (aa (pv 0) (aa (pv 2) af))))))
   aU)
   (ar (aH (eW (gO (pv 3)) (aC O_part_at (hr.mono (by decide)) rfl (aa (pv 0) (aa (pv 2) af))) (aC O_part_beside (hr.mono (by decide)) rfl (aa (pv 0) (aa (pv 2) af))))))),?_⟩
  refine⟨_,rfl,rfl,_,rfl,?_⟩
  by_cases hw:w = "less"
  ·subst hw
   rw [uf]
   refine aW ⟨_,rfl,_,rfl,?_⟩
   cases side with
   | true=>exact aW ⟨_,rfl,_,rfl,p,n,lo,hi,rfl,hp,fun v H1 r s1=>q v H1 (by simp only [dP,lr,if_true];exact r) s1⟩
   | false=>exact aV ⟨_,rfl,_,rfl,p,n,lo,hi,rfl,hp,fun v H1 r s1=>q v H1 (by simp only [dP,lr,if_true,Bool.false_eq_true,if_false];exact r) s1⟩
  ·have e:decide (V.str w=V.str "less")=false:=decide_eq_false fun z=>hw (V.str.inj z)
   rw [e]
   refine aV ⟨_,rfl,_,rfl,?_⟩
   cases side with
   | true=>exact aW ⟨_,rfl,_,rfl,p,n,lo,hi,rfl,hp,fun v H1 r s1=>q v H1 (by simp only [dP,rO,if_neg hw,if_true];exact r) s1⟩
   | false=>exact aV ⟨_,rfl,_,rfl,p,n,lo,hi,rfl,hp,fun v H1 r s1=>q v H1 (by simp only [dP,rO,if_neg hw,Bool.false_eq_true,if_false];exact r) s1⟩
theorem qG {f:Addr} {fd:FuncData} (F:bZ K "is_within" "is_within" fi f fd) (Z:Bl mg)  : bD P w K mg base bX 1 f fd ["one", "other"] (jr K):=by
 refine F.ok (k:=0) fD (fun vs H Q E h=>?_) (fun cdv A outer s H vs Q E hr h=>?_)
 ·obtain⟨p,q,s,t,rfl,_⟩:=h
  rfl
 ·obtain⟨p,q,s,t,rfl,hp,hq,k⟩:=h
  refine⟨_,(ai (bT (pv 1) (cv rfl (aM (aF (i:=2) fD.nd rfl (Or.inl rfl)) (aM (aF (i:=3) fD.nd rfl (Or.inl rfl)) bU))))
   (ai (aJ (i:=4) fD.nd rfl (Or.inl rfl) (kX (fY (cU (pv 2))) (eh (jG (fY (cA (aK aZ (pv 0) ao (fun _ _=>rfl)))) (eh (fH o6 (pv 2) (aK aZ (pv 0) ao (fun _ _=>rfl)) (aS _)))))))
   (ai (aJ (i:=5) fD.nd rfl (Or.inl rfl) (kX (fY (cU (pv 3))) (eh (jG (fY (cA (aK aZ (pv 0) ao (fun _ _=>rfl)))) (eh (fH o6 (aK aZ (pv 0) ao (fun _ _=>rfl)) (pv 3) (aS _)))))))
   (ar (aH (jG (pv 4) (eh (pv 5)))))))),?_⟩
  obtain⟨lo,hi⟩:=s
  obtain⟨lo2,hi2⟩:=t
  have k:Q (.bl (cy lo lo2 && bI hi hi2)) H:=k
  refine⟨_,rfl,q,_,rfl,hq,rfl,_,_,rfl,_,_,rfl,rfl,?_⟩
  cases lo2 with
  | none =>
   refine⟨_,rfl,_,rfl,aW ?_⟩
   cases hi2 with
   | none =>
    refine⟨_,rfl,_,rfl,aW ?_⟩
    exact⟨_,rfl,_,rfl,aW ⟨_,rfl,k⟩⟩
   | some b =>
    refine⟨_,rfl,_,rfl,aV ?_⟩
    refine⟨_,rfl,p,_,1,_,rfl,rfl,hp,cG,_,rfl,?_⟩
    cases hi with
    | none=>exact aV ⟨_,rfl,_,rfl,aW ⟨_,rfl,k⟩⟩
    | some c =>
     refine aW ⟨_,rfl,p,_,1,_,rfl,rfl,hp,cG,_,rfl,_,_,rfl,rfl,?_⟩
     exact⟨_,rfl,_,rfl,aW ⟨_,rfl,k⟩⟩
  | some a =>
   refine⟨_,rfl,_,rfl,aV ?_⟩
   refine⟨_,rfl,p,_,0,_,rfl,rfl,hp,cf,_,rfl,?_⟩
   cases lo with
   | none =>
    refine aV ?_
    cases hi2 with
    | none =>
     refine⟨_,rfl,_,rfl,aW ?_⟩
     exact⟨_,rfl,_,rfl,aV k⟩
    | some b =>
     refine⟨_,rfl,_,rfl,aV ?_⟩
     refine⟨_,rfl,p,_,1,_,rfl,rfl,hp,cG,_,rfl,?_⟩
     cases hi with
     | none=>exact aV ⟨_,rfl,_,rfl,aV k⟩
     | some c =>
      refine aW ⟨_,rfl,p,_,1,_,rfl,rfl,hp,cG,_,rfl,_,_,rfl,rfl,?_⟩
      exact⟨_,rfl,_,rfl,aV k⟩
   | some a' =>
    refine aW ⟨_,rfl,_,rfl,p,_,0,_,rfl,rfl,hp,cf,_,_,rfl,rfl,?_⟩
    cases hi2 with
    | none =>
     refine⟨_,rfl,_,rfl,aW ?_⟩
     refine⟨_,rfl,_,rfl,?_⟩
     cases hx:decide (a<=a') with
     | true=>exact aW ⟨_,rfl,by have k':=k;simp only [cy,bI,hx] at k';exact k'⟩
     | false=>exact aV (by have k':=k;simp only [cy,bI,hx] at k';exact k')
    | some b =>
     refine⟨_,rfl,_,rfl,aV ?_⟩
     refine⟨_,rfl,p,_,1,_,rfl,rfl,hp,cG,_,rfl,?_⟩
     cases hi with
     | none =>
      refine aV ⟨_,rfl,_,rfl,?_⟩
      cases hx:decide (a<=a') with
      | true=>exact aW ⟨_,rfl,by have k':=k;simp only [cy,bI,hx] at k';exact k'⟩
      | false=>exact aV (by have k':=k;simp only [cy,bI,hx] at k';exact k')
     | some c =>
      refine aW ⟨_,rfl,p,_,1,_,rfl,rfl,hp,cG,_,rfl,_,_,rfl,rfl,?_⟩
      refine⟨_,rfl,_,rfl,?_⟩
      cases hx:decide (a<=a') with
      | true=>exact aW ⟨_,rfl,by have k':=k;simp only [cy,bI,hx,Bool.true_and] at k';exact k'⟩
      | false=>exact aV (by have k':=k;simp only [cy,bI,hx,Bool.false_and] at k';exact k')
theorem qX {f:Addr} {fd:FuncData} (F:bZ K "facts_of" "facts_of" fL f fd) (Z:Bl mg) {aA:Addr} (GA:gQ K mg aA)  : bD P w K mg base bX 1 f fd ["stretches"] (iE aA):=by
 refine F.ok (k:=0) qU (fun vs H Q E h=>?_) (fun cdv A outer s H vs Q E hr h=>?_)
 ·obtain⟨d,kvs,ks,T,rfl,_⟩:=h
  rfl
 ·obtain⟨d,kvs,ks,T,rfl,hd,tb,hl,q⟩:=h
  refine⟨_,(ar (aH (bw bH rfl Z.tuple cN (aa (dJ ["name"] ["stretches"] [0] rfl (hR (bO (ja rfl) rfl Z.sorted jm (aa (pv 0) af))) rfl (by decide +kernel) (by decide +kernel) (by decide +kernel) ⟨⟨rfl,.inl rfl,rfl⟩,True.intro⟩ (fun _ _ _ _=>(aF (i:=0) (show ((["name"]:List Str)++(["stretches"]:List Str)).Nodup by decide +kernel) rfl (Or.inl rfl) (hf:=Or.inr rfl))) (fun _ _ _ _=>(nH (aP (yP (aA:=aA) hr.units GA) (iR (cm hr) (pv 1) (pv 0) (fun _ _=>rfl)) (fE (v:=.ref aA) rfl GA.lQ rfl) (aS _)))) (fun _ _ _ _=>(bp (aa (pv 0) (aa (iR (cm hr) (pv 1) (pv 0) (fun _ _=>rfl)) af))))) af)))),?_⟩
  refine⟨_,rfl,d,kvs,ks,rfl,hd,tb.keys,hl,fun l ss hp hs hn=>?_⟩
  have srt:jb ss:=⟨kH hs,hp.nodup_iff.mpr tb.nd⟩
  have hl1:(upd H l (.lst (ss.map V.str))) l=some (.lst (ss.map V.str)):=ae
  have s1:ah H (upd H l (.lst (ss.map V.str))):=ah.new hn
  have hssl:ss.length < 64:=by rw [hp.length_eq];exact hl
  generalize (upd H l (.lst (ss.map V.str)))=H1 at hl1 s1
  refine⟨l,rfl,⟨_,aX.of hl1⟩,fun acc na=>?_⟩
  refine kZ (K:=K) (a:=l) (xs:=ss.map V.str) (fun i ys τ H'=>∃ c:Option V,τ = [c,some (.ref d)]/\bg H' ys (((ss.take i).filter fun x=>!decide (T x=bE)).map (dF T))/\H' acc=some (.lst ys)/\ah H1 H') ?_ ?_ ?_ ?_
  ·exact⟨none,rfl,.nil,ae,ah.new na⟩
  ·rintro i ys τ H2 hi ⟨c,rfl,r,ha,s2⟩
   refine⟨aX.of (s2 _ _ hl1),ha,?_⟩
   have h1:=r.len
   rw [List.length_map] at h1
   have h2:=List.length_filter_le (fun x=>!decide (T x=bE)) (ss.take i)
   have h3:=List.length_take_le i ss
   have h4:(ss.take i).length<=ss.length:=by rw [List.length_take];omega
   exact br (by omega)
  ·rintro i x ys τ H2 hi ⟨c,rfl,r,ha,s2⟩
   obtain⟨y,hy,rfl⟩:∃ y,ss[i]? = some y/\x=V.str y:=by
    rw [List.getElem?_map] at hi
    cases e:ss[i]? with
    | none=>rw [e] at hi;cases hi
    | some k=>rw [e] at hi;exact⟨k,rfl,(Option.some.inj hi).symm⟩
   have hym:y ∈ ks:=hp.mem_iff.mp (List.mem_of_getElem? hy)
   have tk:ss.take (i+1)=ss.take i ++ [y]:=by rw [List.take_add_one,hy];rfl
   obtain⟨v,ev,sv,_⟩:∃ v,bG kvs (Sum.inr y)=some v/\SV aA H v (T y)/\y ∈ ks:=by
    rcases tb.val y with ⟨_,_,c⟩ | h
    ·exact absurd hym c
    ·exact h
   have sv2:SV aA H2 v (T y):=sv.aI fun p xs e=>s2 _ _ (s1 _ _ e)
   have hd2:H2 d=some (.dK kvs):=s2 _ _ (s1 _ _ hd)
   have dg:cR H2 d (.str y) (some v):=by
    have:=cR.k (k:=Sum.inr y) hd2
    rw [ev] at this
    exact this
   refine bM ?_
   refine⟨_,rfl,_,rfl,d,v,rfl,dg,T y,sv2,rfl,_,rfl,?_⟩
   by_cases hT:T y=bE
   ·refine bf (by rw [decide_eq_true hT];rfl) ?_
    refine⟨_,rfl,?_,ha,s2⟩
    rw [tk,List.filter_append,List.filter_cons_of_neg (by rw [decide_eq_true hT];decide),List.filter_nil,List.append_nil]
    exact r
   ·refine bY (by rw [decide_eq_false hT];rfl) ?_
    refine⟨_,rfl,_,rfl,_,rfl,d,v,rfl,dg,ln2,fun t nt=>?_⟩
    have s3:=ah.new (o:=.tup [.str y,v]) nt
    have ht:(upd H2 t (.tup [.str y,v])) t=some (.tup [.str y,v]):=ae
    generalize (upd H2 t (.tup [.str y,v]))=H3 at s3 ht
    have sh:SH H3 v (T y):=by
     rcases sv2 with h | ⟨_,h⟩
     ·exact h.aI fun p xs e=>s3 _ _ e
     ·exact absurd h hT
    have ha3:=s3 _ _ ha
    refine⟨ha3,_,rfl,?_,ae,(s2.trans s3).put na⟩
    rw [tk,List.filter_append,List.filter_cons_of_pos (by rw [decide_eq_false hT];rfl),List.filter_nil,List.map_append]
    refine bg.app ((r.same s3 (gR T _)).put ha3 (gR T _)) ?_
    refine bB.aI (H:=H3) (fun p zs e=>by rw [au (bA e ha3 (by intro z;cases z))];exact e) (.tup ht (.cons (.str y) (.cons sh.rd .nil))) ?_
    have:=gR T [y]
    simpa [cB] using this
  ·rintro ys τ H2 ⟨c,rfl,r,ha,s2⟩
   rw [List.length_map,List.take_length] at r
   refine⟨acc,ys,rfl,.inl ⟨aX.of ha,fun t nt=>?_⟩⟩
   refine q _ _ ⟨t,ys,_,rfl,ae,srt.filter _,fun x=>?_,r.same (ah.new nt) (gR T _)⟩ ((s1.trans s2).trans (ah.new nt))
   rw [List.mem_filter]
   constructor
   ·rintro⟨_,h⟩ e
    rw [decide_eq_true e] at h
    cases h
   ·intro h
    refine⟨?_,by rw [decide_eq_false h];rfl⟩
    rcases tb.val x with ⟨_,a,_⟩ | ⟨_,_,_,a⟩
    ·exact absurd a h
    ·exact hp.mem_iff.mpr a
theorem wx {f:Addr} {fd:FuncData} (F:bZ K "known" "known" iT f fd) (Z:Bl mg) {aA:Addr} (GA:gQ K mg aA)  : bD P w K mg base bX 1 f fd ["facts", "name"] (nP aA):=by
 refine F.ok (k:=0) wq (fun vs H Q E h=>?_) (fun cdv A outer s H vs Q E hr h=>?_)
 ·obtain⟨fv,x,T,rfl,_⟩:=h
  rfl
 ·obtain⟨fv,x,T,rfl,hf,q⟩:=h
  refine⟨_,(ar (aH (cV (cm hr) (bw (dY rfl) rfl Z.dict jL (aa (pv 0) af)) (pv 1) (fE (v:=.ref aA) rfl GA.lQ rfl) ⟨rfl,rfl,rfl,rfl⟩))),?_⟩
  obtain⟨fp,xs,ss,rfl,hfp,srt,hmem,rf⟩:=hf
  obtain⟨kvs,l1,l2,l3,tb⟩:=FV.tb aA srt hmem rf
  refine⟨_,rfl,fp,xs,kvs,rfl,hfp,l1,l2,l3,fun d nd=>?_⟩
  obtain⟨v,ev,sv⟩:=tb.getD x
  exact⟨d,rfl,.inl ⟨kvs,.inl ae⟩,_,rfl,_,v,cR.k (k:=Sum.inr x) ae,ev,q v _ (sv.aI fun p zs e=>ah.new nd _ _ e) (ah.new nd)⟩
theorem oX {f:Addr} {fd:FuncData} (F:bZ K "with_known" "with_known" eJ f fd) (Z:Bl mg) {aA:Addr} (GA:gQ K mg aA) (O_facts_of:Own P w K mg base "facts_of" 1 ["stretches"] (iE aA)):bD P w K mg base bX 2 f fd ["facts", "name", "stretch"] (jA aA):=by
 refine F.ok (k:=1) ka (fun vs H Q E h=>?_) (fun cdv A outer s H vs Q E hr h=>?_)
 ·obtain⟨fv,sv,x,T,s,rfl,_⟩:=h
  rfl
 ·obtain⟨fv,sv,x,T,s,rfl,hf,hs,bL,q⟩:=h
  refine⟨_,(ai (aJ (i:=3) ka.nd rfl (Or.inl rfl) (bw (dY rfl) rfl Z.dict jL (aa (pv 0) af)))
   (ai (eD (cm hr) (pv 3) (pv 1) (pv 2) rfl)
   (ar (aH (aC O_facts_of (hr.mono (by decide)) rfl (aa (pv 3) af)))))),?_⟩
  obtain⟨fp,xs,ss,rfl,hfp,srt,hmem,rf⟩:=hf
  obtain⟨kvs,l1,l2,l3,tb⟩:=FV.tb aA srt hmem rf
  have hssl:ss.length<=62:=bL ss (fun x hx=>(hmem x).mp hx) srt.nd
  have kl:kvs.length=ss.length:=by have:=congrArg List.length tb.keys;simpa using this
  refine⟨_,rfl,fp,xs,kvs,rfl,hfp,l1,l2,l3,fun d nd=>?_⟩
  have k1:∀ p zs,H p=some (.tup zs)->(upd H d (.dK kvs)) p=some (.tup zs):=fun p zs e=>ah.new nd _ _ e
  refine⟨_,rfl,_,rfl,_,rfl,d,_,rfl,gx.k (k:=Sum.inr x) ae (br (by omega)),?_⟩
  obtain⟨ks2,t2,k2,m2⟩:=(tb.aI k1).put x (hs.aI k1)
  have hd1:(upd H d (.dK kvs)) d=some (.dK kvs):=ae
  refine⟨_,rfl,d,_,ks2,_,rfl,ae,t2.aI (fun p zs e=>by rw [au (bA e hd1 (by intro z;cases z))];exact e),(by omega),fun v H2 f2 s2=>q v H2 f2 (((ah.new nd).put nd).trans s2)⟩
theorem uT {f:Addr} {fd:FuncData} (F:bZ K "covers" "covers" ib f fd) (Z:Bl mg) {aA:Addr} (GA:gQ K mg aA) (O_is_within:Own P w K mg base "is_within" 1 ["one", "other"] (jr K)):bD P w K mg base bX 2 f fd ["facts", "others"] mz:=by
 refine F.ok (k:=1) oJ (fun vs H Q E h=>?_) (fun cdv A outer s H vs Q E hr h=>?_)
 ·obtain⟨fv,gv,T,U,rfl,_⟩:=h
  rfl
 ·obtain⟨fv,gv,T,U,rfl,hf,hg,bL,q⟩:=h
  refine⟨_,(ai (aJ (i:=2) oJ.nd rfl (Or.inr rfl) (bw (dY rfl) rfl Z.dict jL (aa (pv 1) af)))
   (ar (aH (bO (uC rfl) rfl Z.all yQ (aa (dJ ["name", "stretch"] ["stretches"] [2] rfl (e7 (pv 0)) rfl (by decide +kernel) (by decide +kernel) (by decide +kernel) ⟨⟨rfl,.inl rfl,rfl⟩,True.intro⟩ (fun _ _ _ _=>(lg (K:=K) (n:=2) rfl (cv (n:=2) rfl (aM (aF (i:=0) (show ((["name", "stretch"]:List Str)++(["stretches"]:List Str)).Nodup by decide +kernel) rfl (Or.inl rfl) (hf:=Or.inr rfl)) (aM (aF (i:=1) (show ((["name", "stretch"]:List Str)++(["stretches"]:List Str)).Nodup by decide +kernel) rfl (Or.inl rfl) (hf:=Or.inr rfl)) bU))))) (fun _ _ _ _=>er) (fun _ _ _ _=>(aC O_is_within (hr.mono (by decide)) rfl (aa (cV (cm hr) (pv 2) (pv 0) (fE (v:=.ref aA) rfl GA.lQ rfl) ⟨rfl,rfl,rfl,rfl⟩) (aa (pv 1) af))))) af))))),?_⟩
  obtain⟨fp,xs,ss,rfl,hfp,srt,hmem,rf⟩:=hf
  obtain⟨gp,ys0,ss0,rfl,hgp,srt0,hmem0,rg⟩:=hg
  obtain⟨kvs,l1,l2,l3,tb⟩:=FV.tb aA srt0 hmem0 rg
  refine⟨_,rfl,gp,ys0,kvs,rfl,hgp,l1,l2,l3,fun d nd=>?_⟩
  have s0:=ah.new (o:=.dK kvs) nd
  have hd0:(upd H d (.dK kvs)) d=some (.dK kvs):=ae
  have rf2:=rf.same s0 (gR T ss)
  have hfp2:=s0 _ _ hfp
  have tb2:=tb.aI fun p zs e=>s0 _ _ e
  generalize (upd H d (.dK kvs))=HH at s0 hd0 rf2 hfp2 tb2
  refine⟨_,rfl,fp,rfl,⟨_,ay.of hfp2⟩,fun acc na=>?_⟩
  refine mU (K:=K) (a:=fp) (xs:=xs) (fun i ys τ H'=>∃ c1 c2:Option V,τ = [c1,c2,some (.ref d)]/\ys=((ss.take i).map fun y=>cw (U y) (T y)).map V.bl/\H' acc=some (.lst ys)/\ah HH H') ?_ ?_ ?_ ?_
  ·exact⟨none,none,rfl,rfl,ae,ah.new na⟩
  ·rintro i ys τ H1 hi ⟨c1,c2,rfl,rfl,ha,s1⟩
   refine⟨ay.of (s1 _ _ hfp2),ha,?_⟩
   rw [List.length_map,List.length_map,List.length_take]
   have h1:=bL ss (fun x hx=>(hmem x).mp hx) srt.nd
   exact br (by omega)
  ·rintro i x ys τ H1 hi ⟨c1,c2,rfl,rfl,ha,s1⟩
   have hil:i < ss.length:=by
    have:=(List.getElem?_eq_some_iff.mp hi).1
    rw [rf2.len,List.length_map] at this
    exact this
   have hyi:ss[i]? = some ss[i]:=by simp [hil]
   generalize ss[i] = y at hyi
   obtain⟨v,hv,rd⟩:=rf2.get (i:=i) (d:=dF T y) (by rw [List.getElem?_map,hyi];rfl)
   rw [hi] at hv
   cases hv
   obtain⟨t,q2,rfl,ht,hq2⟩:=uF rd
   refine⟨t,_,rfl,ay.of (s1 _ _ ht),rfl,_,_,rfl,_,_,rfl,rfl,?_⟩
   refine jw ?_
   refine aW ?_
   obtain⟨u,eu,su⟩:=(tb2.aI fun p zs e=>s1 _ _ e).getD y
   obtain⟨qa,rfl,hqa⟩:=su.sq GA
   refine⟨_,rfl,d,rfl,.inl ⟨kvs,.inl (s1 _ _ hd0)⟩,_,rfl,_,_,cR.k (k:=Sum.inr y) (s1 _ _ hd0),eu,_,rfl,qa,q2,U y,T y,rfl,hqa,ay.of (s1 _ _ hq2),?_⟩
   refine⟨ha,_,_,rfl,?_,ae,s1.put na⟩
   rw [List.take_add_one,hyi,Option.toList_some,List.map_append,List.map_append]
   rfl
  ·rintro ys τ H1 ⟨c1,c2,rfl,rfl,ha,s1⟩
   have hxl:xs.length=ss.length:=by rw [rf2.len,List.length_map]
   rw [hxl,List.take_length] at ha
   refine⟨acc,_,rfl,aX.of ha,?_⟩
   exact q _ H1 (uK hmem) (s0.trans s1)
theorem wy {f:Addr} {fd:FuncData} (F:bZ K "moved" "moved" iU f fd) (Z:Bl mg)  : bD P w K mg base bX 1 f fd ["stretch", "number"] (nM K):=by
 refine F.ok (k:=0) mK (fun vs H Q E h=>?_) (fun cdv A outer s H vs Q E hr h=>?_)
 ·obtain⟨p,s,n,rfl,_⟩:=h
  rfl
 ·obtain⟨p,s,n,rfl,hp,q⟩:=h
  refine⟨_,(ai (bT (pv 0) (cv rfl (aM (aF (i:=2) mK.nd rfl (Or.inl rfl)) (aM (aF (i:=3) mK.nd rfl (Or.inl rfl)) bU))))
   (ar (aH (bp (aa (eW (bW (cU (pv 2))) bC (ba cL (pv 2) (pv 1))) (aa (eW (bW (cU (pv 3))) bC (ba cL (pv 3) (pv 1))) af)))))),?_⟩
  obtain⟨lo,hi⟩:=s
  refine⟨_,rfl,p,_,rfl,hp,rfl,_,_,rfl,_,_,rfl,rfl,?_⟩
  cases lo with
  | none =>
   refine⟨_,rfl,_,rfl,aW ?_⟩
   cases hi with
   | none=>exact⟨_,rfl,_,rfl,aW ⟨ln2,fun t nt=>q _ _ ⟨t,rfl,ae⟩ (ah.new nt)⟩⟩
   | some b=>exact⟨_,rfl,_,rfl,aV ⟨_,rfl,_,rfl,_,_,rfl,rfl,ln2,fun t nt=>q _ _ ⟨t,rfl,ae⟩ (ah.new nt)⟩⟩
  | some a =>
   refine⟨_,rfl,_,rfl,aV ⟨_,rfl,_,rfl,_,_,rfl,rfl,?_⟩⟩
   cases hi with
   | none=>exact⟨_,rfl,_,rfl,aW ⟨ln2,fun t nt=>q _ _ ⟨t,rfl,ae⟩ (ah.new nt)⟩⟩
   | some b=>exact⟨_,rfl,_,rfl,aV ⟨_,rfl,_,rfl,_,_,rfl,rfl,ln2,fun t nt=>q _ _ ⟨t,rfl,ae⟩ (ah.new nt)⟩⟩
theorem lM {f:Addr} {fd:FuncData} (F:bZ K "stretch_behind" "stretch_behind" cS f fd) (Z:Bl mg) {aA:Addr} (GA:gQ K mg aA) (O_moved:Own P w K mg base "moved" 1 ["stretch", "number"] (nM K)):bD P w K mg base bX 2 f fd ["stretches", "deed"] (j1 aA):=by
  refine F.ok (k:=1) iL (fun vs H Q E h=>?_) (fun cdv A outer s H vs Q E hr h=>?_)
  · obtain⟨d,w,kvs,ks,T,dd,rfl,_⟩:=h
    rfl
  · obtain⟨d,w,kvs,ks,T,dd,rfl,hd,tb,hw,q⟩:=h
    refine⟨_,(ai (dW (x9 (i:=2) (j:=3) rfl iL.nd rfl rfl (by decide) rfl rfl (aa (aK aZ (pv 1) ao (fun _ _=>rfl)) (aa (aK aZ (pv 1) ao (fun _ _=>rfl)) af)) rfl))
      (ai (bu (aP cg (pv 2) bF (aS _))
      (ar (aH (bp (aa (aK aZ (pv 1) ao (fun _ _=>rfl)) (aa (aK aZ (pv 1) ao (fun _ _=>rfl)) af)))))
      aU)
      (ai (bu (aP cg (pv 2) bF (aS _))
      (ar (aH (cV (cm hr) (pv 0) (aK aZ (pv 1) ao (fun _ _=>rfl)) (fE (v:=.ref aA) rfl GA.lQ rfl) ⟨rfl,rfl,rfl,rfl⟩)))
      aU)
      (ai (bu (aP cg (pv 2) bF (aS _))
      (ar (aH (aC O_moved (hr.mono (by decide)) rfl (aa (cV (cm hr) (pv 0) (pv 3) (fE (v:=.ref aA) rfl GA.lQ rfl) ⟨rfl,rfl,rfl,rfl⟩) (aa (aK aZ (pv 1) ao (fun _ _=>rfl)) af)))))
      aU)
      (ai (bu (aP cg (pv 2) bF (aS _))
      (ar (aH (fE (v:=.ref aA) rfl GA.lQ rfl)))
      aU)
      (ar (aH (cV (cm hr) (pv 0) (pv 3) (fE (v:=.ref aA) rfl GA.lQ rfl) ⟨rfl,rfl,rfl,rfl⟩)))))))),?_⟩
    cases dd
    case put x n =>
      refine⟨fun σ' H'=>σ' = [some (.ref d),some (.ref w),some (.str "put"),some (.str x)]/\H=H',⟨_,rfl,w,_,0,_,rfl,rfl,ay.of hw,cf,_,rfl,w,_,1,_,rfl,rfl,ay.of hw,cG,_,_,rfl,rfl,rfl⟩,?_⟩
      rintro σ' H' ⟨rfl,rfl⟩
      refine⟨_,rfl,rfl,_,rfl,?_⟩
      refine bY (show decide (V.str "put" = V.str "put")=true by decide +kernel) ?_
      exact⟨_,rfl,w,_,2,_,rfl,rfl,ay.of hw,at2,_,rfl,w,_,2,_,rfl,rfl,ay.of hw,at2,ln2,fun t nt=>q _ _ (.inl ⟨t,rfl,ae⟩) (ah.new nt)⟩
    case copy x y =>
      refine⟨fun σ' H'=>σ' = [some (.ref d),some (.ref w),some (.str "copy"),some (.str x)]/\H=H',⟨_,rfl,w,_,0,_,rfl,rfl,ay.of hw,cf,_,rfl,w,_,1,_,rfl,rfl,ay.of hw,cG,_,_,rfl,rfl,rfl⟩,?_⟩
      rintro σ' H' ⟨rfl,rfl⟩
      refine⟨_,rfl,rfl,_,rfl,?_⟩
      refine bf (show decide (V.str "copy" = V.str "put")=false by decide +kernel) ?_
      refine⟨_,rfl,rfl,_,rfl,?_⟩
      refine bY (show decide (V.str "copy" = V.str "copy")=true by decide +kernel) ?_
      obtain⟨v,ev,sv⟩:=tb.getD y
      exact⟨_,rfl,d,rfl,.inl ⟨kvs,.inl hd⟩,_,rfl,w,_,2,_,rfl,rfl,ay.of hw,at2,_,v,cR.k (k:=Sum.inr y) hd,ev,q _ _ sv (ah.refl H)⟩
    case add x n =>
      refine⟨fun σ' H'=>σ' = [some (.ref d),some (.ref w),some (.str "add"),some (.str x)]/\H=H',⟨_,rfl,w,_,0,_,rfl,rfl,ay.of hw,cf,_,rfl,w,_,1,_,rfl,rfl,ay.of hw,cG,_,_,rfl,rfl,rfl⟩,?_⟩
      rintro σ' H' ⟨rfl,rfl⟩
      refine⟨_,rfl,rfl,_,rfl,?_⟩
      refine bf (show decide (V.str "add" = V.str "put")=false by decide +kernel) ?_
      refine⟨_,rfl,rfl,_,rfl,?_⟩
      refine bf (show decide (V.str "add" = V.str "copy")=false by decide +kernel) ?_
      refine⟨_,rfl,rfl,_,rfl,?_⟩
      refine bY (show decide (V.str "add" = V.str "add")=true by decide +kernel) ?_
      obtain⟨v,ev,sv⟩:=tb.getD x
      obtain⟨qa,rfl,hqa⟩:=sv.sq GA
      exact⟨_,rfl,d,rfl,.inl ⟨kvs,.inl hd⟩,_,rfl,_,_,cR.k (k:=Sum.inr x) hd,ev,_,rfl,w,_,2,_,rfl,rfl,ay.of hw,at2,qa,T x,n,rfl,hqa,fun v H' sh s1=>q _ _ (.inl sh) s1⟩
    case read x =>
      refine⟨fun σ' H'=>σ' = [some (.ref d),some (.ref w),some (.str "read"),some (.str x)]/\H=H',⟨_,rfl,w,_,0,_,rfl,rfl,ay.of hw,cf,_,rfl,w,_,1,_,rfl,rfl,ay.of hw,cG,_,_,rfl,rfl,rfl⟩,?_⟩
      rintro σ' H' ⟨rfl,rfl⟩
      refine⟨_,rfl,rfl,_,rfl,?_⟩
      refine bf (show decide (V.str "read" = V.str "put")=false by decide +kernel) ?_
      refine⟨_,rfl,rfl,_,rfl,?_⟩
      refine bf (show decide (V.str "read" = V.str "copy")=false by decide +kernel) ?_
      refine⟨_,rfl,rfl,_,rfl,?_⟩
      refine bf (show decide (V.str "read" = V.str "add")=false by decide +kernel) ?_
      refine⟨_,rfl,rfl,_,rfl,?_⟩
      refine bY (show decide (V.str "read" = V.str "read")=true by decide +kernel) ?_
      exact q _ _ (.inr ⟨rfl,rfl⟩) (ah.refl H)
    case tell x =>
      refine⟨fun σ' H'=>σ' = [some (.ref d),some (.ref w),some (.str "tell"),some (.str x)]/\H=H',⟨_,rfl,w,_,0,_,rfl,rfl,ay.of hw,cf,_,rfl,w,_,1,_,rfl,rfl,ay.of hw,cG,_,_,rfl,rfl,rfl⟩,?_⟩
      rintro σ' H' ⟨rfl,rfl⟩
      refine⟨_,rfl,rfl,_,rfl,?_⟩
      refine bf (show decide (V.str "tell" = V.str "put")=false by decide +kernel) ?_
      refine⟨_,rfl,rfl,_,rfl,?_⟩
      refine bf (show decide (V.str "tell" = V.str "copy")=false by decide +kernel) ?_
      refine⟨_,rfl,rfl,_,rfl,?_⟩
      refine bf (show decide (V.str "tell" = V.str "add")=false by decide +kernel) ?_
      refine⟨_,rfl,rfl,_,rfl,?_⟩
      refine bf (show decide (V.str "tell" = V.str "read")=false by decide +kernel) ?_
      obtain⟨v,ev,sv⟩:=tb.getD x
      exact⟨_,rfl,d,rfl,.inl ⟨kvs,.inl hd⟩,_,rfl,_,v,cR.k (k:=Sum.inr x) hd,ev,q _ _ sv (ah.refl H)⟩
theorem uU {f:Addr} {fd:FuncData} (F:bZ K "behind" "behind" ic f fd) (Z:Bl mg) {aA:Addr} (GA:gQ K mg aA) (O_stretch_behind:Own P w K mg base "stretch_behind" 2 ["stretches", "deed"] (j1 aA)) (O_facts_of:Own P w K mg base "facts_of" 1 ["stretches"] (iE aA)):bD P w K mg base bX 3 f fd ["facts", "deeds"] kL:=by
 refine F.ok (k:=2) kR (fun vs H Q E h=>?_) (fun cdv A outer s H vs Q E hr h=>?_)
 ·obtain⟨fv,p,ws,ds,T,pool,rfl,_⟩:=h
  rfl
 ·obtain⟨fv,p,ws,ds,T,pool,rfl,hf,hp,r,tok,dok,h64,q⟩:=h
  refine⟨_,(ai (aJ (i:=2) kR.nd rfl (Or.inl rfl) (bw (dY rfl) rfl Z.dict jL (aa (pv 0) af)))
   (ai (dH PassesOwn.never rfl (e7 (pv 1)) (aF (i:=3) kR.nd rfl (Or.inl rfl))
   (ar (eD (cm hr) (pv 2) (aK aZ (pv 3) ao (fun _ _=>rfl)) (aC O_stretch_behind (hr.mono (by decide)) rfl (aa (pv 2) (aa (pv 3) af))) rfl)))
   (ar (aH (aC O_facts_of (hr.mono (by decide)) rfl (aa (pv 2) af)))))),?_⟩
  obtain⟨fp,xs,ss,rfl,hfp,srt,hmem,rf⟩:=hf
  obtain⟨kvs,l1,l2,l3,tb⟩:=FV.tb aA srt hmem rf
  have hssl:∀ x ∈ ss,x ∈ pool:=fun x hx=>tok.sup x ((hmem x).mp hx)
  refine⟨_,rfl,fp,xs,kvs,rfl,hfp,l1,l2,l3,fun d nd=>?_⟩
  have tb1:Tb aA (upd H d (.dK kvs)) kvs ss T:=tb.aI fun p xs e=>ah.new nd _ _ e
  refine⟨_,rfl,p,rfl,⟨_,ay.of (ah.new nd _ _ hp)⟩,hV (K:=K) (a:=p) (xs:=ws) (fun i σ H'=>∃ (c:Option V) (kvs':List (Key × V)) (ks':List Str),σ = [some (.ref fp),some (.ref p),some (.ref d),c]/\H' d=some (.dK kvs')/\Tb aA H' kvs' ks' (bx T (ds.take i))/\(∀ y ∈ ks',y ∈ pool)/\ah H H') ?_ ?_ ?_ ?_⟩
  ·exact⟨none,kvs,ss,rfl,ae,tb1,hssl,ah.new nd⟩
  ·rintro i σ H1 hi ⟨c,kvs1,ks1,rfl,h1,t1,k1,s1⟩
   exact ay.of (s1 _ _ hp)
  ·rintro i x σ H1 hi ⟨c,kvs1,ks1,rfl,h1,t1,k1,s1⟩
   have hil:i < ds.length:=by
    have:=(List.getElem?_eq_some_iff.mp hi).1
    rw [r.len,List.length_map] at this
    exact this
   have hdi:ds[i]? = some ds[i]:=by simp [hil]
   generalize ds[i] = dd at hdi
   obtain⟨v,hv,rd⟩:=r.get (i:=i) (d:=dN dd) (by rw [List.getElem?_map,hdi];rfl)
   rw [hi] at hv
   cases hv
   obtain⟨dp,rfl,hdp⟩:=gC rd
   have tk:bx T (ds.take (i+1))=sX (bx T (ds.take i)) dd:=by
    unfold bx
    rw [List.take_add_one,hdi,Option.toList_some,List.foldl_append]
    rfl
   refine bM ?_
   refine⟨_,rfl,_,rfl,d,dp,kvs1,ks1,_,dd,rfl,h1,t1,s1 _ _ hdp,fun v H2 sv s2=>?_⟩
   have h2:=s2 _ _ h1
   have kl:kvs1.length=ks1.length:=by have:=congrArg List.length t1.keys;simpa using this
   have kl2:=sub_len t1.nd k1
   refine⟨_,rfl,_,rfl,dp,_,1,_,rfl,rfl,ay.of (s2 _ _ (s1 _ _ hdp)),p9 dd,d,_,rfl,gx.k (k:=Sum.inr (ef dd)) h2 (br (by omega)),?_⟩
   obtain⟨ks2,t2,_,k2⟩:=(t1.aI fun p xs e=>s2 _ _ e).put (ef dd) sv
   have hdn:ef dd ∈ pool:=(dok dd (List.mem_of_getElem? hdi)).name
   refine⟨_,_,ks2,rfl,ae,?_,(fun y hy=>((k2 y).mp hy).elim (k1 y) fun e=>e ▸ hdn),(s1.trans s2).put nd⟩
   rw [tk]
   exact t2.aI fun p xs e=>by rw [au (bA e h2 (by intro z;cases z))];exact e
  ·rintro σ H1 ⟨c,kvs1,ks1,rfl,h1,t1,k1,s1⟩
   have hwl:ws.length=ds.length:=by rw [r.len,List.length_map]
   rw [hwl,List.take_length] at t1
   refine⟨_,rfl,d,kvs1,ks1,_,rfl,h1,t1,(by have:=sub_len t1.nd k1;omega),fun v H2 f2 s2=>q v H2 f2 (s1.trans s2)⟩
theorem nz {f:Addr} {fd:FuncData} (F:bZ K "known_beyond" "known_beyond" dE f fd) (Z:Bl mg) {aA:Addr} (GA:gQ K mg aA) (O_ways_on:Own P w K mg base "ways_on" 3 ["end"] m7) (O_known:Own P w K mg base "known" 1 ["facts", "name"] (nP aA)) (O_part_of:Own P w K mg base "part_of" 3 ["stretch", "word", "number", "side"] (nS K)) (O_with_known:Own P w K mg base "with_known" 2 ["facts", "name", "stretch"] (jA aA)):bD P w K mg base bX 4 f fd ["facts", "end"] (mB aA):=by
  refine F.ok (k:=3) cP (fun vs H Q E h=>?_) (fun cdv A outer s H vs Q E hr h=>?_)
  · obtain⟨fv,ea,T,e,rfl,_⟩:=h
    rfl
  · obtain⟨fv,ea,T,e,rfl,hf,he,bL,q⟩:=h
    refine⟨_,(ai (aJ (i:=2) cP.nd rfl (Or.inl rfl) (aC O_ways_on (hr.mono (by decide)) rfl (aa (pv 1) af)))
      (ai (bu (aP jg (bO cE rfl Z.len fA (aa (pv 2) af)) ao (aS _))
      (ar (aH (bw bH rfl Z.tuple cN (aa (dJ ["way"] ["facts"] [0] rfl (e7 (pv 2)) rfl (by decide +kernel) (by decide +kernel) (by decide +kernel) ⟨⟨rfl,.inl rfl,rfl⟩,True.intro⟩ (fun _ _ _ _=>(aF (i:=0) (show ((["way"]:List Str)++(["facts"]:List Str)).Nodup by decide +kernel) rfl (Or.inl rfl) (hf:=Or.inr rfl))) (fun _ _ _ _=>er) (fun _ _ _ _=>(pv 1))) af))))
      aU)
      (ai (dW (bT (bp (aa (aK aZ (pv 1) ao (fun _ _=>rfl)) (aa (aK aZ (pv 1) ao (fun _ _=>rfl)) (aa (aK aZ (pv 1) ao (fun _ _=>rfl)) af)))) (cv rfl (aM (aF (i:=3) cP.nd rfl (Or.inr rfl)) (aM (aF (i:=4) cP.nd rfl (Or.inr rfl)) (aM (aF (i:=5) cP.nd rfl (Or.inr rfl)) bU))))))
      (ai (aJ (i:=6) cP.nd rfl (Or.inr rfl) (aC O_known (hr.mono (by decide)) rfl (aa (pv 0) (aa (pv 4) af))))
      (ai (pV (i:=7) ["side"] ["stretch", "word", "number"] [6,3,5] rfl cP.nd rfl rfl rfl (e7 (bp (aa dz (aa dz af)))) rfl (by decide +kernel) (by decide +kernel) (by decide +kernel) ⟨⟨rfl,.inl rfl,rfl⟩,⟨⟨rfl,.inl rfl,rfl⟩,⟨⟨rfl,.inl rfl,rfl⟩,True.intro⟩⟩⟩ (fun _ _ _ _=>(aF (i:=0) (show ((["side"]:List Str)++(["stretch", "word", "number"]:List Str)).Nodup by decide +kernel) rfl (Or.inl rfl) (hf:=Or.inr rfl))) (fun _ _ _ _=>er) (fun _ _ _ _=>(aC O_part_of (hr.mono (by decide)) rfl (aa (pv 1) (aa (pv 2) (aa (pv 3) (aa (pv 0) af)))))))
      (ar (aH (bw bH rfl Z.tuple cN (aa (dJ ["part"] ["facts", "name"] [0,4] rfl (hR (pv 7)) rfl (by decide +kernel) (by decide +kernel) (by decide +kernel) ⟨⟨rfl,.inl rfl,rfl⟩,⟨⟨rfl,.inl rfl,rfl⟩,True.intro⟩⟩ (fun _ _ _ _=>(aF (i:=0) (show ((["part"]:List Str)++(["facts", "name"]:List Str)).Nodup by decide +kernel) rfl (Or.inl rfl) (hf:=Or.inr rfl))) (fun _ _ _ _=>er) (fun _ _ _ _=>(eW (bW (cU (pv 0))) bC (aC O_with_known (hr.mono (by decide)) rfl (aa (pv 1) (aa (pv 2) (aa (pv 0) af))))))) af))))))))),?_⟩
    refine⟨_,rfl,ea,e,rfl,he,fun wt H1 hw s1=>?_⟩
    have he1:=s1 _ _ he
    have hf1:=hf.same s1
    refine⟨_,rfl,wt,_,rfl,.inr (ay.of hw),_,_,rfl,rfl,_,rfl,?_⟩
    by_cases hl:(cJ e).length < 2
    · refine bY (decide_eq_true (by rw [List.length_map];omega)) ?_
      refine⟨_,rfl,wt,rfl,⟨_,ay.of hw⟩,fun acc na=>?_⟩
      refine mU (K:=K) (a:=wt) (xs:=(cJ e).map fun k=>V.int (k:Nat)) (fun i zs τ H'=>∃ c:Option V,τ = [c,some fv]/\zs=List.replicate i fv/\H' acc=some (.lst zs)/\ah H1 H') ?_ ?_ ?_ ?_
      · exact⟨none,rfl,rfl,ae,ah.new na⟩
      · rintro i zs τ H2 hi ⟨c,rfl,rfl,ha,s2⟩
        refine⟨ay.of (s2 _ _ hw),ha,?_⟩
        rw [List.length_replicate]
        rw [List.length_map] at hi
        exact br (by omega)
      · rintro i x zs τ H2 hi ⟨c,rfl,rfl,ha,s2⟩
        refine bM ?_
        refine jw ?_
        refine aW ?_
        refine⟨_,rfl,ha,_,rfl,?_,ae,s2.put na⟩
        rw [<-List.replicate_succ']
      · rintro zs τ H2 ⟨c,rfl,rfl,ha,s2⟩
        rw [List.length_map] at ha
        refine⟨acc,_,rfl,.inl ⟨aX.of ha,fun t nt=>?_⟩⟩
        refine q t _ _ ae ?_ ((s1.trans s2).trans (ah.new nt))
        rw [xH hl]
        exact rW (hf1.same (s2.trans (ah.new nt))) _
    · refine bf (decide_eq_false (by rw [List.length_map];omega)) ?_
      cases e with
      | stop=>exact absurd (by show 0 < 2;omega) hl
      | go p=>exact absurd (by show 1 < 2;omega) hl
      | d6 b x n p r =>
        refine⟨fun σ' H'=>σ' = [some fv,some (.ref ea),some (.ref wt),some (.str (wT b)),some (.str x),some (.int n),none,none]/\ah H1 H',?_,?_⟩
        · refine⟨_,rfl,ea,_,0,_,rfl,rfl,ay.of he1,cf,_,rfl,ea,_,1,_,rfl,rfl,ay.of he1,cG,_,rfl,ea,_,2,_,rfl,rfl,ay.of he1,at2,pR,fun tt htt=>?_⟩
          exact⟨tt,_,rfl,ay.of ae,rfl,_,_,rfl,_,_,rfl,_,_,rfl,rfl,rfl,ah.new htt⟩
        rintro σ' H2 ⟨rfl,s2⟩
        refine⟨_,rfl,_,rfl,fv,x,T,rfl,hf1.same s2,fun sv H3 hsv s3=>?_⟩
        obtain⟨sp,rfl,hsp⟩:=hsv.sq GA
        have s13:=s2.trans s3
        refine⟨ln2,fun st hst=>⟨st,rfl,⟨_,ay.of ae⟩,fun acc na=>?_⟩⟩
        have s4:=ah.new (o:=.tup [.bl true,.bl false]) hst
        have hst4:(upd H3 st (.tup [.bl true,.bl false])) st=some (.tup [.bl true,.bl false]):=ae
        generalize (upd H3 st (.tup [.bl true,.bl false]))=H4 at s4 hst4 na
        refine mU (K:=K) (a:=st) (xs:=[.bl true,.bl false]) (fun i zs τ H'=>∃ c:Option V,τ = [c,some (.ref sp),some (.str (wT b)),some (.int n)]/\lU H' zs ([iK T b x n true,iK T b x n false].take i)/\H' acc=some (.lst zs)/\ah H4 H') ?_ ?_ ?_ ?_
        · exact⟨none,rfl,.nil,ae,ah.new na⟩
        · rintro i zs τ H5 hi ⟨c,rfl,rv,ha,s5⟩
          refine⟨ay.of (s5 _ _ hst4),ha,?_⟩
          have h1:=Paired.length rv
          rw [List.length_take] at h1
          exact br (by rw [h1];exact Nat.le_trans (Nat.min_le_right _ _) (by show 2<=1000;decide))
        · rintro i y zs τ H5 hi ⟨c,rfl,rv,ha,s5⟩
          obtain⟨side,rfl,hsd⟩:∃ side:Bool,y=.bl side/\[iK T b x n true,iK T b x n false][i]? = some (iK T b x n side):=by
            match i,hi with
            | 0,hi=>cases hi;exact⟨true,rfl,rfl⟩
            | 1,hi=>cases hi;exact⟨false,rfl,rfl⟩
            | i+2,hi=>simp at hi
          refine bM ?_
          refine jw ?_
          refine aW ?_
          refine⟨_,rfl,_,rfl,_,rfl,_,rfl,sp,wT b,n,side,_,_,rfl,hsp.same (s4.trans s5),fun v H6 r6 s6=>?_⟩
          have ha6:=s6 _ _ ha
          refine⟨ha6,_,rfl,?_,ae,(s5.trans s6).put na⟩
          rw [List.take_add_one,hsd]
          exact eZ ((rv.same s6).put ha6) (.cons (RV.put r6 ha6) .nil)
        · rintro zs τ H5 ⟨c,rfl,rv,ha,s5⟩
          have s15:=s13.trans (s4.trans s5)
          have rv:lU H5 zs [iK T b x n true,iK T b x n false]:=rv
          have rvl:zs.length=2:=Paired.length rv
          refine⟨_,rfl,acc,rfl,⟨_,aX.of ha⟩,fun ac2 na2=>?_⟩
          refine kZ (K:=K) (a:=acc) (xs:=zs) (fun i us τ H'=>∃ c:Option V,τ = [c,some fv,some (.str x)]/\cI H' us ((gS T (.d6 b x n p r)).take i)/\H' ac2=some (.lst us)/\ah H5 H') ?_ ?_ ?_ ?_
          · exact⟨none,rfl,.nil,ae,ah.new na2⟩
          · rintro i us τ H6 hi ⟨c,rfl,bv,ha2,s6⟩
            refine⟨aX.of (s6 _ _ ha),ha2,?_⟩
            have h1:=Paired.length bv
            rw [List.length_take] at h1
            exact br (by rw [h1];exact Nat.le_trans (Nat.min_le_right _ _) (by show 2<=1000;decide))
          · rintro i y us τ H6 hi ⟨c,rfl,bv,ha2,s6⟩
            obtain⟨rs,hrs,hry⟩:=iG rv hi
            have hb:(gS T (.d6 b x n p r))[i]? = some (rs.map (cc T x)):=by
              show ([iK T b x n true,iK T b x n false].map fun z:Rs=>Option.map (cc T x) z)[i]? = _
              rw [List.getElem?_map,hrs];rfl
            refine bM ?_
            refine jw ?_
            refine aW ?_
            cases rs with
            | none =>
              cases (show y=V.aB from hry)
              refine⟨_,rfl,_,rfl,aW ?_⟩
              refine⟨ha2,_,rfl,?_,ae,s6.put na2⟩
              rw [List.take_add_one,hb]
              refine eZ (bv.aI fun p zs e=>?_) (.cons rfl .nil)
              rw [au (bA e ha2 (by intro z;cases z))];exact e
            | some s =>
              have hsv6:SV aA H6 y s:=RV.sv (hry.same s6)
              obtain⟨yp,rfl,hyp⟩:∃ yp,y=.ref yp/\True:=by
                obtain⟨a1,b1⟩:=s
                obtain⟨yp,e,_⟩:=hry
                exact⟨yp,e,trivial⟩
              refine⟨_,rfl,_,rfl,aV ?_⟩
              refine⟨_,rfl,_,rfl,_,rfl,fv,.ref yp,x,T,s,rfl,hf1.same (s13.trans (s4.trans (s5.trans s6))),hsv6,bL,fun v H7 f7 s7=>?_⟩
              have ha7:=s7 _ _ ha2
              refine⟨ha7,_,rfl,?_,ae,(s6.trans s7).put na2⟩
              rw [List.take_add_one,hb]
              have kt:∀ p zs,H7 p=some (.tup zs)->(upd H7 ac2 (.lst (us ++ [v]))) p=some (.tup zs):=fun p zs e=>by rw [au (bA e ha7 (by intro z;cases z))];exact e
              exact eZ ((bv.same s7).aI kt) (.cons (FV.aI f7 kt) .nil)
          · rintro us τ H6 ⟨c,rfl,bv,ha2,s6⟩
            rw [rvl] at bv
            refine⟨ac2,_,rfl,.inl ⟨aX.of ha2,fun t nt=>?_⟩⟩
            exact q t _ _ ae (cI.same (show cI H6 us (gS T (.d6 b x n p r)) from bv) (ah.new nt)) ((s1.trans (s15.trans s6)).trans (ah.new nt))
theorem wz {f:Addr} {fd:FuncData} (F:bZ K "leads" "leads" iV f fd) (Z:Bl mg) (O_known_beyond:Own P w K mg base "known_beyond" 4 ["facts", "end"] (mB aA)) (O_ways_on:Own P w K mg base "ways_on" 3 ["end"] m7):bD P w K mg base bX 5 f fd ["facts", "end"] (nT aA):=by
  refine F.ok (k:=4) qD (fun vs H Q E h=>?_) (fun cdv A outer s H vs Q E hr h=>?_)
  · obtain⟨fv,ea,T,e,rfl,_⟩:=h
    rfl
  · obtain⟨fv,ea,T,e,rfl,hf,he,bL,q⟩:=h
    refine⟨_,(ai (aJ (i:=2) qD.nd rfl (Or.inl rfl) (aC O_known_beyond (hr.mono (by decide)) rfl (aa (pv 0) (aa (pv 1) af))))
      (ar (aH (bw bH rfl Z.tuple cN (aa (dJ ["way", "there"] [] [] rfl (uh rfl Z.zip (aa (aC O_ways_on (hr.mono (by decide)) rfl (aa (pv 1) af)) (aa (pv 2) af))) rfl (by decide +kernel) (by decide +kernel) (by decide +kernel) True.intro (fun _ _ _ _=>(lg (K:=K) (n:=2) rfl (cv (n:=2) rfl (aM (aF (i:=0) (show ((["way", "there"]:List Str)++([]:List Str)).Nodup by decide +kernel) rfl (Or.inl rfl) (hf:=Or.inr rfl)) (aM (aF (i:=1) (show ((["way", "there"]:List Str)++([]:List Str)).Nodup by decide +kernel) rfl (Or.inl rfl) (hf:=Or.inr rfl)) bU))))) (fun _ _ _ _=>(nH (bW (cA (pv 1))))) (fun _ _ _ _=>(bp (aa (pv 0) (aa (pv 1) af))))) af))))),?_⟩
    refine⟨_,rfl,_,rfl,fv,ea,T,e,rfl,hf,he,bL,fun bt us H1 hb bv s1=>?_⟩
    refine⟨_,rfl,ea,e,rfl,s1 _ _ he,fun wt H2 hw s2=>?_⟩
    have hb2:=s2 _ _ hb
    have bv2:=bv.same s2
    refine⟨_,rfl,wt,bt,rfl,⟨_,ay.of hw⟩,⟨_,ay.of hb2⟩,fun acc na=>?_⟩
    refine ui (K:=K) (a:=wt) (b:=bt) (xs:=(cJ e).map fun k=>V.int (k:Nat)) (ys:=us) (fun i zs τ H'=>∃ (c1 c2:Option V),τ = [c1,c2]/\j9 H' zs ((((cJ e).zip (gS T e)).take i).filterMap fun p=>p.2.map fun U=>(p.1,U))/\zs.length<=i/\H' acc=some (.lst zs)/\ah H2 H') ?_ ?_ ?_ ?_
    · exact⟨none,none,rfl,.nil,Nat.le_refl _,ae,ah.new na⟩
    · rintro i zs τ H3 hi ⟨c1,c2,rfl,pv,hz,ha,s3⟩
      refine⟨ay.of (s3 _ _ hw),ay.of (s3 _ _ hb2),ha,?_⟩
      have h1:i<=(cJ e).length:=by rw [List.length_map] at hi;omega
      have h2:(cJ e).length<=2:=by cases e <;> (show _<=2) <;> simp [cJ]
      exact br (by omega)
    · rintro i x y zs τ H3 u hx hy hu ⟨c1,c2,rfl,pv,hz,ha,s3⟩
      obtain⟨k,hk,rfl⟩:∃ k,(cJ e)[i]? = some k/\x=V.int (k:Nat):=by
        rw [List.getElem?_map] at hx
        cases z:(cJ e)[i]? with
        | none=>rw [z] at hx;cases hx
        | some k=>rw [z] at hx;exact⟨k,rfl,(Option.some.inj hx).symm⟩
      obtain⟨o,ho,hyo⟩:=iG bv2 hy
      have hnext:=oF (T:=T) hk ho
      have su:=ah.new (o:=.tup [.int (k:Nat),y]) hu
      have hu4:(upd H3 u (.tup [.int (k:Nat),y])) u=some (.tup [.int (k:Nat),y]):=ae
      generalize (upd H3 u (.tup [.int (k:Nat),y]))=H4 at su hu4
      refine⟨u,_,rfl,ay.of hu4,rfl,_,_,rfl,_,_,rfl,rfl,?_⟩
      refine⟨_,rfl,_,rfl,?_⟩
      cases o with
      | none =>
        cases (show y=V.aB from hyo)
        refine aV ?_
        refine⟨_,_,rfl,?_,Nat.le_succ_of_le hz,su _ _ ha,s3.trans su⟩
        rw [hnext]
        simpa using pv.same su
      | some U =>
        obtain⟨yp,zsy,ssy,rfl,_⟩:=id hyo
        refine aW ?_
        refine⟨_,rfl,_,rfl,ln2,fun t nt=>?_⟩
        have s5:=ah.new (o:=.tup [.int (k:Nat),.ref yp]) nt
        have ht:(upd H4 t (.tup [.int (k:Nat),.ref yp])) t=some (.tup [.int (k:Nat),.ref yp]):=ae
        generalize (upd H4 t (.tup [.int (k:Nat),.ref yp]))=H5 at s5 ht
        have ha5:=s5 _ _ (su _ _ ha)
        have kt:∀ p ws,H5 p=some (.tup ws)->(upd H5 acc (.lst (zs ++ [V.ref t]))) p=some (.tup ws):=fun p ws e=>by rw [au (bA e ha5 (by intro z;cases z))];exact e
        refine⟨ha5,_,_,rfl,?_,(by rw [List.length_append];show _+1<=_;omega),ae,(s3.trans (su.trans s5)).put na⟩
        rw [hnext]
        exact eZ ((pv.same (su.trans s5)).aI kt) (.cons ⟨t,.ref yp,rfl,kt _ _ ht,FV.aI (FV.same hyo (s3.trans (su.trans s5))) kt⟩ .nil)
    · rintro zs τ H3 ⟨c1,c2,rfl,pv,hz,ha,s3⟩
      have hm:min ((cJ e).map fun k=>V.int (k:Nat)).length us.length=((cJ e).zip (gS T e)).length:=by
        rw [List.length_zip,List.length_map,Paired.length bv2]
      rw [hm,List.take_length] at pv
      refine⟨acc,_,rfl,.inl ⟨aX.of ha,fun t nt=>?_⟩⟩
      exact q t zs _ ae (j9.same (show j9 H3 zs (fJ T e) from pv) (ah.new nt)) (((s1.trans s2).trans s3).trans (ah.new nt))
theorem wA {f:Addr} {fd:FuncData} (F:bZ K "start" "start" iW f fd) (Z:Bl mg) (O_names_of:Own P w K mg base "names_of" 3 ["plan"] kG):bD P w K mg base bX 4 f fd ["plan"] nU:=by
 refine F.ok (k:=3) wu (fun vs H Q E h=>?_) (fun cdv A outer s H vs Q E hr h=>?_)
 ·obtain⟨plv,ps,xs,m,rfl,_⟩:=h
  rfl
 ·obtain⟨plv,ps,xs,m,rfl,hp,pok,hx,hal,q⟩:=h
  refine⟨_,(ar (aH (bw bH rfl Z.tuple cN (aa (dJ ["name"] [] [] rfl (e7 (aC O_names_of (hr.mono (by decide)) rfl (aa (pv 0) af))) rfl (by decide +kernel) (by decide +kernel) (by decide +kernel) True.intro (fun _ _ _ _=>(aF (i:=0) (show ((["name"]:List Str)++([]:List Str)).Nodup by decide +kernel) rfl (Or.inl rfl) (hf:=Or.inr rfl))) (fun _ _ _ _=>er) (fun _ _ _ _=>(bp (aa (pv 0) (aa (bp (aa ao (aa ao af))) af))))) af)))),?_⟩
  refine⟨_,rfl,plv,ps,xs,m,rfl,hp,pok,hx,hal,fun nt ss H1 hnt hperm hsort hsl s1=>?_⟩
  refine⟨nt,rfl,⟨_,ay.of hnt⟩,fun acc na=>?_⟩
  refine mU (K:=K) (a:=nt) (xs:=ss.map V.str) (fun i zs τ H'=>∃ c:Option V,τ = [c]/\bg H' zs ((ss.take i).map fun x=>.tuple [.str x,.tuple [.int 0,.int 0]])/\H' acc=some (.lst zs)/\ah H1 H') ?_ ?_ ?_ ?_
  ·exact⟨none,rfl,.nil,ae,ah.new na⟩
  ·rintro i zs τ H2 hi ⟨c,rfl,r,ha,s2⟩
   refine⟨ay.of (s2 _ _ hnt),ha,?_⟩
   have h1:=r.len
   rw [List.length_map,List.length_take] at h1
   exact br (by omega)
  ·rintro i x zs τ H2 hi ⟨c,rfl,r,ha,s2⟩
   obtain⟨y,hy,rfl⟩:∃ y,ss[i]? = some y/\x=V.str y:=by
    rw [List.getElem?_map] at hi
    cases e:ss[i]? with
    | none=>rw [e] at hi;cases hi
    | some k=>rw [e] at hi;exact⟨k,rfl,(Option.some.inj hi).symm⟩
   refine bM ?_
   refine jw ?_
   refine aW ?_
   refine⟨_,rfl,ln2,fun t1 n1=>⟨ln2,fun t2 n2=>?_⟩⟩
   have q1:=ah.new (o:=.tup [.int 0,.int 0]) n1
   have q2:=ah.new (o:=.tup [.str y,.ref t1]) n2
   have ha3:=q2 _ _ (q1 _ _ ha)
   have kt:∀ p ws,(upd (upd H2 t1 (.tup [.int 0,.int 0])) t2 (.tup [.str y,.ref t1])) p=some (.tup ws)->(upd (upd (upd H2 t1 (.tup [.int 0,.int 0])) t2 (.tup [.str y,.ref t1])) acc (.lst (zs ++ [V.ref t2]))) p=some (.tup ws):=fun p ws e=>by rw [au (bA e ha3 (by intro z;cases z))];exact e
   refine⟨ha3,_,rfl,?_,ae,((s2.trans q1).trans q2).put na⟩
   rw [List.take_add_one,hy,List.map_append]
   exact (((r.same q1 (iF _)).same q2 (iF _)).aI kt (iF _)).app (.tup (kt _ _ ae) (.cons (.str _) (.cons (.tup (kt _ _ (q2 _ _ ae)) (.cons (.int _) (.cons (.int _) .nil))) .nil)))
  ·rintro zs τ H2 ⟨c,rfl,r,ha,s2⟩
   rw [List.length_map,List.take_length] at r
   refine⟨acc,_,rfl,.inl ⟨aX.of ha,fun t ht=>?_⟩⟩
   exact q (.ref t) ss _ (.tup ae (r.same (ah.new ht) (iF _))) hperm hsort ((s1.trans s2).trans (ah.new ht))
theorem uV {f:Addr} {fd:FuncData} (F:bZ K "is_met" "is_met" ie f fd) (Z:Bl mg) (O_covers:Own P w K mg base "covers" 2 ["facts", "others"] mz):bD P w K mg base bX 3 f fd ["lead", "table"] nW:=by
 refine F.ok (k:=2) oM (fun vs H Q E h=>?_) (fun cdv A outer s H vs Q E hr h=>?_)
 ·obtain⟨lv,ta,us,tab,k,U,rfl,_⟩:=h
  rfl
 ·obtain⟨lv,ta,us,tab,k,U,rfl,hl,hta,hb,hk,bL,q⟩:=h
  refine⟨_,(ai (aJ (i:=2) oM.nd rfl (Or.inl rfl) (aK yV (pv 1) (aK aZ (pv 0) ao (fun _ _=>rfl)) (fun _ _=>rfl)))
   (ar (aH (jG (fY (cA (pv 2))) (eh (aC O_covers (hr.mono (by decide)) rfl (aa (pv 2) (aa (aK aZ (pv 0) ao (fun _ _=>rfl)) af)))))))),?_⟩
  obtain⟨lq,u,rfl,hlq,hu⟩:=hl
  have hlq:H lq=some (.tup [.int (k:Nat),u]):=hlq
  have hu:FV H u U:=hu
  have aG:tab[k]? = some tab[k]:=by simp [hk]
  generalize tab[k] = o at aG
  obtain⟨ev,hev,bo⟩:=h8 hb aG
  have fin:∀ {Q':VK},Q' ev H->(fun x i H Q=>sE K x i H Q\/vh K x i H Q) (.ref ta) (.int (k:Nat)) H Q':=fun {Q'} h=>by
   rcases hta with hta | hta
   ·exact .inl ⟨ta,_,_,_,rfl,rfl,aX.of hta,bJ hev,h⟩
   ·exact .inr ⟨ta,_,_,_,rfl,rfl,ay.of hta,bJ hev,h⟩
  refine⟨_,rfl,_,rfl,lq,_,0,_,rfl,rfl,ay.of hlq,cf,fin ?_⟩
  cases o with
  | none =>
   have bo:ev=.aB:=bo
   subst bo
   refine⟨_,rfl,_,rfl,bf rfl ?_⟩
   refine q false H ⟨(fun h=>nomatch h),fun ⟨T,h,_⟩=>?_⟩ (ah.refl H)
   have h:tab[k]? = some (some T):=h
   rw [aG] at h
   cases h
  | some T =>
   have bo:FV H ev T:=bo
   have hne:decide (ev=V.aB)=false:=by
    obtain⟨p,_,_,rfl,_⟩:=bo
    rfl
   refine⟨_,rfl,_,rfl,bY (by rw [hne];rfl) ?_⟩
   refine⟨_,rfl,_,rfl,lq,_,1,_,rfl,rfl,ay.of hlq,cG,ev,u,T,U,rfl,bo,hu,bL T (List.mem_of_getElem? aG),fun b H1 hb1 s1=>?_⟩
   refine q b H1 (hb1.trans ⟨fun h=>⟨T,aG,h⟩,fun ⟨T',h,h'⟩=>?_⟩) s1
   have h:tab[k]? = some (some T'):=h
   rw [aG] at h
   cases h
   exact h'
theorem oY {f:Addr} {fd:FuncData} (F:bZ K "leads_from" "leads_from" eM f fd) (Z:Bl mg) (O_leads:Own P w K mg base "leads" 5 ["facts", "end"] (nT aA)) (O_behind:Own P w K mg base "behind" 3 ["facts", "deeds"] kL):bD P w K mg base bX 6 f fd ["entry", "piece"] jB:=by
 refine F.ok (k:=5) iJ (fun vs H Q E h=>?_) (fun cdv A outer s H vs Q E hr h=>?_)
 ·obtain⟨fv,pc,da,ea,ws,ds,e,T,xs,rfl,_⟩:=h
  rfl
 ·obtain⟨fv,pc,da,ea,ws,ds,e,T,xs,rfl,hf,hpc,hda,hws,hea,tok,dok,h62,q⟩:=h
  refine⟨_,(ai (bT (pv 1) (cv rfl (aM (aF (i:=2) iJ.nd rfl (Or.inl rfl)) (aM (aF (i:=3) iJ.nd rfl (Or.inl rfl)) bU))))
   (ar (aH (aC O_leads (hr.mono (by decide)) rfl (aa (aC O_behind (hr.mono (by decide)) rfl (aa (pv 0) (aa (pv 2) af))) (aa (pv 3) af)))))),?_⟩
  refine⟨_,rfl,pc,_,rfl,ay.of hpc,rfl,_,_,rfl,_,_,rfl,rfl,?_⟩
  refine⟨_,rfl,_,rfl,fv,da,ws,ds,T,xs,rfl,hf,hda,hws,tok,dok,(by omega),fun v H1 f1 s1=>?_⟩
  have bL:jd (bx T ds) 62:=fun ss a b=>Nat.le_trans ((tok.qr dok).bL ss a b) h62
  refine⟨_,rfl,v,ea,_,e,rfl,f1,s1 _ _ hea,bL,fun t vs H2 ht hv s2=>?_⟩
  exact q t vs H2 ht hv (s1.trans s2)
theorem uW {f:Addr} {fd:FuncData} (F:bZ K "opened" "opened" ig f fd) (Z:Bl mg) (O_is_within:Own P w K mg base "is_within" 1 ["one", "other"] (jr K)):bD P w K mg base bX 2 f fd ["stretch", "other"] (mG K):=by
 refine F.ok (k:=1) kT (fun vs H Q E h=>?_) (fun cdv A outer s H vs Q E hr h=>?_)
 ·obtain⟨p,q0,s,t,rfl,_⟩:=h
  rfl
 ·obtain⟨p,q0,s,t,rfl,hp,hq,q⟩:=h
  refine⟨_,(ai (bT (pv 0) (cv rfl (aM (aF (i:=2) kT.nd rfl (Or.inl rfl)) (aM (aF (i:=3) kT.nd rfl (Or.inl rfl)) bU))))
   (ar (aH (bp (aa (eW (gO (aC O_is_within (hr.mono (by decide)) rfl (aa (pv 1) (aa (bp (aa (pv 2) (aa bC af))) af)))) (pv 2) bC) (aa (eW (gO (aC O_is_within (hr.mono (by decide)) rfl (aa (pv 1) (aa (bp (aa bC (aa (pv 3) af))) af)))) (pv 3) bC) af)))))),?_⟩
  refine⟨_,rfl,p,_,rfl,hp,rfl,_,_,rfl,_,_,rfl,rfl,?_⟩
  refine⟨_,rfl,_,rfl,ln2,fun t1 n1=>⟨q0,t1,t,(s.1,none),rfl,hq.same (ah.new n1),ay.of ae,_,rfl,?_⟩⟩
  have s1:=ah.new (o:=.tup [vO s.1,.aB]) n1
  cases hc:cw t (s.1,none) with
  | true =>
   refine aW ⟨_,rfl,?_⟩
   refine⟨_,rfl,_,rfl,ln2,fun t2 n2=>⟨q0,t2,t,(none,s.2),rfl,(hq.same s1).same (ah.new n2),ay.of ae,_,rfl,?_⟩⟩
   have s2:=s1.trans (ah.new (o:=.tup [.aB,vO s.2]) n2)
   cases hd:cw t (none,s.2) with
   | true =>
    refine aW ⟨_,rfl,ln2,fun t3 n3=>?_⟩
    have e:cW s t=(s.1,s.2):=by unfold cW;rw [hc,hd];rfl
    exact q _ _ ⟨t3,rfl,by rw [e];exact ae⟩ (s2.trans (ah.new n3))
   | false =>
    refine aV ⟨ln2,fun t3 n3=>?_⟩
    have e:cW s t=(s.1,none):=by unfold cW;rw [hc,hd];rfl
    exact q _ _ ⟨t3,rfl,by rw [e];exact ae⟩ (s2.trans (ah.new n3))
  | false =>
   refine aV ?_
   refine⟨_,rfl,_,rfl,ln2,fun t2 n2=>⟨q0,t2,t,(none,s.2),rfl,(hq.same s1).same (ah.new n2),ay.of ae,_,rfl,?_⟩⟩
   have s2:=s1.trans (ah.new (o:=.tup [.aB,vO s.2]) n2)
   cases hd:cw t (none,s.2) with
   | true =>
    refine aW ⟨_,rfl,ln2,fun t3 n3=>?_⟩
    have e:cW s t=(none,s.2):=by unfold cW;rw [hc,hd];rfl
    exact q _ _ ⟨t3,rfl,by rw [e];exact ae⟩ (s2.trans (ah.new n3))
   | false =>
    refine aV ⟨ln2,fun t3 n3=>?_⟩
    have e:cW s t=(none,none):=by unfold cW;rw [hc,hd];rfl
    exact q _ _ ⟨t3,rfl,by rw [e];exact ae⟩ (s2.trans (ah.new n3))
theorem tI {f:Addr} {fd:FuncData} (F:bZ K "widened" "widened" gK f fd) (Z:Bl mg) {aA:Addr} (GA:gQ K mg aA) (O_facts_of:Own P w K mg base "facts_of" 1 ["stretches"] (iE aA)) (O_opened:Own P w K mg base "opened" 2 ["stretch", "other"] (mG K)):bD P w K mg base bX 3 f fd ["entry", "facts"] kM:=by
 refine F.ok (k:=2) ny (fun vs H Q E h=>?_) (fun cdv A outer s H vs Q E hr h=>?_)
 ·obtain⟨ev,fv,o,U,rfl,_⟩:=h
  rfl
 ·obtain⟨ev,fv,o,U,rfl,bo,hf,bL,fewU,q⟩:=h
  refine⟨_,(ai (bu (bW (cU (pv 0)))
   (ar (aH (pv 1)))
   aU)
   (ai (aJ (i:=2) ny.nd rfl (Or.inr rfl) (bw (dY rfl) rfl Z.dict jL (aa (pv 1) af)))
   (ar (aH (aC O_facts_of (hr.mono (by decide)) rfl (aa (we ["name", "stretch"] ["stretches"] [2] rfl (e7 (pv 0)) rfl (by decide +kernel) (by decide +kernel) (by decide +kernel) ⟨⟨rfl,.inl rfl,rfl⟩,True.intro⟩ (fun _ _ _ _=>(lg (K:=K) (n:=2) rfl (cv (n:=2) rfl (aM (aF (i:=0) (show ((["name", "stretch"]:List Str)++(["stretches"]:List Str)).Nodup by decide +kernel) rfl (Or.inl rfl) (hf:=Or.inr rfl)) (aM (aF (i:=1) (show ((["name", "stretch"]:List Str)++(["stretches"]:List Str)).Nodup by decide +kernel) rfl (Or.inl rfl) (hf:=Or.inr rfl)) bU))))) (fun _ _ _ _=>er) (fun _ _ _ _=>(pv 0)) (fun _ _ _ _=>(aC O_opened (hr.mono (by decide)) rfl (aa (pv 1) (aa (cV (cm hr) (pv 2) (pv 0) (fE (v:=.ref aA) rfl GA.lQ rfl) ⟨rfl,rfl,rfl,rfl⟩) af))))) af)))))),?_⟩
  refine⟨_,rfl,_,rfl,?_⟩
  cases o with
  | none =>
   have bo:ev=.aB:=bo
   subst bo
   refine bY rfl ?_
   exact⟨_,rfl,q fv H hf (ah.refl H)⟩
  | some T =>
   have bo:FV H ev T:=bo
   have hne:decide (ev=V.aB)=false:=by
    obtain⟨p,_,_,rfl,_⟩:=bo
    rfl
   refine bf hne ?_
   obtain⟨fp,fxs,ss,rfl,hfp,srt,hmem,rf⟩:=hf
   obtain⟨kvs,l1,l2,l3,tb⟩:=FV.tb aA srt hmem rf
   refine⟨_,rfl,fp,fxs,kvs,rfl,hfp,l1,l2,l3,fun d nd=>?_⟩
   have s1:=ah.new (o:=.dK kvs) nd
   have hd:(upd H d (.dK kvs)) d=some (.dK kvs):=ae
   have tb1:=tb.aI fun p zs e=>s1 _ _ e
   have bo1:=FV.same bo s1
   generalize (upd H d (.dK kvs))=H1 at s1 hd tb1 bo1
   obtain⟨ep,exs,es,rfl,hep,esrt,emem,erf⟩:=bo1
   refine bM ?_
   refine⟨_,rfl,ep,rfl,⟨_,ay.of hep⟩,fun acc na=>?_⟩
   have hel:exs.length=es.length:=by rw [erf.len,List.length_map]
   have hes:es.length<=63:=bL T rfl es (fun x hx=>(emem x).mp hx) esrt.nd
   refine yU (K:=K) (a:=ep) (xs:=exs) (fun i kv τ H'=>∃ (c1 c2:Option V) (ks:List Str) (W:Str->Sx),τ = [c1,c2,some (.ref d)]/\H' acc=some (.dK kv)/\Tb aA H' kv ks W/\ks.length<=i/\(∀ x,W x=if x ∈ es.take i then cW (T x) (U x) else bE)/\ah H1 H') ?_ ?_ ?_ ?_
   ·refine⟨none,none,[],fun _=>bE,rfl,ae,⟨rfl,List.nodup_nil,fun x=>.inl ⟨rfl,rfl,by simp⟩⟩,Nat.le_refl _,(fun x=>by simp),ah.new na⟩
   ·rintro i kv τ H2 hi ⟨c1,c2,ks,W,rfl,h1,h2,h3,h4,h5⟩
    have kl:kv.length=ks.length:=by have:=congrArg List.length h2.keys;simpa using this
    exact⟨ay.of (h5 _ _ hep),h1,jY (by omega)⟩
   ·rintro i x kv τ H2 hx ⟨c1,c2,ks,W,rfl,h1,h2,h3,h4,h5⟩
    have hi:i < es.length:=by
     have:=(List.getElem?_eq_some_iff.mp hx).1
     omega
    have hye:es[i]? = some es[i]:=by simp [hi]
    generalize es[i] = y at hye
    obtain⟨v,hv,rd⟩:=erf.get (i:=i) (d:=dF T y) (by rw [List.getElem?_map,hye];rfl)
    rw [hx] at hv
    cases hv
    obtain⟨t1,q1,rfl,ht1,hq1⟩:=uF rd
    refine⟨t1,_,rfl,ay.of (h5 _ _ ht1),rfl,_,_,rfl,_,_,rfl,rfl,?_⟩
    obtain⟨u,eu,su⟩:=(tb1.aI fun p zs e=>h5 _ _ e).getD y
    obtain⟨qa,rfl,hqa⟩:=su.sq GA
    refine jw ?_
    refine aW ?_
    refine⟨_,rfl,_,rfl,_,rfl,d,rfl,.inl ⟨kvs,.inl (h5 _ _ hd)⟩,_,rfl,_,_,cR.k (k:=Sum.inr y) (h5 _ _ hd),eu,q1,qa,T y,U y,rfl,ay.of (h5 _ _ hq1),hqa,fun v H3 sh s3=>?_⟩
    have h1':=s3 _ _ h1
    obtain⟨ks2,t2,k2,m2⟩:=(h2.aI fun p zs e=>s3 _ _ e).put y (.inl sh)
    refine⟨Sum.inr y,rfl,h1',_,_,ks2,_,rfl,ae,t2.aI (fun p zs e=>by rw [au (bA e h1' (by intro z;cases z))];exact e),by omega,fun x=>?_,(h5.trans s3).put na⟩
    unfold cc
    rw [List.take_add_one,hye]
    by_cases hxy:x=y
    ·rw [if_pos hxy,if_pos (List.mem_append_right _ (by rw [hxy];exact List.mem_singleton.mpr rfl)),hxy]
    ·rw [if_neg hxy,h4 x]
     have:(x ∈ es.take i++(some y).toList) ↔ x ∈ es.take i:=by simp [hxy]
     simp only [this]
   ·rintro kv τ H2 ⟨c1,c2,ks,W,rfl,h1,h2,h3,h4,h5⟩
    refine⟨acc,kv,ks,W,rfl,h1,h2,(by omega),fun v H3 f3 s3=>?_⟩
    refine q v H3 ?_ ((s1.trans h5).trans s3)
    have e:W=g0 T U:=by
     rw [<-wg]
     funext x
     rw [h4 x,hel,List.take_of_length_le (Nat.le_refl _)]
     by_cases hx:T x=bE
     ·rw [if_pos hx,if_neg (fun h=>(emem x).mp h hx)]
     ·rw [if_neg hx,if_pos ((emem x).mpr hx)]
    rw [e] at f3
    exact f3
theorem qY {f:Addr} {fd:FuncData} (F:bZ K "table_of" "table_of" fM f fd) (Z:Bl mg) (O_start:Own P w K mg base "start" 4 ["plan"] nU) (O_leads_from:Own P w K mg base "leads_from" 6 ["entry", "piece"] jB) (O_is_met:Own P w K mg base "is_met" 3 ["lead", "table"] nW) (O_widened:Own P w K mg base "widened" 3 ["entry", "facts"] kM):bD P w K mg base bX 8 f fd ["plan"] mH:=by
  refine F.ok (k:=7) fj (fun vs H Q E h=>?_) (fun cdv A outer s H vs Q E hr h=>?_)
  · obtain⟨plv,ps,xs,m,rfl,_⟩:=h
    rfl
  · obtain⟨plv,ps,xs,m,rfl,hp,ok,hp0,hp4,h62,hal,q⟩:=h
    refine⟨_,(ai (aJ (i:=1) fj.nd rfl (Or.inl rfl) (ba pP (cD (aa bC af)) (bO cE rfl Z.len fA (aa (pv 0) af))))
      (ai (aJ (i:=2) fj.nd rfl (Or.inl rfl) (ba pP (cD (aa dz af)) (bO cE rfl Z.len fA (aa (pv 0) af))))
      (ai (bT (aC O_start (hr.mono (by decide)) rfl (aa (pv 0) af)) (fw (pv 1) ao set_list))
      (ai (bT dz (fw (pv 2) ao set_list))
      (ai (pE PassesOwn.never (aP tV dz (pv 2) (by with_unfolding_all rfl))
      (ai (aJ (i:=3) fj.nd rfl (Or.inl rfl) (ik PySem.F.plainAttrs_list PySem.F.slot_list_index PySem.F.type_list_index uQ (pv 2) (aa dz af)))
      (ai (bT dz (fw (pv 2) (pv 3) set_list))
      (ar (dH PassesOwn.never rfl (e7 (aC O_leads_from (hr.mono (by decide)) rfl (aa (aK bK (pv 1) (pv 3) (fun _ _=>rfl)) (aa (aK aZ (pv 0) (pv 3) (fun _ _=>rfl)) af)))) (aF (i:=4) fj.nd rfl (Or.inl rfl))
      (ar (bu (tQ (gO (aC O_is_met (hr.mono (by decide)) rfl (aa (pv 4) (aa (pv 1) af)))))
      (ai (aJ (i:=5) fj.nd rfl (Or.inl rfl) (aK aZ (pv 4) ao (fun _ _=>rfl)))
      (ai (bT (aC O_widened (hr.mono (by decide)) rfl (aa (aK bK (pv 1) (pv 5) (fun _ _=>rfl)) (aa (aK aZ (pv 4) ao (fun _ _=>rfl)) af))) (fw (pv 1) (pv 5) set_list))
      (ar (bT dz (fw (pv 2) (pv 5) set_list)))))
      aU)))))))
      (ar (aH (bw bH rfl Z.tuple cN (aa (pv 1) af))))))))),?_⟩
    obtain⟨pp,pvs,rfl,hpp,rpv⟩:=bB.cQ hp
    have hpl:pvs.length=ps.length:=by rw [rpv.len,List.length_map]
    refine⟨tY,fun p0 n0=>?_⟩
    have s0:=ah.new (o:=.lst [.aB]) n0
    refine⟨_,rfl,pp,_,rfl,.inr (ay.of (s0 _ _ hpp)),p0,_,_,rfl,rfl,ae,(by omega),(by omega),?_,fun tl ntl=>?_⟩
    · show 1 * _<=_
      exact Nat.le_of_lt (br (by omega))
    have e1:(List.replicate ((pvs.length:Int)).toNat [V.aB]).flatten=List.replicate ps.length V.aB:=by rw [hpl,Int.toNat_natCast,List.flatten_replicate_singleton]
    have s1:=s0.trans (ah.new (o:=.lst (List.replicate ((pvs.length:Int)).toNat [V.aB]).flatten) ntl)
    have htl1:(upd (upd H p0 (.lst [.aB])) tl (.lst (List.replicate ((pvs.length:Int)).toNat [V.aB]).flatten)) tl=some (.lst (List.replicate ps.length V.aB)):=by rw [ae,e1]
    have ntl0:H tl=none:=s0.free ntl
    generalize (upd (upd H p0 (.lst [.aB])) tl (.lst (List.replicate ((pvs.length:Int)).toNat [V.aB]).flatten))=H1 at s1 htl1
    refine bM ?_
    refine⟨tY,fun p1 n1=>?_⟩
    have s1b:=ah.new (o:=.lst [.bl false]) n1
    refine⟨_,rfl,pp,_,rfl,.inr (ay.of (s1b _ _ (s1 _ _ hpp))),p1,_,_,rfl,rfl,ae,(by omega),(by omega),?_,fun wl nwl=>?_⟩
    · show 1 * _<=_
      exact Nat.le_of_lt (br (by omega))
    have e2:(List.replicate ((pvs.length:Int)).toNat [V.bl false]).flatten=(List.replicate ps.length false).map V.bl:=by rw [hpl,Int.toNat_natCast,List.flatten_replicate_singleton,List.map_replicate]
    have s2:=s1b.trans (ah.new (o:=.lst (List.replicate ((pvs.length:Int)).toNat [V.bl false]).flatten) nwl)
    have hwl2:(upd (upd H1 p1 (.lst [.bl false])) wl (.lst (List.replicate ((pvs.length:Int)).toNat [V.bl false]).flatten)) wl=some (.lst ((List.replicate ps.length false).map V.bl)):=by rw [ae,e2]
    have nwl1:H1 wl=none:=s1b.free nwl
    have nwl0:H wl=none:=s1.free nwl1
    have ntw:tl ≠ wl:=aY htl1 nwl1
    have s02:=s1.trans s2
    have htl2:=s2 _ _ htl1
    generalize (upd (upd H1 p1 (.lst [.bl false])) wl (.lst (List.replicate ((pvs.length:Int)).toNat [V.bl false]).flatten))=H2 at s2 hwl2 s02 htl2
    refine bM ?_
    refine⟨_,rfl,.ref pp,ps,xs,m,rfl,hp.same s02 (dC ps),ok,(by omega),hal,fun sv ss H3 rsv hperm hsort s3=>?_⟩
    have htl3:=s3 _ _ htl2
    have hwl3:=s3 _ _ hwl2
    have fs:FV H3 sv (startT ps):=(v5 hperm hsort).fv rsv
    refine⟨_,rfl,tl,_,0,0,rfl,rfl,htl3,gF (by rw [List.length_replicate];exact hp0),?_⟩
    refine⟨_,rfl,wl,_,0,0,rfl,rfl,(by rw [au ntw.symm];exact hwl3),gF (by rw [List.length_map,List.length_replicate];exact hp0),?_⟩
    rw [nX]
    have kt:∀ p zs,H3 p=some (.tup zs)->(upd (upd H3 tl (.lst ((List.replicate ps.length V.aB).set 0 sv))) wl (.lst (((List.replicate ps.length false).set 0 true).map V.bl))) p=some (.tup zs):=fun p zs e=>by
      rw [au (bA e hwl3 (by intro z;cases z)),au (bA e htl3 (by intro z;cases z))];exact e
    have bv4:cI (upd (upd H3 tl (.lst ((List.replicate ps.length V.aB).set 0 sv))) wl (.lst (((List.replicate ps.length false).set 0 true).map V.bl))) ((List.replicate ps.length V.aB).set 0 sv) ((List.replicate ps.length none).set 0 (some (startT ps))) :=
      gW (F:=BV _) (show BV _ sv (some (startT ps)) from FV.aI fs kt) 0 (qA _)
    have htl4:(upd (upd H3 tl (.lst ((List.replicate ps.length V.aB).set 0 sv))) wl (.lst (((List.replicate ps.length false).set 0 true).map V.bl))) tl=some (.lst ((List.replicate ps.length V.aB).set 0 sv)):=by rw [au ntw,ae]
    have hwl4:(upd (upd H3 tl (.lst ((List.replicate ps.length V.aB).set 0 sv))) wl (.lst (((List.replicate ps.length false).set 0 true).map V.bl))) wl=some (.lst (((List.replicate ps.length false).set 0 true).map V.bl)):=ae
    have s04:ah H (upd (upd H3 tl (.lst ((List.replicate ps.length V.aB).set 0 sv))) wl (.lst (((List.replicate ps.length false).set 0 true).map V.bl))):=((s02.trans s3).put ntl0).put nwl0
    generalize (upd (upd H3 tl (.lst ((List.replicate ps.length V.aB).set 0 sv))) wl (.lst (((List.replicate ps.length false).set 0 true).map V.bl)))=H4 at bv4 htl4 hwl4 s04
    clear kt fs htl3 hwl3 rsv s3
    have bL:∀ {tab:dD},TabOk xs tab->∀ T,some T ∈ tab->jd T 63:=fun {tab} h T hT=>fun ss a b=>Nat.le_trans ((h T hT).bL ss a b) (by omega)
    refine⟨fun mm σ H'=>∃ (us:List V) (tab:dD) (bs:List Bool) (u1 u2 u3:Option V),σ = [some (.ref pp),some (.ref tl),some (.ref wl),u1,u2,u3]/\H' tl=some (.lst us)/\cI H' us tab/\H' wl=some (.lst (bs.map V.bl))/\eG xs ps tab bs none/\(∃ n,dq ps n (ff ps)=(tab,bs))/\mm=fV xs tab * (ps.length+1)+jt bs/\ah H H',⟨_,_,_,_,_,_,_,rfl,htl4,bv4,hwl4,eG.start hp0 (qt ok) (lV ps),⟨0,rfl⟩,rfl,s04⟩,?_⟩
    rintro mm σ H5 ⟨us,tab,bs,u1,u2,u3,rfl,htl5,bv5,hwl5,I5,⟨nr,hnr⟩,rfl,s5⟩
    refine⟨_,rfl,wl,_,rfl,.inl (aX.of hwl5),rfl,mE bs,_,rfl,?_⟩
    have hin:pK (V.bl true) (bs.map V.bl)=decide (true ∈ bs):=uR true bs
    by_cases ht:true ∈ bs
    · refine bY (by show pK (V.bl true) (bs.map V.bl)=true;rw [hin];exact decide_eq_true ht) ?_
      obtain⟨at_,ha1,ha2⟩:=nu ht
      have hal:at_ < ps.length:=by rw [<-I5.gy];exact (List.getElem?_eq_some_iff.mp ha1).1
      refine⟨fun σ' H'=>∃ (us:List V) (tab':dD) (bs':List Bool) (u1 u2 u3:Option V),σ' = [some (.ref pp),some (.ref tl),some (.ref wl),u1,u2,u3]/\H' tl=some (.lst us)/\cI H' us tab'/\H' wl=some (.lst (bs'.map V.bl))/\eG xs ps tab' bs' none/\lH ps (tab,bs)=(tab',bs')/\((tab' = tab/\bs' = bs.set at_ false)\/fV xs tab' < fV xs tab)/\ah H H',fun σ' H' h=>?_,?_⟩
      · obtain⟨us',tab',bs',v1,v2,v3,rfl,a1,a2,a3,a4,aT,a5,a6⟩:=h
        have hnx:dq ps (nr+1) (ff ps)=(tab',bs'):=by
          show (if true ∈ (dq ps nr (ff ps)).2 then lH ps (dq ps nr (ff ps)) else dq ps nr (ff ps))=_
          rw [hnr,if_pos ht,aT]
        refine⟨_,?_,us',tab',bs',v1,v2,v3,rfl,a1,a2,a3,a4,⟨nr+1,hnx⟩,rfl,a6⟩
        rcases a5 with ⟨rfl,rfl⟩ | a5
        · have:=kK bs at_ ha1
          omega
        · have h1:=mF bs'
          rw [a4.gy] at h1
          have h2:(fV xs tab' + 1) * (ps.length+1)<=fV xs tab * (ps.length+1):=Nat.mul_le_mul_right _ a5
          rw [Nat.succ_mul] at h2
          omega
      refine⟨_,rfl,.inl ⟨rfl,_,aX.of hwl5⟩,wl,_,.bl true,.bl true,at_,rfl,rfl,hwl5,rfl,mE bs,(by rw [List.getElem?_map,ha1];rfl),rfl,(fun j z hj hz=>by rw [List.getElem?_map,ha2 j hj] at hz;cases hz;rfl),?_⟩
      refine⟨_,rfl,_,rfl,wl,_,_,at_,rfl,rfl,hwl5,gF (by rw [List.length_map,I5.gy];exact hal),?_⟩
      rw [nX]
      have I6:=I5.off ha1
      have htl6:(upd H5 wl (.lst ((bs.set at_ false).map V.bl))) tl=some (.lst us):=by rw [au ntw];exact htl5
      have hwl6:(upd H5 wl (.lst ((bs.set at_ false).map V.bl))) wl=some (.lst ((bs.set at_ false).map V.bl)):=ae
      have bv6:cI (upd H5 wl (.lst ((bs.set at_ false).map V.bl))) us tab:=cI.aI (fun p zs e=>by rw [au (bA e hwl5 (by intro z;cases z))];exact e) bv5
      have s6:ah H (upd H5 wl (.lst ((bs.set at_ false).map V.bl))):=s5.put nwl0
      generalize (upd H5 wl (.lst ((bs.set at_ false).map V.bl)))=H6 at htl6 hwl6 bv6 s6
      obtain⟨T,hT⟩:=I5.wait at_ ha1
      obtain⟨ev,hev,bo⟩:=h8 bv6 hT
      have bo:FV H6 ev T:=bo
      have tok:=I5.ok T (List.mem_of_getElem? hT)
      have hpi:ps[at_]? = some ps[at_]:=by simp [hal]
      generalize ps[at_] = pce at hpi
      obtain⟨ds,e⟩:=pce
      have rp6:=hp.same s6 (dC ps)
      obtain⟨p',xs',pc,da,ea,ws,ep,e1',el',hx',e2',e3',r3,e4⟩:=jX rp6 hpi
      cases ep
      rw [s6 _ _ hpp] at e1'
      cases e1'
      have hm:=List.mem_of_getElem? hpi
      have dok:=(ok.lh _ hm).2
      have eok:=ok.ends _ hm
      refine⟨_,rfl,_,rfl,tl,_,_,_,rfl,rfl,aX.of htl6,bJ hev,_,rfl,_,rfl,pp,_,_,_,rfl,rfl,ay.of (s6 _ _ hpp),bJ hx',ev,pc,da,ea,ws,ds,e,T,xs,rfl,bo,e2',e3',r3,e4,tok,dok,h62,fun lt lvs H7 hlt hlv s7=>?_⟩
      have hlok:∀ ld ∈ fJ (bx T ds) e,ld.1 < ps.length/\de xs ld.2:=fun ld h=>rX (tok.qr dok) eok ld h
      generalize hls:fJ (bx T ds) e=ls at hlv hlok
      have htl7:=s7 _ _ htl6
      have hwl7:=s7 _ _ hwl6
      have bv7:=cI.same bv6 s7
      have s07:=s6.trans s7
      have nlt:lt ≠ tl:=bA hlt htl7 (by intro z;cases z)
      have nlw:lt ≠ wl:=bA hlt hwl7 (by intro z;cases z)
      refine⟨lt,rfl,⟨_,ay.of hlt⟩,?_⟩
      refine hV (K:=K) (a:=lt) (xs:=lvs) (fun j σ H'=>∃ (us':List V) (tab':dD) (bs':List Bool) (u4 u5:Option V),σ = [some (.ref pp),some (.ref tl),some (.ref wl),some (.int (at_:Nat)),u4,u5]/\H' tl=some (.lst us')/\cI H' us' tab'/\H' wl=some (.lst (bs'.map V.bl))/\eG xs ps tab' bs' (some at_)/\(∀ ld ∈ ls.take j,Met tab' ld)/\(bs'[at_]? = some false->tab'[at_]? = some (some T))/\gX (tab,bs.set at_ false) (ls.take j)=(tab',bs')/\((tab' = tab/\bs' = bs.set at_ false)\/fV xs tab' < fV xs tab)/\(∀ p zs,H7 p=some (.tup zs)->H' p=some (.tup zs))/\ah H H') ?_ ?_ ?_ ?_
      · exact⟨us,tab,bs.set at_ false,_,_,rfl,htl7,bv7,hwl7,I6,(fun ld h=>by simp at h),(fun _=>hT),rfl,.inl ⟨rfl,rfl⟩,(fun p zs e=>e),s07⟩
      · rintro j σ H8 hj ⟨us',tab',bs',u4,u5,rfl,g1,g2,g3,g4,g5,g6,gT,g7,g8,g9⟩
        exact ay.of (g8 _ _ hlt)
      · rintro j x σ H8 hx ⟨us',tab',bs',u4,u5,rfl,g1,g2,g3,g4,g5,g6,gT,g7,g8,g9⟩
        obtain⟨ld,hld,pv⟩:=L2.iG hlv hx
        obtain⟨hk,hU⟩:=hlok ld (List.mem_of_getElem? hld)
        have pv8:=PV.aI pv g8
        obtain⟨k,U⟩:=ld
        have hk:k < ps.length:=hk
        have hU:de xs U:=hU
        have htk:ls.take (j+1)=ls.take j ++ [(k,U)]:=by rw [List.take_add_one,hld];rfl
        have hkt:k < tab'.length:=by rw [g4.len];exact hk
        refine bM ?_
        refine⟨_,rfl,_,rfl,x,tl,us',tab',k,U,rfl,pv8,.inl g1,g2,hkt,bL g4.ok,fun b H9 hb9 s9=>⟨_,rfl,?_⟩⟩
        cases b with
        | true =>
          refine bf rfl ?_
          refine⟨us',tab',bs',_,_,rfl,s9 _ _ g1,cI.same g2 s9,s9 _ _ g3,g4,fun ld h=>?_,g6,(by rw [iu hld,gT];exact oG (hb9.mp rfl)),g7,(fun p zs e=>s9 _ _ (g8 p zs e)),g9.trans s9⟩
          rw [htk] at h
          rcases List.mem_append.mp h with h | h
          · exact g5 ld h
          · rw [List.mem_singleton.mp h];exact hb9.mp rfl
        | false =>
          refine bY rfl ?_
          obtain⟨lq,u,rfl,hlq,hu⟩:=PV.aI pv8 fun p zs e=>s9 _ _ e
          have hlq:H9 lq=some (.tup [.int (k:Nat),u]):=hlq
          have hu:FV H9 u U:=hu
          have nm:¬ Met tab' (k,U):=fun h=>by have:=hb9.mpr h;cases this
          have aG:tab'[k]? = some tab'[k]:=by simp [hkt]
          generalize tab'[k] = o at aG
          obtain⟨ev2,hev2,bo2⟩:=h8 g2 aG
          have bo2:=BV.same bo2 s9
          have htl9:=s9 _ _ g1
          refine⟨_,rfl,lq,_,0,_,rfl,rfl,ay.of hlq,cf,?_⟩
          refine⟨_,rfl,_,rfl,tl,_,_,_,rfl,rfl,aX.of htl9,bJ hev2,_,rfl,lq,_,1,_,rfl,rfl,ay.of hlq,cG,ev2,u,o,U,rfl,bo2,hu,(fun T h=>bL g4.ok T (h ▸ List.mem_of_getElem? aG)),(fun ss a b=>Nat.le_trans (hU.bL ss a b) (by omega)),fun v H10 f10 s10=>?_⟩
          have htl10:=s10 _ _ htl9
          have hwl10:=s10 _ _ (s9 _ _ g3)
          have hul:=e5 g2
          refine⟨_,rfl,_,rfl,tl,_,_,k,rfl,rfl,htl10,gF (by rw [hul];exact hkt),?_⟩
          refine⟨_,rfl,_,rfl,wl,_,_,k,rfl,rfl,(by rw [au ntw.symm];exact hwl10),gF (by rw [List.length_map,g4.gy];exact hk),?_⟩
          rw [nX]
          have kt:∀ p zs,H10 p=some (.tup zs)->(upd (upd H10 tl (.lst (us'.set k v))) wl (.lst ((bs'.set k true).map V.bl))) p=some (.tup zs):=fun p zs e=>by
            rw [au (bA e hwl10 (by intro z;cases z)),au (bA e htl10 (by intro z;cases z))];exact e
          have pw:=se (xs:=xs) aG (fun T h=>g4.ok T (h ▸ List.mem_of_getElem? aG)) nm
          refine⟨us'.set k v,tab'.set k (some (fC o U)),bs'.set k true,_,_,rfl,(by rw [au ntw,ae]),?_,ae,g4.put aG hU,fun ld h=>?_,fun h=>?_,(by rw [iu hld,gT];exact oH nm aG),.inr ?_,(fun p zs e=>kt p zs (s10 _ _ (s9 _ _ (g8 p zs e)))),(((g9.trans s9).trans s10).put ntl0).put nwl0⟩
          · exact gW (F:=BV _) (show BV _ v (some (fC o U)) from FV.aI f10 kt) k (cI.aI kt (cI.same (cI.same g2 s9) s10))
          · rw [htk] at h
            rcases List.mem_append.mp h with h | h
            · exact (g5 ld h).up aG
            · rw [List.mem_singleton.mp h];exact Met.new aG
          · by_cases ek:k=at_
            · subst ek
              rw [List.getElem?_set_self (by rw [g4.gy];exact hk)] at h
              cases h
            · rw [List.getElem?_set_ne ek] at h ⊢
              exact g6 h
          · rcases g7 with ⟨rfl,_⟩ | g7
            · exact pw
            · omega
      · rintro σ H8 ⟨us',tab',bs',u4,u5,rfl,g1,g2,g3,g4,g5,g6,gT,g7,g8,g9⟩
        have hll:=e5 hlv
        rw [hll,List.take_of_length_le (Nat.le_refl _),<-hls] at g5
        refine⟨us',tab',bs',_,_,_,rfl,g1,g2,g3,g4.on hpi g6 g5,?_,g7,g9⟩
        rw [hll,List.take_of_length_le (Nat.le_refl _)] at gT
        rw [<-gT]
        show gX (tab,bs.set (bs.idxOf true) false) (qB ps tab (bs.idxOf true))=_
        rw [qC ha1 ha2]
        unfold qB
        rw [hpi,hT,<-hls]
    · refine bf (by show pK (V.bl true) (bs.map V.bl)=false;rw [hin];exact decide_eq_false ht) ?_
      refine⟨_,rfl,tl,_,rfl,.inl ⟨aX.of htl5,fun t nt=>?_⟩⟩
      exact q t us tab _ ae (cI.same bv5 (ah.new nt)) I5.ok ⟨nr,by rw [hnr],by rw [hnr];exact ht⟩ (s5.trans (ah.new nt))
theorem tJ {f:Addr} {fd:FuncData} (F:bZ K "_law_bag" "_law_bag" gM f fd) (Z:Bl mg)  : bD P w K mg base bX 1 f fd ["script", "k"] (sH K):=by
 refine F.ok (k:=0) j4 (fun vs H Q E h=>?_) (fun cdv A outer s H vs Q E hr h=>?_)
 ·obtain⟨a,ns,k,rfl,_⟩:=h
  rfl
 ·obtain⟨a,ns,k,rfl,hS,hk,q⟩:=h
  refine⟨_,(ai (aJ (i:=2) j4.nd rfl (Or.inl rfl) ao)
   (ai (bu (aP jg (pv 1) (bO cE rfl Z.len fA (aa (pv 0) af)) (aS _))
   (ar (aJ (i:=2) j4.nd rfl (Or.inl rfl) (ba gP (aK bK (pv 0) (pv 1) (fun _ _=>rfl)) (ba xl (ba mP ao ao) (ba mP ao ao)))))
   aU)
   (ai (bu (aP jg (pv 2) (ba mP ao ao) (aS _))
   (ar (aH (cD (aa ao (aa (ba cL ao (ba gP (ba cL (ba iZ (pv 2) ao) (ba iZ ao (pv 1))) ao)) af)))))
   aU)
   (ar (aH (cD (aa (pv 2) (aa (ba cL ao (ba gP (ba cL (pv 2) (pv 1)) ao)) af)))))))),?_⟩
  refine⟨_,rfl,_,rfl,_,_,rfl,.inl hS,_,_,rfl,rfl,_,rfl,?_⟩
  refine cM (fun hc=>?_) (fun hc=>?_)
  ·have hl:k < ((ns.map V.int).length:Nat):=of_decide_eq_true hc
   obtain⟨v,hv,hm⟩:=sG hk hl
   obtain⟨z,_,rfl⟩:=List.mem_map.mp hm
   refine⟨_,rfl,_,rfl,_,_,_,_,rfl,rfl,hS,hv,10,60,rfl,rfl,⟨by decide,by decide,by decide⟩,10,60,rfl,rfl,⟨by decide,by decide,by decide⟩,_,_,rfl,rfl,(by unfold IntMulOk;decide +kernel),_,_,rfl,rfl,(show (0:Int) < 10 ^ (60:Int).toNat * 10 ^ (60:Int).toNat by decide +kernel),?_⟩
   refine⟨_,rfl,10,18,rfl,rfl,⟨by decide,by decide,by decide⟩,_,_,rfl,rfl,_,rfl,?_⟩
   refine cM (fun hd=>?_) (fun hd=>?_)
   ·refine⟨_,rfl,_,_,rfl,rfl,.inr ⟨by decide,by decide⟩,_,rfl,_,_,rfl,rfl,.inl ⟨by decide,by decide⟩,_,_,rfl,rfl,_,_,rfl,rfl,(show (0:Int) < 2147483646 by decide),_,_,rfl,rfl,ln2,fun p hp=>?_⟩
    exact q p _ hp ⟨_,_,ae,by omega,by omega⟩ (ah.new hp)
   ·refine⟨_,rfl,_,rfl,_,rfl,_,_,rfl,rfl,_,_,rfl,rfl,(show (0:Int) < 2147483646 by decide),_,_,rfl,rfl,ln2,fun p hp=>?_⟩
    exact q p _ hp ⟨_,_,ae,by omega,by omega⟩ (ah.new hp)
  ·refine⟨_,rfl,10,18,rfl,rfl,⟨by decide,by decide,by decide⟩,_,_,rfl,rfl,_,rfl,?_⟩
   refine cM (fun hd=>?_) (fun hd=>?_)
   ·refine⟨_,rfl,_,_,rfl,rfl,.inr ⟨by decide,by decide⟩,_,rfl,_,_,rfl,rfl,.inl ⟨by decide,by decide⟩,_,_,rfl,rfl,_,_,rfl,rfl,(show (0:Int) < 2147483646 by decide),_,_,rfl,rfl,ln2,fun p hp=>?_⟩
    exact q p _ hp ⟨_,_,ae,by omega,by omega⟩ (ah.new hp)
   ·refine⟨_,rfl,_,rfl,_,rfl,_,_,rfl,rfl,_,_,rfl,rfl,(show (0:Int) < 2147483646 by decide),_,_,rfl,rfl,ln2,fun p hp=>?_⟩
    exact q p _ hp ⟨_,_,ae,by omega,by omega⟩ (ah.new hp)
theorem qZ {f:Addr} {fd:FuncData} (F:bZ K "_law_take" "_law_take" fN f fd) (Z:Bl mg)  : bD P w K mg base bX 1 f fd ["bag", "many"] gc:=by
 refine F.ok (k:=0) lX (fun vs H Q E h=>?_) (fun cdv A outer s H vs Q E hr h=>?_)
 ·obtain⟨b,m,rfl,_⟩:=h
  rfl
 ·obtain⟨b,m,rfl,⟨x,y,hb,h0,h1⟩,hm,q⟩:=h
  refine⟨_,(ai (bu (aP jh (aK bK (pv 0) ao (fun _ _=>rfl)) ao (aS _))
   (ai (aJ (i:=2) lX.nd rfl (Or.inl rfl) (ba gP (aK bK (pv 0) ao (fun _ _=>rfl)) (pv 1)))
   (ai (bT (ba vk (aK bK (pv 0) ao (fun _ _=>rfl)) (pv 1)) (fw (pv 0) ao set_list))
   (ar (aH (pv 2)))))
   aU)
   (ai (bT (ba gP (ba iZ (aK bK (pv 0) ao (fun _ _=>rfl)) ao) ao) (fw (pv 0) ao set_list))
   (ar (aH (ba gP (ba nE (ba gP (ba iZ (aK bK (pv 0) ao (fun _ _=>rfl)) (aK bK (pv 0) ao (fun _ _=>rfl))) ao) ao) (pv 1)))))),?_⟩
  refine⟨_,rfl,b,_,0,_,rfl,rfl,aX.of hb,cf,_,_,rfl,rfl,_,rfl,?_⟩
  refine cM (fun hc=>?_) (fun hc=>?_)
  ·refine⟨_,rfl,b,_,0,_,rfl,rfl,aX.of hb,cf,_,rfl,_,_,rfl,rfl,hm.1,?_⟩
   refine⟨_,rfl,b,_,0,_,rfl,rfl,aX.of hb,cf,_,rfl,_,_,rfl,rfl,hm,_,rfl,b,_,0,0,rfl,rfl,hb,rfl,?_⟩
   refine⟨_,rfl,?_⟩
   exact q _ _ (Int.emod_nonneg _ (by have:=hm.1;omega)) (Int.emod_lt_of_pos _ hm.1) ⟨_,_,ae,h0,h1⟩ Fix.wL
  ·refine⟨_,rfl,b,_,1,_,rfl,rfl,aX.of hb,cG,_,_,rfl,rfl,.inr ⟨by decide,by decide⟩,_,_,rfl,rfl,(show (0:Int) < 2147483647 by decide),_,rfl,b,_,1,1,rfl,rfl,hb,rfl,?_⟩
   refine⟨_,rfl,b,_,1,_,rfl,rfl,aX.of ae,cG,_,rfl,b,_,1,_,rfl,rfl,aX.of ae,cG,_,_,rfl,rfl,.inl ⟨by omega,by omega⟩,_,_,rfl,rfl,(show (0:Int) < 2147483629 by decide),_,_,rfl,rfl,⟨by decide,by decide⟩,_,rfl,_,_,rfl,rfl,hm.1,?_⟩
   exact q _ _ (Int.emod_nonneg _ (by have:=hm.1;omega)) (Int.emod_lt_of_pos _ hm.1) ⟨_,_,ae,by omega,by omega⟩ Fix.wL
theorem qH {f:Addr} {fd:FuncData} (F:bZ K "_law_names" "_law_names" fk f fd) (Z:Bl mg) (O_law_take:Own P w K mg base "_law_take" 1 ["bag", "many"] gc):bD P w K mg base bX 2 f fd ["bag"] nI:=by
  refine F.ok (k:=1) cX (fun vs H Q E h=>?_) (fun cdv A outer s H vs Q E hr h=>?_)
  · obtain⟨b,rfl,_⟩:=h
    rfl
  · obtain⟨b,rfl,hB,q⟩:=h
    refine⟨_,(ai (aJ (i:=1) cX.nd rfl (Or.inr rfl) bF)
      (ai (aJ (i:=2) cX.nd rfl (Or.inl rfl) (ba cL ao (aC O_law_take (hr.mono (by decide)) rfl (aa (pv 0) (aa ao af)))))
      (ai (pV (i:=3) ["k"] ["letters", "bag"] [1,0] rfl cX.nd rfl rfl rfl (fz rfl Z.range (aa (ba cL ao (aC O_law_take (hr.mono (by decide)) rfl (aa (pv 0) (aa ao af)))) af)) rfl (by decide +kernel) (by decide +kernel) (by decide +kernel) ⟨⟨rfl,.inl rfl,rfl⟩,⟨⟨rfl,.inl rfl,rfl⟩,True.intro⟩⟩ (fun _ _ _ _=>(aF (i:=0) (show ((["k"]:List Str)++(["letters", "bag"]:List Str)).Nodup by decide +kernel) rfl (Or.inl rfl) (hf:=Or.inr rfl))) (fun _ _ _ _=>er) (fun _ _ _ _=>(aK mS (pv 1) (aC O_law_take (hr.mono (by decide)) rfl (aa (pv 2) (aa ao af))) (fun _ _=>rfl))))
      (ai (aJ (i:=4) cX.nd rfl (Or.inl rfl) (aC O_law_take (hr.mono (by decide)) rfl (aa (pv 0) (aa (bO cE rfl Z.len fA (aa (pv 3) af)) af))))
      (ai (aJ (i:=5) cX.nd rfl (Or.inl rfl) (cD af))
      (ai (dH PassesOwn.never rfl (fz rfl Z.range (aa (pv 2) af)) (aF (i:=6) cX.nd rfl (Or.inl rfl))
      (ai (aJ (i:=7) cX.nd rfl (Or.inl rfl) (bw pM rfl Z.list rJ (aa (pv 3) af)))
      (ai (bT (aK mS (pv 1) (aC O_law_take (hr.mono (by decide)) rfl (aa (pv 0) (aa ao af))) (fun _ _=>rfl)) (fw (pv 7) (pv 4) set_list))
      (ar (bu (aP pL (ik PySem.F.plainAttrs_str PySem.F.slot_str_join PySem.F.type_str_join rM bF (aa (pv 7) af)) (pv 5) (by with_unfolding_all rfl))
      (ar (fF (ik PySem.F.plainAttrs_list PySem.F.slot_list_append PySem.F.type_list_append gB (pv 5) (aa (ik PySem.F.plainAttrs_str PySem.F.slot_str_join PySem.F.type_str_join rM bF (aa (pv 7) af)) af))))
      aU)))))
      (ar (aH (pv 5))))))))),?_⟩
    refine⟨_,rfl,b,4,rfl,hB,⟨by decide,by decide +kernel⟩,fun m H1 m0 m1 B1 X1=>⟨_,_,rfl,rfl,?_⟩⟩
    refine⟨_,rfl,b,8,rfl,B1,⟨by decide,by decide +kernel⟩,fun k H2 k0 k1 B2 X2=>⟨_,_,rfl,rfl,_,rfl,(by omega),(by omega),fun acc na=>?_⟩⟩
    refine mf (lo:=0) (fun i ys τ H'=>∃ (v:Option V) (cs:List Nat),τ = [v,some (.str jJ),some (.ref b)]/\ys=(cs.map one).map V.str/\cs.length=i/\(∀ c ∈ cs,97<=c/\c<=122)/\H' acc=some (.lst ys)/\cK H' b/\Fix b H2 H') ?_ ?_ ?_ ?_
    · exact⟨none,[],rfl,rfl,rfl,(fun _ h=>nomatch h),ae,B2.new na,Fix.new na⟩
    · rintro i ys τ H' hi ⟨v,cs,rfl,rfl,hl,_,ha,_⟩
      refine⟨ha,?_⟩
      rw [List.length_map,List.length_map]
      exact br (by omega)
    · rintro i ys τ H' hi ⟨v,cs,rfl,rfl,hl,hc,ha,B',X'⟩
      refine bM ?_
      refine jw ?_
      refine aW ?_
      refine⟨_,rfl,_,rfl,b,26,rfl,B',⟨by decide,by decide +kernel⟩,fun r H3 r0 r1 B3 X3=>?_⟩
      obtain⟨c,hat,c0,c1⟩:=mY r0 r1
      have hab:acc ≠ b:=B2.fb na
      have ha3:=X3 acc _ ha hab
      refine⟨jJ,r,c,rfl,rfl,lj,hat,ha3,_,cs ++ [c],rfl,?_,?_,?_,ae,?_,?_⟩
      · rw [List.map_append,List.map_append];rfl
      · rw [List.length_append,hl];rfl
      · intro d hd
        rcases List.mem_append.mp hd with hd | hd
        · exact hc d hd
        · rw [List.mem_singleton.mp hd];exact⟨c0,c1⟩
      · obtain⟨x,y,e,z⟩:=B3
        exact⟨x,y,by rw [au hab.symm];exact e,z⟩
      · intro d o hd nd
        rw [au (aY hd na)]
        exact (X'.trans X3) d o hd nd
    · rintro ys τ H3 ⟨v,cs,rfl,rfl,hl,hc,ha,B3,X3⟩
      have hab:acc ≠ b:=B2.fb na
      have hl1:1<=cs.length:=by omega
      have hl8:cs.length<=8:=by omega
      have F3:Fix b H H3:=(X1.trans X2).trans X3
      have el:(((cs.map one).map V.str).length:Int)=cs.length:=by simp
      refine⟨_,rfl,_,rfl,acc,_,rfl,.inl (aX.of ha),b,_,rfl,B3,⟨by omega,iB (by omega) (by omega)⟩,fun at_ H4 t0 t1 B4 X4=>?_⟩
      refine⟨(by show 0<=sizeLine;decide),fun nl nn=>?_⟩
      have hnb:nl ≠ b:=B4.fb nn
      have ha4:H4 acc=some (.lst ((cs.map one).map V.str)):=X4 acc _ ha hab
      have hna:nl ≠ acc:=fun z=>by rw [z,ha4] at nn;cases nn
      have F4:Fix b H H4:=F3.trans X4
      refine⟨_,rfl,_,rfl,(by omega),(by omega),jf (lo:=0) (fun i σ H'=>∃ (u1 u2:Option V) (xs:List Str),σ = [some (.ref b),some (.str jJ),some (.int (1+m)),some (.ref acc),some (.int at_),some (.ref nl),u1,u2] /\
        H' nl=some (.lst (xs.map V.str))/\xs.length<=i/\(0 < i->xs ≠ [])/\(∀ x ∈ xs,gd x)/\H' acc=some (.lst ((cs.map one).map V.str))/\cK H' b/\Fix b H H') ?_ ?_ ?_⟩
      · exact⟨_,_,[],rfl,ae,Nat.le_refl _,(fun h=>absurd h (Nat.lt_irrefl _)),(fun _ h=>nomatch h),(by rw [au hna.symm];exact ha4),B4.new nn,F4.trans (Fix.new nn)⟩
      · rintro i σ H' hi ⟨u1,u2,xs,rfl,hn,hx,hx0,aG,ha',B',X'⟩
        refine⟨_,rfl,acc,_,rfl,.inl (aX.of ha'),fun nm mm=>?_⟩
        have nmb:nm ≠ b:=B'.fb mm
        have nma:nm ≠ acc:=fun z=>by rw [z,ha'] at mm;cases mm
        have nmn:nm ≠ nl:=fun z=>by rw [z,hn] at mm;cases mm
        refine⟨_,rfl,_,rfl,b,26,rfl,B'.new mm,⟨by decide,by decide +kernel⟩,fun r H5 r0 r1 B5 X5=>?_⟩
        obtain⟨c,hat,c0,c1⟩:=mY r0 r1
        have h5:H5 nm=some (.lst ((cs.map one).map V.str)):=X5 nm _ ae nmb
        have hn5:H5 nl=some (.lst (xs.map V.str)):=X5 nl _ (by rw [au nmn.symm];exact hn) hnb
        have ha5:H5 acc=some (.lst ((cs.map one).map V.str)):=X5 acc _ (by rw [au nma.symm];exact ha') hab
        obtain⟨j,rfl⟩:∃ j:Nat,at_=j:=⟨at_.toNat,by omega⟩
        have hj:j < cs.length:=by omega
        have hix:km ((cs.map one).map V.str).length (j:Int)=some j:=by
          unfold km
          rw [if_pos (by omega),if_pos (by rw [el];omega)]
          simp
        refine⟨jJ,r,c,rfl,rfl,lj,hat,_,rfl,_,rfl,nm,_,(j:Int),j,rfl,rfl,h5,hix,?_⟩
        have eset:((cs.map one).map V.str).set j (.str ⟨#[c]⟩)=((cs.set j c).map one).map V.str:=by
          rw [List.map_set,List.map_set];rfl
        rw [eset]
        have hc':∀ d ∈ cs.set j c,97<=d/\d<=122:=fun d hd=>by
          rcases List.mem_or_eq_of_mem_set hd with hd | hd
          · exact hc d hd
          · rw [hd];exact⟨c0,c1⟩
        have hjl:(((cs.set j c).map one).map (·.length)).sum+((cs.set j c).map one).length * (Str.ofString "").length<=16777216:=by
          have e1:(Str.ofString "").length=0:=by decide +kernel
          have e2:∀ l:List Nat,((l.map one).map (·.length)).sum=l.length:=by
            intro l
            induction l with
            | nil=>rfl
            | cons a l ih=>simp only [List.map_cons,List.sum_cons,ih,List.length_cons];show 1+l.length=_;omega
          rw [e1,e2,List.length_set]
          omega
        have nk:gd (Txt.join (Str.ofString "") ((cs.set j c).map one)):=by
          rw [vm]
          have ej:=L2.join_ones (cs.set j c)
          have eL:(Txt.join Str.empty ((cs.set j c).map one)).length=(cs.set j c).length:=by
            have:=congrArg List.length ej
            rw [Array.length_toList] at this
            exact this
          refine⟨?_,?_,?_⟩
          · rw [eL,List.length_set];exact hl1
          · rw [eL,List.length_set];exact hl8
          · rw [ej];exact hc'
        have n6:upd H5 nm (.lst (((cs.set j c).map one).map V.str)) nl=some (.lst (xs.map V.str)):=by rw [au nmn.symm];exact hn5
        have a6:upd H5 nm (.lst (((cs.set j c).map one).map V.str)) acc=some (.lst ((cs.map one).map V.str)):=by rw [au nma.symm];exact ha5
        have B6:cK (upd H5 nm (.lst (((cs.set j c).map one).map V.str))) b:=by
          obtain⟨x,y,e,z⟩:=B5
          exact⟨x,y,by rw [au nmb.symm];exact e,z⟩
        have F6:Fix b H (upd H5 nm (.lst (((cs.set j c).map one).map V.str))):=fun d o hd nd=>by
          have h1:=X' d o hd nd
          have nd':d ≠ nm:=fun z=>by rw [z,mm] at h1;cases h1
          rw [au nd']
          exact X5 d o (by rw [au nd'];exact h1) nd
        have flat:(xs.map V.str).all gi=true:=by
          rw [List.all_eq_true]
          intro v hv
          obtain⟨x,_,rfl⟩:=List.mem_map.mp hv
          rfl
        refine⟨rfl,_,rfl,_,nm,_,rfl,rfl,aX.of ae,hjl,_,rfl,nl,_,rfl,.inl (aX.of n6),rfl,flat,_,rfl,?_⟩
        refine cM (fun hin=>?_) (fun hin=>?_)
        · refine⟨_,rfl,.inl ⟨rfl,_,aX.of n6⟩,rfl,_,rfl,_,nm,_,rfl,rfl,aX.of ae,hjl,nl,_,_,rfl,rfl,n6,?_,?_⟩
          · rw [List.length_map]
            have:i < 4:=by omega
            exact br (by omega)
          · refine⟨_,_,xs ++ [_],rfl,(by rw [ae,List.map_append];rfl),(by rw [List.length_append];exact Nat.succ_le_succ hx),(fun _=>by simp),?_,(by rw [au hna.symm];exact a6),?_,?_⟩
            · intro x hxm
              rcases List.mem_append.mp hxm with hxm | hxm
              · exact aG x hxm
              · rw [List.mem_singleton.mp hxm];exact nk
            · obtain⟨x,y,e,z⟩:=B6
              exact⟨x,y,by rw [au hnb.symm];exact e,z⟩
            · intro d o hd nd
              have h1:=F6 d o hd nd
              have nd':d ≠ nl:=fun z=>by
                have h2:=F4 d o hd nd
                rw [z,nn] at h2
                cases h2
              rw [au nd']
              exact h1
        · have hx':xs ≠ []:=by
            intro e
            subst e
            exact hin rfl
          exact⟨_,_,xs,rfl,n6,Nat.le_succ_of_le hx,fun _=>hx',aG,a6,B6,F6⟩
      · rintro σ H' ⟨u1,u2,xs,rfl,hn,hx,hx0,aG,ha',B',X'⟩
        refine⟨_,rfl,?_⟩
        have hm:(1+m).toNat<=4:=by omega
        have hm0:0 < (1+m).toNat:=by omega
        exact q nl xs H' ⟨hn,hnb,hx0 hm0,by omega,aG⟩ (Nat.le_trans hx hm) B' X'
theorem oZ {f:Addr} {fd:FuncData} (F:bZ K "_law_number" "_law_number" eN f fd) (Z:Bl mg) (O_law_take:Own P w K mg base "_law_take" 1 ["bag", "many"] gc):bD P w K mg base bX 2 f fd ["bag"] jV:=by
  refine F.ok (k:=1) oV (fun vs H Q E h=>?_) (fun cdv A outer s H vs Q E hr h=>?_)
  · obtain⟨b,rfl,_⟩:=h
    rfl
  · obtain⟨b,rfl,hB,q⟩:=h
    refine⟨_,(ai (bu (aP cg (aC O_law_take (hr.mono (by decide)) rfl (aa (pv 0) (aa ao af))) ao (aS _))
      (ar (aH (ba iZ (ba fZ (ba fZ (ba mP ao ao) ao) (aC O_law_take (hr.mono (by decide)) rfl (aa (pv 0) (aa ao af)))) (ba fZ ao (ba iZ ao (aC O_law_take (hr.mono (by decide)) rfl (aa (pv 0) (aa ao af))))))))
      aU)
      (ar (aH (ba fZ (aC O_law_take (hr.mono (by decide)) rfl (aa (pv 0) (aa ao af))) ao)))),?_⟩
    refine⟨_,rfl,b,8,rfl,hB,⟨by decide,by decide +kernel⟩,fun r H1 r0 r1 B1 X1=>⟨rfl,_,rfl,?_⟩⟩
    refine cM (fun hc=>?_) (fun hc=>?_)
    · refine⟨10,40,rfl,rfl,⟨by decide,by decide,by decide⟩,_,_,rfl,rfl,?_⟩
      refine⟨_,rfl,b,3,rfl,B1,⟨by decide,by decide +kernel⟩,fun r2 H2 r20 r21 B2 X2=>⟨_,_,rfl,rfl,?_⟩⟩
      refine⟨_,rfl,b,2,rfl,B2,⟨by decide,by decide +kernel⟩,fun r3 H3 r30 r31 B3 X3=>?_⟩
      refine⟨_,_,rfl,rfl,.inl ⟨by decide,by decide⟩,_,_,rfl,rfl,_,_,rfl,rfl,.inr ⟨by omega,by omega⟩,?_⟩
      refine q _ H3 ?_ B3 ((X1.trans X2).trans X3)
      have e:(10:Int) ^ (40:Int).toNat=10 ^ 40:=by decide +kernel
      rw [e]
      obtain rfl | rfl:r3=0\/r3=1:=by omega
      · rw [show (1:Int) - 2 * 0=1 by decide,Int.mul_one];unfold jU;omega
      · rw [show (1:Int) - 2 * 1 = -1 by decide,Int.mul_neg,Int.mul_one];unfold jU;omega
    · refine⟨_,rfl,b,8,rfl,B1,⟨by decide,by decide +kernel⟩,fun r2 H2 r20 r21 B2 X2=>⟨_,_,rfl,rfl,?_⟩⟩
      exact q _ H2 (by unfold jU;omega) B2 (X1.trans X2)
theorem q9 {f:Addr} {fd:FuncData} (F:bZ K "_law_deed" "_law_deed" fO f fd) (Z:Bl mg) (O_law_take:Own P w K mg base "_law_take" 1 ["bag", "many"] gc) (O_law_number:Own P w K mg base "_law_number" 2 ["bag"] jV):bD P w K mg base bX 3 f fd ["bag", "names"] mW:=by
  refine F.ok (k:=2) jD (fun vs H Q E h=>?_) (fun cdv A outer s H vs Q E hr h=>?_)
  · obtain⟨b,l,xs,rfl,_⟩:=h
    rfl
  · obtain⟨b,l,xs,rfl,hB,hN,q⟩:=h
    refine⟨_,(ai (aJ (i:=2) jD.nd rfl (Or.inl rfl) (aK bK (cD (aa bF (aa bF (aa bF (aa bF (aa bF (aa bF (aa bF af)))))))) (aC O_law_take (hr.mono (by decide)) rfl (aa (pv 0) (aa ao af))) (fun _ _=>rfl)))
      (ai (aJ (i:=3) jD.nd rfl (Or.inl rfl) (aK bK (pv 1) (aC O_law_take (hr.mono (by decide)) rfl (aa (pv 0) (aa (bO cE rfl Z.len fA (aa (pv 1) af)) af))) (fun _ _=>rfl)))
      (ai (bu (aP cg (pv 2) bF (aS _))
      (ar (aH (bp (aa (pv 2) (aa (pv 3) (aa (aK bK (pv 1) (aC O_law_take (hr.mono (by decide)) rfl (aa (pv 0) (aa (bO cE rfl Z.len fA (aa (pv 1) af)) af))) (fun _ _=>rfl)) af))))))
      aU)
      (ai (bu (PW.pt (kW (aP cg (pv 2) bF (aS _)) (jF (aP cg (pv 2) bF (aS _)))))
      (ar (aH (bp (aa (pv 2) (aa (pv 3) (aa (aC O_law_number (hr.mono (by decide)) rfl (aa (pv 0) af)) af))))))
      aU)
      (ar (aH (bp (aa (pv 2) (aa (pv 3) af))))))))),?_⟩
    refine⟨Ap,fun l0 m0=>?_⟩
    refine⟨_,rfl,b,7,rfl,hB.new m0,⟨by decide,by decide +kernel⟩,fun r H1 r0 r1 B1 X1=>?_⟩
    have h0:H1 l0=some (.lst [.str "put",.str "copy",.str "add",.str "read",.str "tell",.str "tell",.str "add"]):=X1 l0 _ ae (hB.fb m0)
    have F1:Fix b H H1:=(Fix.new m0).trans X1
    have N1:=hN.fix F1
    have hw:∃ w:Str,(w = "put" \/ w = "copy" \/ w = "add" \/ w = "read" \/ w = "tell")/\fU [V.str "put",.str "copy",.str "add",.str "read",.str "tell",.str "tell",.str "add"] r=some (V.str w):=by
      obtain rfl | rfl | rfl | rfl | rfl | rfl | rfl:r=0\/r=1\/r=2\/r=3\/r=4\/r=5\/r=6:=by omega
      · exact⟨_,.inl rfl,bJ (j:=0) rfl⟩
      · exact⟨_,.inr (.inl rfl),bJ (j:=1) rfl⟩
      · exact⟨_,.inr (.inr (.inl rfl)),bJ (j:=2) rfl⟩
      · exact⟨_,.inr (.inr (.inr (.inl rfl))),bJ (j:=3) rfl⟩
      · exact⟨_,.inr (.inr (.inr (.inr rfl))),bJ (j:=4) rfl⟩
      · exact⟨_,.inr (.inr (.inr (.inr rfl))),bJ (j:=5) rfl⟩
      · exact⟨_,.inr (.inr (.inl rfl)),bJ (j:=6) rfl⟩
    obtain⟨w,hw,hat⟩:=hw
    refine⟨l0,_,r,_,rfl,rfl,aX.of h0,hat,?_⟩
    obtain⟨p0,p1⟩:=N1.pos
    refine⟨_,rfl,_,rfl,_,rfl,l,_,rfl,.inl (aX.of N1.at_),b,_,rfl,B1,⟨p0,iB p0 p1⟩,fun r2 H2 r20 r21 B2 X2=>?_⟩
    have N2:=N1.fix X2
    obtain⟨x,hx,hxm⟩:=mh r20 r21
    refine⟨l,_,r2,_,rfl,rfl,aX.of N2.at_,hx,?_⟩
    refine⟨_,rfl,rfl,_,rfl,?_⟩
    rcases hw with rfl | rfl | rfl | rfl | rfl
    ·
      rw [show decide (V.str "put" = V.str "copy")=false by decide +kernel]
      refine aV ⟨_,rfl,rfl,_,rfl,?_⟩
      rw [show decide (V.str "put" = V.str "put")=true by decide +kernel]
      refine aW (aW ⟨_,rfl,_,rfl,_,rfl,b,rfl,B2,fun n H3 nk B3 X3=>⟨pR,fun t mt=>?_⟩⟩)
      exact q _ (.put x n) _ (.tup ae (.cons (.str _) (.cons (.str _) (.cons (.int _) .nil)))) ⟨hxm,nk⟩ (B3.new mt) (((F1.trans X2).trans X3).trans (Fix.new mt))
    ·
      rw [show decide (V.str "copy" = V.str "copy")=true by decide +kernel]
      obtain⟨p0,p1⟩:=N2.pos
      refine aW ⟨_,rfl,_,rfl,_,rfl,_,rfl,_,rfl,l,_,rfl,.inl (aX.of N2.at_),b,_,rfl,B2,⟨p0,iB p0 p1⟩,fun r3 H3 r30 r31 B3 X3=>?_⟩
      have N3:=N2.fix X3
      obtain⟨y,hy,hym⟩:=mh r30 r31
      refine⟨l,_,r3,_,rfl,rfl,aX.of N3.at_,hy,pR,fun t mt=>?_⟩
      exact q _ (.copy x y) _ (.tup ae (.cons (.str _) (.cons (.str _) (.cons (.str _) .nil)))) ⟨hxm,hym⟩ (B3.new mt) (((F1.trans X2).trans X3).trans (Fix.new mt))
    ·
      rw [show decide (V.str "add" = V.str "copy")=false by decide +kernel]
      refine aV ⟨_,rfl,rfl,_,rfl,?_⟩
      rw [show decide (V.str "add" = V.str "put")=false by decide +kernel]
      refine aV ⟨_,rfl,rfl,_,rfl,?_⟩
      rw [show decide (V.str "add" = V.str "add")=true by decide +kernel]
      refine aW ⟨_,rfl,_,rfl,_,rfl,b,rfl,B2,fun n H3 nk B3 X3=>⟨pR,fun t mt=>?_⟩⟩
      exact q _ (.add x n) _ (.tup ae (.cons (.str _) (.cons (.str _) (.cons (.int _) .nil)))) ⟨hxm,nk⟩ (B3.new mt) (((F1.trans X2).trans X3).trans (Fix.new mt))
    ·
      rw [show decide (V.str "read" = V.str "copy")=false by decide +kernel]
      refine aV ⟨_,rfl,rfl,_,rfl,?_⟩
      rw [show decide (V.str "read" = V.str "put")=false by decide +kernel]
      refine aV ⟨_,rfl,rfl,_,rfl,?_⟩
      rw [show decide (V.str "read" = V.str "add")=false by decide +kernel]
      refine aV ⟨_,rfl,_,rfl,ln2,fun t mt=>?_⟩
      exact q _ (.read x) _ (.tup ae (.cons (.str _) (.cons (.str _) .nil))) hxm (B2.new mt) ((F1.trans X2).trans (Fix.new mt))
    ·
      rw [show decide (V.str "tell" = V.str "copy")=false by decide +kernel]
      refine aV ⟨_,rfl,rfl,_,rfl,?_⟩
      rw [show decide (V.str "tell" = V.str "put")=false by decide +kernel]
      refine aV ⟨_,rfl,rfl,_,rfl,?_⟩
      rw [show decide (V.str "tell" = V.str "add")=false by decide +kernel]
      refine aV ⟨_,rfl,_,rfl,ln2,fun t mt=>?_⟩
      exact q _ (.tell x) _ (.tup ae (.cons (.str _) (.cons (.str _) .nil))) hxm (B2.new mt) ((F1.trans X2).trans (Fix.new mt))
theorem tK {f:Addr} {fd:FuncData} (F:bZ K "_law_end" "_law_end" gN f fd) (Z:Bl mg) (O_law_take:Own P w K mg base "_law_take" 1 ["bag", "many"] gc) (O_law_number:Own P w K mg base "_law_number" 2 ["bag"] jV):bD P w K mg base bX 3 f fd ["bag", "names", "count"] mX:=by
  refine F.ok (k:=2) iP (fun vs H Q E h=>?_) (fun cdv A outer s H vs Q E hr h=>?_)
  · obtain⟨b,l,xs,c,rfl,_⟩:=h
    rfl
  · obtain⟨b,l,xs,c,rfl,hB,hN,c0,c1,q⟩:=h
    refine⟨_,(ai (aJ (i:=3) iP.nd rfl (Or.inl rfl) (aC O_law_take (hr.mono (by decide)) rfl (aa (pv 0) (aa ao af))))
      (ai (bu (aP cg (pv 3) ao (aS _))
      (ar (aH (bp (aa bF af))))
      aU)
      (ai (bu (aP jg (pv 3) ao (aS _))
      (ar (aH (bp (aa bF (aa (aC O_law_take (hr.mono (by decide)) rfl (aa (pv 0) (aa (pv 2) af))) af)))))
      aU)
      (ai (aJ (i:=4) iP.nd rfl (Or.inl rfl) (aK bK (cD (aa bF (aa bF af))) (ba nE (aC O_law_take (hr.mono (by decide)) rfl (aa (pv 0) (aa ao af))) ao) (fun _ _=>rfl)))
      (ai (aJ (i:=5) iP.nd rfl (Or.inl rfl) (aK bK (pv 1) (aC O_law_take (hr.mono (by decide)) rfl (aa (pv 0) (aa (bO cE rfl Z.len fA (aa (pv 1) af)) af))) (fun _ _=>rfl)))
      (ar (aH (bp (aa (pv 4) (aa (pv 5) (aa (aC O_law_number (hr.mono (by decide)) rfl (aa (pv 0) af)) (aa (aC O_law_take (hr.mono (by decide)) rfl (aa (pv 0) (aa (pv 2) af))) (aa (aC O_law_take (hr.mono (by decide)) rfl (aa (pv 0) (aa (pv 2) af))) af))))))))))))),?_⟩
    have ck:(0:Int) < (c:Int)/\(c:Int).natAbs.log2 < 9000:=⟨by omega,iB (by omega) (by omega)⟩
    refine⟨_,rfl,b,9,rfl,hB,⟨by decide,by decide +kernel⟩,fun r H1 r0 r1 B1 X1=>?_⟩
    refine⟨_,rfl,rfl,_,rfl,?_⟩
    refine cM (fun hc=>?_) (fun hc=>?_)
    · refine⟨tY,fun t mt=>?_⟩
      exact q _ .stop _ (.tup ae (.cons (.str _) .nil)) True.intro (B1.new mt) (X1.trans (Fix.new mt))
    refine⟨_,rfl,_,_,rfl,rfl,_,rfl,?_⟩
    refine cM (fun hd=>?_) (fun hd=>?_)
    · refine⟨_,rfl,_,rfl,b,_,rfl,B1,ck,fun p H2 p0 p1 B2 X2=>⟨ln2,fun t mt=>?_⟩⟩
      obtain⟨k,rfl⟩:∃ k:Nat,p=k:=⟨p.toNat,by omega⟩
      exact q _ (.go k) _ (.tup ae (.cons (.str _) (.cons (.int _) .nil))) (show k < c by omega) (B2.new mt) ((X1.trans X2).trans (Fix.new mt))
    · refine⟨ln2,fun l0 m0=>?_⟩
      refine⟨_,rfl,b,3,rfl,B1.new m0,⟨by decide,by decide +kernel⟩,fun z H2 z0 z1 B2 X2=>⟨_,_,rfl,rfl,⟨by decide,by decide⟩,?_⟩⟩
      have h0:H2 l0=some (.lst [.str "less",.str "is"]):=X2 l0 _ ae (B1.fb m0)
      have hw:∃ w:Bool,fU [V.str "less",V.str "is"] (z / 2)=some (V.str (wT w)):=by
        obtain h | h:z / 2=0\/z / 2=1:=by omega
        · rw [h];exact⟨true,cf⟩
        · rw [h];exact⟨false,cG⟩
      obtain⟨w,hat⟩:=hw
      refine⟨l0,_,_,_,rfl,rfl,aX.of h0,hat,?_⟩
      have F2:Fix b H H2:=(X1.trans (Fix.new m0)).trans X2
      have N2:=hN.fix F2
      obtain⟨p0,p1⟩:=N2.pos
      refine⟨_,rfl,_,rfl,_,rfl,l,_,rfl,.inl (aX.of N2.at_),b,_,rfl,B2,⟨p0,iB p0 p1⟩,fun r3 H3 r30 r31 B3 X3=>?_⟩
      have N3:=N2.fix X3
      obtain⟨x,hx,hxm⟩:=mh r30 r31
      refine⟨l,_,r3,_,rfl,rfl,aX.of N3.at_,hx,?_⟩
      refine⟨_,rfl,_,rfl,_,rfl,b,rfl,B3,fun n H4 nk B4 X4=>?_⟩
      refine⟨_,rfl,_,rfl,b,_,rfl,B4,ck,fun p H5 p0 p1 B5 X5=>?_⟩
      refine⟨_,rfl,_,rfl,b,_,rfl,B5,ck,fun p' H6 p0' p1' B6 X6=>⟨Ao,fun t mt=>?_⟩⟩
      obtain⟨k,rfl⟩:∃ k:Nat,p=k:=⟨p.toNat,by omega⟩
      obtain⟨k',rfl⟩:∃ k:Nat,p' = k:=⟨p'.toNat,by omega⟩
      exact q _ (.d6 w x n k k') _ (.tup ae (.cons (.str _) (.cons (.str _) (.cons (.int _) (.cons (.int _) (.cons (.int _) .nil)))))) ⟨hxm,nk,by omega,by omega⟩ (B6.new mt) ((((F2.trans X3).trans X4).trans (X5.trans X6)).trans (Fix.new mt))
theorem rh {f:Addr} {fd:FuncData} (F:bZ K "_law_plan" "_law_plan" fP f fd) (Z:Bl mg) (O_law_take:Own P w K mg base "_law_take" 1 ["bag", "many"] gc) (O_law_names:Own P w K mg base "_law_names" 2 ["bag"] nI) (O_law_deed:Own P w K mg base "_law_deed" 3 ["bag", "names"] mW) (O_law_end:Own P w K mg base "_law_end" 3 ["bag", "names", "count"] mX):bD P w K mg base bX 4 f fd ["bag", "count", "most"] pY:=by
  refine F.ok (k:=3) fm (fun vs H Q E h=>?_) (fun cdv A outer s H vs Q E hr h=>?_)
  · obtain⟨b,c,m,rfl,_⟩:=h
    rfl
  · obtain⟨b,c,m,rfl,hB,c0,c1,hm,q⟩:=h
    refine⟨_,(ai (aJ (i:=3) fm.nd rfl (Or.inr rfl) (aC O_law_names (hr.mono (by decide)) rfl (aa (pv 0) af)))
      (ai (aJ (i:=4) fm.nd rfl (Or.inl rfl) (cD af))
      (ai (dH PassesOwn.never rfl (fz rfl Z.range (aa (pv 1) af)) (aF (i:=5) fm.nd rfl (Or.inl rfl))
      (ai (aJ (i:=6) fm.nd rfl (Or.inl rfl) (aC O_law_take (hr.mono (by decide)) rfl (aa (pv 0) (aa (ba cL (pv 2) ao) af))))
      (ai (aJ (i:=7) fm.nd rfl (Or.inl rfl) (aC O_law_end (hr.mono (by decide)) rfl (aa (pv 0) (aa (pv 3) (aa (pv 1) af)))))
      (ar (fF (ik PySem.F.plainAttrs_list PySem.F.slot_list_append PySem.F.type_list_append gB (pv 4) (aa (bp (aa (bw bH rfl Z.tuple cN (aa (dJ ["j"] ["bag", "names"] [0,3] rfl (fz rfl Z.range (aa (pv 6) af)) rfl (by decide +kernel) (by decide +kernel) (by decide +kernel) ⟨⟨rfl,.inl rfl,rfl⟩,⟨⟨rfl,.inl rfl,rfl⟩,True.intro⟩⟩ (fun _ _ _ _=>(aF (i:=0) (show ((["j"]:List Str)++(["bag", "names"]:List Str)).Nodup by decide +kernel) rfl (Or.inl rfl) (hf:=Or.inr rfl))) (fun _ _ _ _=>er) (fun _ _ _ _=>(aC O_law_deed (hr.mono (by decide)) rfl (aa (pv 1) (aa (pv 2) af))))) af)) (aa (pv 7) af))) af)))))))
      (ar (aH (bw bH rfl Z.tuple cN (aa (pv 4) af))))))),?_⟩
    refine⟨_,rfl,b,rfl,hB,fun l xs H1 N1 x4 B1 X1=>?_⟩
    refine⟨(by show 0<=sizeLine;decide),fun pl pn=>?_⟩
    have hpb:pl ≠ b:=B1.fb pn
    refine⟨_,rfl,_,rfl,(by omega),(by omega),jf (lo:=0) (fun i σ H'=>∃ (u1 u2 u3:Option V) (ps:List Piece) (vs:List V),σ = [some (.ref b),some (.int c),some (.int m),some (.ref l),some (.ref pl),u1,u2,u3] /\
      H' pl=some (.lst vs)/\bg H' vs (ps.map fc)/\ps.length=i/\(∀ p ∈ ps,(p.1.length<=m/\∀ d ∈ p.1,eB xs d)/\mV xs c p.2)/\eC H' b l xs/\cK H' b/\Fix b H H'/\(∀ d o,H1 d=some o->d ≠ b->H' d=some o)) ?_ ?_ ?_⟩
    · exact⟨_,_,_,[],[],rfl,ae,.nil,rfl,(fun _ h=>nomatch h),N1.fix (Fix.new pn),B1.new pn,X1.trans (Fix.new pn),Fix.new pn⟩
    · rintro i σ H' hi ⟨u1,u2,u3,ps,vs,rfl,hp,hr,hl,aG,N',B',X',Y'⟩
      refine⟨_,rfl,_,rfl,_,_,rfl,rfl,b,_,rfl,B',⟨by omega,iB (by omega) (by omega)⟩,fun k H2 k0 k1 B2 X2=>?_⟩
      have N2:=N'.fix X2
      refine⟨_,rfl,_,rfl,_,rfl,b,l,xs,c,rfl,B2,N2,c0,(by omega),fun ev e H3 re ek B3 X3=>?_⟩
      have N3:=N2.fix X3
      have hp3:H3 pl=some (.lst vs):=(X2.trans X3) pl _ hp hpb
      have hr3:bg H3 vs (ps.map fc):=hr.fix B' (X2.trans X3) (bQ ps)
      refine⟨_,rfl,.inl ⟨rfl,_,aX.of hp3⟩,_,rfl,_,rfl,(by omega),(by omega),fun acc na=>?_⟩
      have hab:acc ≠ b:=B3.fb na
      refine mf (lo:=0) (fun i ys τ H'=>∃ (v:Option V) (ds:List cx),τ = [v,some (.ref b),some (.ref l)]/\bg H' ys (ds.map dN)/\ds.length=i/\(∀ d ∈ ds,eB xs d)/\H' acc=some (.lst ys)/\cK H' b/\Fix b H3 H') ?_ ?_ ?_ ?_
      · exact⟨none,[],rfl,.nil,rfl,(fun _ h=>nomatch h),ae,B3.new na,Fix.new na⟩
      · rintro i' ys τ H4 hi' ⟨v,ds,rfl,rds,hl',_,ha,_⟩
        refine⟨ha,?_⟩
        rw [rds.len,List.length_map]
        exact br (by omega)
      · rintro i' ys τ H4 hi' ⟨v,ds,rfl,rds,hl',hdk,ha,B4,X4⟩
        refine bM ?_
        refine jw ?_
        refine aW ?_
        refine⟨_,rfl,_,rfl,b,l,xs,rfl,B4,N3.fix X4,fun dv d H5 rd dk B5 X5=>?_⟩
        have ha5:=X5 acc _ ha hab
        refine⟨ha5,_,ds ++ [d],rfl,?_,(by rw [List.length_append,hl'];rfl),?_,ae,?_,?_⟩
        · rw [List.map_append]
          refine bg.app ((rds.fix B4 X5 (cq ds)).put ha5 (cq ds)) ?_
          exact rd.aI (fun p zs e=>by rw [au (bA e ha5 (by intro z;cases z))];exact e) (jv d)
        · intro d' hd
          rcases List.mem_append.mp hd with hd | hd
          · exact hdk d' hd
          · rw [List.mem_singleton.mp hd];exact dk
        · obtain⟨x,y,e,z⟩:=B5
          exact⟨x,y,by rw [au hab.symm];exact e,z⟩
        · intro d' o hd nd
          rw [au (aY hd na)]
          exact (X4.trans X5) d' o hd nd
      · rintro ys τ H4 ⟨v,ds,rfl,rds,hl',hdk,ha,B4,X4⟩
        refine⟨acc,ys,rfl,.inl ⟨aX.of ha,fun tp tn=>?_⟩⟩
        refine⟨_,rfl,ln2,fun pc pcn=>?_⟩
        have S6:ah H4 (upd (upd H4 tp (.tup ys)) pc (.tup [.ref tp,ev])):=(ah.new tn).trans (ah.new pcn)
        have hp6:(upd (upd H4 tp (.tup ys)) pc (.tup [.ref tp,ev])) pl=some (.lst vs):=S6 _ _ (X4 pl _ hp3 hpb)
        refine⟨pl,_,_,rfl,rfl,hp6,?_,?_⟩
        · rw [hr.len,List.length_map,hl]
          exact br (by omega)
        have hpiece:bB (upd (upd H4 tp (.tup ys)) pc (.tup [.ref tp,ev])) (.ref pc) (fc (ds,e)):=by
          refine .tup ae (.cons (.tup (ah.new pcn _ _ ae) (rds.same S6 (cq ds))) (.cons ?_ .nil))
          exact (re.fix B3 X4 (iM e)).same S6 (iM e)
        have F6:Fix b H (upd (upd H4 tp (.tup ys)) pc (.tup [.ref tp,ev])):=((X'.trans (X2.trans X3)).trans X4).trans (Fix.of_same S6)
        have plH:∀ d o,H1 d=some o->d ≠ b->d ≠ pl:=fun d o hd nd z=>by rw [z,pn] at hd;cases hd
        refine⟨_,_,_,ps ++ [(ds,e)],vs ++ [.ref pc],rfl,ae,?_,(by rw [List.length_append,hl];rfl),?_,?_,?_,?_,?_⟩
        · rw [List.map_append]
          refine bg.app (((hr3.fix B3 X4 (bQ ps)).same S6 (bQ ps)).put hp6 (bQ ps)) ?_
          exact hpiece.aI (fun p zs e=>by rw [au (bA e hp6 (by intro z;cases z))];exact e) (i4 (ds,e))
        · intro p hpm
          rcases List.mem_append.mp hpm with hpm | hpm
          · exact aG p hpm
          · rw [List.mem_singleton.mp hpm]
            exact⟨⟨by show ds.length<=m;omega,hdk⟩,ek⟩
        · have hll:l ≠ pl:=fun z=>by
            have:=N1.at_
            rw [z,pn] at this
            cases this
          have N6:=(N3.fix X4).fix (Fix.of_same (b:=b) S6)
          exact⟨by rw [au hll];exact N6.at_,N6.ne,N6.o8,N6.bL,N6.ok⟩
        · obtain⟨x,y,e',z⟩:=B4.same S6
          exact⟨x,y,by rw [au hpb.symm];exact e',z⟩
        · intro d o hd nd
          have h1:=X1 d o hd nd
          rw [au (plH d o h1 nd)]
          exact F6 d o hd nd
        · intro d o hd nd
          rw [au (plH d o hd nd)]
          exact S6 d o (X4 d o ((X2.trans X3) d o (Y' d o hd nd) nd) nd)
    · rintro σ H' ⟨u1,u2,u3,ps,vs,rfl,hp,hr,hl,aG,N',B',X',Y'⟩
      have hl':ps.length=c:=by rw [hl];omega
      refine⟨_,rfl,pl,_,rfl,.inl ⟨aX.of hp,fun tp tn=>?_⟩⟩
      refine q (.ref tp) xs ps _ (.tup ae (hr.same (ah.new tn) (bQ ps))) hl' ⟨fun p hpm=>(aG p hpm).1,fun p hpm=>?_⟩ ⟨N'.ok,x4⟩ (B'.new tn) (X'.trans (Fix.new tn))
      rw [hl']
      exact (aG p hpm).2
theorem qI {f:Addr} {fd:FuncData} (F:bZ K "_law_count" "_law_count" fq f fd) (Z:Bl mg) (O_law_take:Own P w K mg base "_law_take" 1 ["bag", "many"] gc):bD P w K mg base bX 2 f fd ["bag", "most"] nJ:=by
 refine F.ok (k:=1) qE (fun vs H Q E h=>?_) (fun cdv A outer s H vs Q E hr h=>?_)
 ·obtain⟨b,m,rfl,_⟩:=h
  rfl
 ·obtain⟨b,m,rfl,hB,m0,m1,q⟩:=h
  refine⟨_,(ar (aH (aK bK (cD (aa (ba cL ao (aC O_law_take (hr.mono (by decide)) rfl (aa (pv 0) (aa (pv 1) af)))) (aa (ba cL ao (aC O_law_take (hr.mono (by decide)) rfl (aa (pv 0) (aa (bO (om rfl) rfl Z.min pQ (aa ao (aa (pv 1) af))) af)))) (aa (pv 1) af)))) (aC O_law_take (hr.mono (by decide)) rfl (aa (pv 0) (aa ao af))) (fun _ _=>rfl)))),?_⟩
  refine⟨_,rfl,_,rfl,b,_,rfl,hB,⟨by omega,iB (by omega) (by omega)⟩,fun r H1 r0 r1 B1 X1=>⟨_,_,rfl,rfl,?_⟩⟩
  refine⟨_,rfl,_,rfl,_,_,rfl,b,_,rfl,B1,⟨(by split <;> omega),iB (by split <;> omega) (by split <;> omega)⟩,fun r2 H2 r20 r21 B2 X2=>⟨_,_,rfl,rfl,?_⟩⟩
  refine⟨_,rfl,pR,fun l0 n0=>?_⟩
  refine⟨_,rfl,b,3,rfl,B2.new n0,⟨by decide,by decide +kernel⟩,fun z H3 z0 z1 B3 X3=>?_⟩
  have h0:H3 l0=some (.lst [.int (1+r),.int (1+r2),.int m]):=X3 l0 _ ae (B2.fb n0)
  have hr2:r2 < 4:=by
   have:=r21
   split at this <;> omega
  have F3:Fix b H H3:=((X1.trans X2).trans (Fix.new n0)).trans X3
  obtain rfl | rfl | rfl:z=0\/z=1\/z=2:=by omega
  ·refine⟨l0,_,0,_,rfl,rfl,aX.of h0,cf,?_⟩
   have e:(1+r)=(((1+r).toNat:Nat):Int):=by omega
   rw [e]
   exact q _ H3 (by omega) (by omega) B3 F3
  ·refine⟨l0,_,1,_,rfl,rfl,aX.of h0,cG,?_⟩
   have e:(1+r2)=(((1+r2).toNat:Nat):Int):=by omega
   rw [e]
   exact q _ H3 (by omega) (by omega) B3 F3
  ·refine⟨l0,_,2,_,rfl,rfl,aX.of h0,at2,?_⟩
   exact q _ H3 m0 (by omega) B3 F3
theorem mM {f:Addr} {fd:FuncData} (F:bZ K "_law_all_names" "_law_all_names" dh f fd) (Z:Bl mg)  : bD P w K mg base bX 1 f fd ["plan"] qq:=by
 refine F.ok (k:=0) dM (fun vs H Q E h=>?_) (fun cdv A outer s H vs Q E hr h=>?_)
 ·obtain⟨plv,ps,xs,m,rfl,_⟩:=h
  rfl
 ·obtain⟨plv,ps,xs,m,rfl,hp,pok,hx64,q⟩:=h
  refine⟨_,(ai (aJ (i:=1) dM.nd rfl (Or.inl rfl) i5)
   (ai (dH PassesOwn.never rfl (e7 (pv 0)) (cv rfl (aM (aF (i:=2) dM.nd rfl (Or.inl rfl)) (aM (aF (i:=3) dM.nd rfl (Or.inl rfl)) bU)))
   (ai (dH PassesOwn.never rfl (e7 (pv 2)) (aF (i:=4) dM.nd rfl (Or.inl rfl))
   (ai (eD (cm hr) (pv 1) (aK aZ (pv 4) ao (fun _ _=>rfl)) dz rfl)
   (ar (bu (aP cg (aK aZ (pv 4) ao (fun _ _=>rfl)) bF (aS _))
   (ar (eD (cm hr) (pv 1) (aK aZ (pv 4) ao (fun _ _=>rfl)) dz rfl))
   aU))))
   (ar (bu (aP cg (bO cE rfl Z.len fA (aa (pv 3) af)) ao (aS _))
   (ar (eD (cm hr) (pv 1) (aK aZ (pv 3) ao (fun _ _=>rfl)) dz rfl))
   aU))))
   (ar (aH (bO (ja rfl) rfl Z.sorted jm (aa (pv 1) af)))))),?_⟩
  obtain⟨pp,vs,rfl,e1,r⟩:=bB.cQ hp
  have hl:=r.len
  refine fun nm nn=>?_
  have s0:=ah.new (o:=.dK []) nn
  have kl:∀ (i:Nat) (ds:List cx) (kvs:List (Key × V)) (ns:List Str),(∀ x ∈ ns,x ∈ xs)->KeysAre kvs ns->kvs.length < sizeLine:=fun i ds kvs ns hn h=>by
   have:=vZ hn
   rw [h.len]
   exact br (by omega)
  refine⟨_,rfl,pp,rfl,⟨_,ay.of (s0 _ _ e1)⟩,hV (K:=K) (a:=pp) (xs:=vs) (fun i σ H'=>∃ (kvs:List (Key × V)) (u1 u2 u3:Option V),σ = [some (.ref pp),some (.ref nm),u1,u2,u3]/\H' nm=some (.dK kvs)/\KeysAre kvs (aR (ps.take i))/\ah H H') ?_ ?_ ?_ ?_⟩
  ·exact⟨[],_,_,_,rfl,ae,rfl,s0⟩
  ·rintro i σ H1 hi ⟨kvs,u1,u2,u3,rfl,h1,k1,s1⟩
   exact ay.of (s1 _ _ e1)
  ·rintro i x σ H1 hi ⟨kvs,u1,u2,u3,rfl,h1,k1,s1⟩
   have hlt:i < ps.length:=by
    have:=(List.getElem?_eq_some_iff.mp hi).1
    rw [hl,List.length_map] at this
    exact this
   have hpi:ps[i]? = some ps[i]:=by simp [hlt]
   generalize ps[i] = pe at hpi
   obtain⟨ds,e⟩:=pe
   have hnext:=jq (f:=pNames) hpi
   have hin:∀ x ∈ aR (ps.take (i+1)),x ∈ xs:=fun x hx=>by
    refine kF pok x ?_
    obtain⟨p,hp',hx'⟩:=List.mem_flatMap.mp hx
    exact List.mem_flatMap.mpr ⟨p,List.mem_of_mem_take hp',hx'⟩
   have hin':∀ y,y ∈ aR (ps.take i)\/y ∈ ds.flatMap bR\/y ∈ fB e->y ∈ xs:=fun y hy=>by
    refine hin y ?_
    unfold aR at hy ⊢
    rw [hnext,List.mem_append]
    unfold pNames at hy ⊢
    rcases hy with h | h
    ·exact .inl h
    ·exact .inr (List.mem_append.mpr h)
   obtain⟨p',xs',pc,da,ea,ws,ep,e1',el',hx',e2,e3,r3,e4⟩:=jX hp hpi
   cases ep
   rw [e1] at e1'
   cases e1'
   rw [hi] at hx'
   cases hx'
   refine⟨pc,_,rfl,ay.of (s1 _ _ e2),rfl,_,_,rfl,_,_,rfl,rfl,?_⟩
   refine⟨_,rfl,da,rfl,⟨_,ay.of (s1 _ _ e3)⟩,hV (K:=K) (a:=da) (xs:=ws) (fun j σ H'=>∃ (kvs:List (Key × V)) (u3:Option V),σ = [some (.ref pp),some (.ref nm),some (.ref da),some (.ref ea),u3]/\H' nm=some (.dK kvs)/\KeysAre kvs (aR (ps.take i)++(ds.take j).flatMap bR)/\ah H H') ?_ ?_ ?_ ?_⟩
   ·exact⟨kvs,_,rfl,h1,by simpa using k1,s1⟩
   ·rintro j σ H2 hj ⟨kvs2,u3',rfl,h2,k2,s2⟩
    exact ay.of (s2 _ _ e3)
   ·rintro j y σ H2 hj ⟨kvs2,u3',rfl,h2,k2,s2⟩
    have hjl:j < ds.length:=by
     have:=(List.getElem?_eq_some_iff.mp hj).1
     rw [r3.len,List.length_map] at this
     exact this
    have hdj:ds[j]? = some ds[j]:=by simp [hjl]
    generalize ds[j] = dd at hdj
    obtain⟨v,hv,rd⟩:=r3.get (i:=j) (d:=dN dd) (by rw [List.getElem?_map,hdj];rfl)
    rw [hj] at hv
    cases hv
    obtain⟨dp,rfl,hdp⟩:=gC rd
    have hdp2:=s2 _ _ hdp
    have ndp:dp ≠ nm:=bA hdp2 h2 (by intro z;cases z)
    have hnj:=jq (f:=bR) hdj
    have hinj:∀ y ∈ aR (ps.take i)++(ds.take j).flatMap bR,y ∈ xs:=fun y hy=>by
     rcases List.mem_append.mp hy with h | h
     ·exact hin' y (.inl h)
     ·obtain⟨d',hd',h'⟩:=List.mem_flatMap.mp h
      exact hin' y (.inr (.inl (List.mem_flatMap.mpr ⟨d',List.mem_of_mem_take hd',h'⟩)))
    have hmd:∀ y ∈ bR dd,y ∈ xs:=fun y hy=>hin' y (.inr (.inl (List.mem_flatMap.mpr ⟨dd,List.mem_of_getElem? hdj,hy⟩)))
    have e1d:∃ tl,bR dd=ef dd :: tl:=by cases dd <;> exact⟨_,rfl⟩
    refine bM ?_
    refine⟨_,rfl,_,rfl,dp,_,1,_,rfl,rfl,ay.of hdp2,p9 dd,nm,_,rfl,gx.k (k:=Sum.inr (ef dd)) h2 (kl i ds _ _ hinj k2),?_⟩
    have k3:=k2.put (ef dd) (.bl true)
    have h3:(upd H2 nm (.dK (putK kvs2 (Sum.inr (ef dd)) (.bl true)))) nm=some (.dK (putK kvs2 (Sum.inr (ef dd)) (.bl true))):=ae
    have hdp3:(upd H2 nm (.dK (putK kvs2 (Sum.inr (ef dd)) (.bl true)))) dp=some (.tup (ll dd)):=by rw [au ndp];exact hdp2
    have s3:ah H (upd H2 nm (.dK (putK kvs2 (Sum.inr (ef dd)) (.bl true)))):=s2.put nn
    generalize (upd H2 nm (.dK (putK kvs2 (Sum.inr (ef dd)) (.bl true))))=H3 at h3 hdp3 s3
    refine⟨_,rfl,dp,_,0,_,rfl,rfl,ay.of hdp3,(by cases dd <;> exact cf:fU (ll dd) 0=some (V.str (wD dd))),rfl,_,rfl,?_⟩
    have one:bR dd = [ef dd]->KeysAre (putK kvs2 (Sum.inr (ef dd)) (.bl true)) (aR (ps.take i)++(ds.take (j+1)).flatMap bR):=fun e=>by
     rw [hnj,e,<-List.append_assoc];exact k3
    cases dd with
    | put a n=>exact bf (show decide (V.str "put" = V.str "copy")=false by decide +kernel) ⟨_,_,rfl,h3,one rfl,s3⟩
    | add a n=>exact bf (show decide (V.str "add" = V.str "copy")=false by decide +kernel) ⟨_,_,rfl,h3,one rfl,s3⟩
    | read a=>exact bf (show decide (V.str "read" = V.str "copy")=false by decide +kernel) ⟨_,_,rfl,h3,one rfl,s3⟩
    | tell a=>exact bf (show decide (V.str "tell" = V.str "copy")=false by decide +kernel) ⟨_,_,rfl,h3,one rfl,s3⟩
    | copy a c =>
     refine bY (show decide (V.str "copy" = V.str "copy")=true by decide +kernel) ?_
     have hin3:∀ y ∈ (aR (ps.take i)++(ds.take j).flatMap bR) ++ [a],y ∈ xs:=fun y hy=>by
      rcases List.mem_append.mp hy with h | h
      ·exact hinj y h
      ·rw [List.mem_singleton.mp h];exact hmd a (List.mem_cons_self ..)
     refine⟨_,rfl,_,rfl,dp,_,2,_,rfl,rfl,ay.of hdp3,at2,nm,_,rfl,gx.k (k:=Sum.inr c) h3 (kl i ds _ _ hin3 k3),?_⟩
     refine⟨_,_,rfl,ae,?_,s3.put nn⟩
     rw [hnj,show bR (.copy a c) = [a] ++ [c] from rfl,<-List.append_assoc,<-List.append_assoc]
     exact k3.put c (.bl true)
   ·rintro σ H2 ⟨kvs2,u3',rfl,h2,k2,s2⟩
    rw [show ws.length=ds.length by rw [r3.len,List.length_map],List.take_length] at k2
    have e42:=s2 _ _ e4
    refine⟨_,rfl,ea,_,rfl,.inr (ay.of e42),rfl,_,rfl,?_⟩
    have none_:fB e = []->KeysAre kvs2 (aR (ps.take (i+1))):=fun z=>by
     unfold aR at k2 ⊢
     rw [hnext]
     simp only [pNames,z,List.append_nil]
     exact k2
    cases e with
    | stop =>
     refine bf (show decide (V.int ((1:Nat):Int)=V.int 5)=false by decide +kernel) ?_
     exact⟨kvs2,_,_,_,rfl,h2,none_ rfl,s2⟩
    | go q1 =>
     refine bf (show decide (V.int ((2:Nat):Int)=V.int 5)=false by decide +kernel) ?_
     exact⟨kvs2,_,_,_,rfl,h2,none_ rfl,s2⟩
    | d6 b x n q1 q2 =>
     refine bY (show decide (V.int ((5:Nat):Int)=V.int 5)=true by decide +kernel) ?_
     have hine:∀ y ∈ aR (ps.take i)++ds.flatMap bR,y ∈ xs:=fun y hy=>by
      rcases List.mem_append.mp hy with h | h
      ·exact hin' y (.inl h)
      ·exact hin' y (.inr (.inl h))
     refine⟨_,rfl,_,rfl,ea,_,1,_,rfl,rfl,ay.of e42,cG,nm,_,rfl,gx.k (k:=Sum.inr x) h2 (kl i ds _ _ hine k2),?_⟩
     refine⟨_,_,_,_,rfl,ae,?_,s2.put nn⟩
     have k3:=k2.put x (.bl true)
     unfold aR at k3 ⊢
     rw [hnext]
     simp only [pNames,fB]
     rw [<-List.append_assoc]
     exact k3
  ·rintro σ H1 ⟨kvs,u1,u2,u3,rfl,h1,k1,s1⟩
   rw [show vs.length=ps.length by rw [hl,List.length_map],List.take_length] at k1
   have hf:=mw pok
   refine⟨_,rfl,nm,kvs,LS.cn (aR ps),rfl,h1,k1,(by omega),fun l ss hperm hs hn=>?_⟩
   exact q l ss _ ae hperm hs (by rw [hperm.length_eq];omega) (s1.trans (ah.new hn))
theorem rl {f:Addr} {fd:FuncData} (F:bZ K "_law_part" "_law_part" fQ f fd) (Z:Bl mg)  : bD P w K mg base bX 1 f fd ["stretch", "word", "number", "side"] nV:=by
 refine F.ok (k:=0) d5 (fun vs H Q E h=>?_) (fun cdv A outer s H vs Q E hr h=>?_)
 ·obtain⟨p,b,n,side,lo,hi,rfl,_⟩:=h
  rfl
 ·obtain⟨p,b,n,side,lo,hi,rfl,hp,le,q⟩:=h
  refine⟨_,(ai (bT (pv 0) (cv rfl (aM (aF (i:=4) d5.nd rfl (Or.inl rfl)) (aM (aF (i:=5) d5.nd rfl (Or.inl rfl)) bU))))
   (ai (dW (bu (aP cg (pv 1) bF (aS _))
   (ar (bu (gO (pv 3))
   (ar (aJ (i:=5) d5.nd rfl (Or.inl rfl) (aK bK (cD (aa (pv 5) (aa (ba fZ (pv 2) ao) af))) (bw ix rfl Z.int kq (aa (kX (fY (cU (pv 5))) (eh (fH y9 (pv 5) (pv 2) (aS _)))) af)) (fun _ _=>rfl))))
   (ar (aJ (i:=4) d5.nd rfl (Or.inl rfl) (aK bK (cD (aa (pv 4) (aa (pv 2) af))) (bw ix rfl Z.int kq (aa (kX (fY (cU (pv 4))) (eh (fH jg (pv 4) (pv 2) (aS _)))) af)) (fun _ _=>rfl))))))
   (ar (bu (gO (pv 3))
   (ai (bu (PW.pt (kW (PW.pt (fu (bW (cA (pv 4))) (fg (aP jg (pv 2) (pv 4) (aS _))))) (jF (PW.pt (fu (bW (cA (pv 5))) (fg (aP jh (pv 2) (pv 5) (aS _))))))))
   (ar (aH bC))
   aU)
   (ar (aH (bp (aa (pv 2) (aa (pv 2) af))))))
   (ai (bu (aP cg (pv 4) (pv 2) (aS _))
   (ar (aJ (i:=4) d5.nd rfl (Or.inl rfl) (ba cL (pv 2) ao)))
   aU)
   (ar (bu (aP cg (pv 5) (pv 2) (aS _))
   (ar (aJ (i:=5) d5.nd rfl (Or.inl rfl) (ba fZ (pv 2) ao)))
   aU)))))))
   (ai (bu (PW.pt (fu (bW (cA (pv 4))) (fu (bW (cA (pv 5))) (fg (aP jh (pv 4) (pv 5) (aS _))))))
   (ar (aH bC))
   aU)
   (ar (aH (bp (aa (pv 4) (aa (pv 5) af)))))))),?_⟩
  refine⟨_,rfl,p,_,rfl,ay.of hp,rfl,_,_,rfl,_,_,rfl,rfl,?_⟩
  refine⟨fun σ' H'=>∃ lo' hi':Option Int,σ' = [some (.ref p),some (.str (wT b)),some (.int n),some (.bl side),some (vO lo'),some (vO hi')]/\mC lo' hi' = dP (wT b) lo hi n side/\ah H H',?_,?_⟩
  ·refine⟨_,rfl,rfl,_,rfl,?_⟩
   cases b with
   | true =>
    have ew:(wT true:Str) = "less" := rfl
    refine bY (show decide (V.str (wT true)=V.str "less")=true by decide +kernel) ?_
    refine⟨_,rfl,_,rfl,?_⟩
    cases side with
    | true =>
     have ep:∀ hi',some (i7 hi n)=hi'->mC lo hi' = dP (wT true) lo hi n true:=fun hi' e=>by
      rw [<-e,uM];simp only [dP,ew,if_pos,lr]
     refine aW ?_
     refine⟨_,rfl,_,rfl,_,_,rfl,rfl,ln2,fun l hl=>?_⟩
     cases hi with
     | none =>
      refine⟨_,rfl,_,rfl,aW (.inr ⟨_,rfl,?_⟩)⟩
      exact⟨l,_,_,_,rfl,rfl,aX.of ae,cG,lo,some (n - 1),rfl,ep _ rfl,ah.new hl⟩
     | some h =>
      refine⟨_,rfl,_,rfl,aV ⟨_,rfl,_,rfl,_,_,rfl,rfl,.inr ⟨_,rfl,?_⟩⟩⟩
      have key:∀ bb:Bool,fU [vO (some h),V.int (n - 1)] (if bb=true then 1 else 0)=some (vO (if bb=true then some (n - 1) else some h)):=fun bb=>by
       cases bb
       ·exact cf
       ·exact cG
      refine⟨l,_,_,_,rfl,rfl,aX.of ae,key _,lo,_,rfl,ep _ ?_,ah.new hl⟩
      simp only [i7]
      by_cases hc:n<=h
      ·rw [if_pos (by omega),if_pos (decide_eq_true hc)]
      ·rw [if_neg (by omega),if_neg (fun z=>hc (of_decide_eq_true z))]
    | false =>
     have ep:∀ lo',some (i8 lo n)=lo'->mC lo' hi=dP (wT true) lo hi n false:=fun lo' e=>by
      rw [<-e,vY];simp only [dP,ew,if_pos,lr,Bool.false_eq_true,if_false]
     refine aV ?_
     refine⟨_,rfl,_,rfl,ln2,fun l hl=>?_⟩
     cases lo with
     | none =>
      refine⟨_,rfl,_,rfl,aW (.inr ⟨_,rfl,?_⟩)⟩
      exact⟨l,_,_,_,rfl,rfl,aX.of ae,cG,some n,hi,rfl,ep _ rfl,ah.new hl⟩
     | some a =>
      refine⟨_,rfl,_,rfl,aV ⟨_,rfl,_,rfl,_,_,rfl,rfl,.inr ⟨_,rfl,?_⟩⟩⟩
      have key:∀ bb:Bool,fU [vO (some a),V.int n] (if bb=true then 1 else 0)=some (vO (if bb=true then some n else some a)):=fun bb=>by
       cases bb
       ·exact cf
       ·exact cG
      refine⟨l,_,_,_,rfl,rfl,aX.of ae,key _,_,hi,rfl,ep _ ?_,ah.new hl⟩
      simp only [i8]
      by_cases hc:a < n
      ·rw [if_pos (by omega),if_pos (decide_eq_true hc)]
      ·rw [if_neg (by omega),if_neg (fun z=>hc (of_decide_eq_true z))]
   | false =>
    have ew:¬ (wT false:Str) = "less" := by decide +kernel
    refine bf (show decide (V.str (wT false)=V.str "less")=false by decide +kernel) ?_
    refine⟨_,rfl,_,rfl,?_⟩
    cases side with
    | true =>
     refine aW ?_
     have eq_:dP (wT false) lo hi n true=j7 lo hi n:=by simp only [dP,if_neg ew,rO,if_true]
     rw [eq_] at q
     have yes:dA n lo hi=true->∀ t,RV (upd H t (.tup [.int n,.int n])) (.ref t) (j7 lo hi n):=fun h t=>by
      unfold j7;rw [if_pos h];exact⟨t,rfl,ae⟩
     have no:dA n lo hi=false->RV H .aB (j7 lo hi n):=fun h=>by
      unfold j7;rw [if_neg (by rw [h];decide)];rfl
     have fin:dA n lo hi=true->_:=fun h=>(show xY (yh (sy (nB 2) (sy (nB 2) yg))) ⟨fun _ _=>False,Q,fun _ _=>False,fun _ _=>False⟩ [some (.ref p),some (.str (wT false)),some (.int n),some (.bl true),some (vO lo),some (vO hi)] H from ⟨_,rfl,_,rfl,ln2,fun t nt=>q _ _ (yes h t) (ah.new nt)⟩)
     cases lo with
     | none =>
      cases hi with
      | none =>
       refine⟨_,rfl,_,rfl,aV ⟨_,rfl,_,rfl,aV (aV ?_)⟩⟩
       exact⟨_,rfl,_,rfl,ln2,fun t nt=>q _ _ (yes rfl t) (ah.new nt)⟩
      | some h =>
       refine⟨_,rfl,_,rfl,aV ⟨_,rfl,_,rfl,aW ⟨_,rfl,_,rfl,_,_,rfl,rfl,_,rfl,?_⟩⟩⟩
       refine cM (fun hc=>?_) (fun hc=>?_)
       ·refine q _ _ (no ?_) (ah.refl H)
        have:h < n:=of_decide_eq_true hc
        simp [dA];omega
       ·refine⟨_,rfl,_,rfl,ln2,fun t nt=>q _ _ (yes ?_ t) (ah.new nt)⟩
        have:¬ h < n:=fun z=>hc (decide_eq_true z)
        simp [dA];omega
     | some a =>
      refine⟨_,rfl,_,rfl,aW ⟨_,rfl,_,rfl,_,_,rfl,rfl,_,rfl,?_⟩⟩
      refine cM (fun hc=>?_) (fun hc=>?_)
      ·refine q _ _ (no ?_) (ah.refl H)
       have:n < a:=of_decide_eq_true hc
       cases hi <;> simp [dA] <;> omega
      ·have hna:¬ n < a:=fun z=>hc (decide_eq_true z)
       cases hi with
       | none =>
        refine⟨_,rfl,_,rfl,aV (aV ?_)⟩
        refine⟨_,rfl,_,rfl,ln2,fun t nt=>q _ _ (yes ?_ t) (ah.new nt)⟩
        simp [dA];omega
       | some h =>
        refine⟨_,rfl,_,rfl,aW ⟨_,rfl,_,rfl,_,_,rfl,rfl,_,rfl,?_⟩⟩
        refine cM (fun hc=>?_) (fun hc=>?_)
        ·refine q _ _ (no ?_) (ah.refl H)
         have:h < n:=of_decide_eq_true hc
         simp [dA];omega
        ·refine⟨_,rfl,_,rfl,ln2,fun t nt=>q _ _ (yes ?_ t) (ah.new nt)⟩
         have:¬ h < n:=fun z=>hc (decide_eq_true z)
         simp [dA];omega
    | false =>
     refine aV ?_
     have ep:mC (if lo=some n then some (n+1) else lo) (if hi=some n then some (n - 1) else hi)=dP (wT false) lo hi n false:=by
      rw [xI le];simp only [dP,if_neg ew,rO,Bool.false_eq_true,if_false]
     refine⟨_,rfl,_,rfl,iD,_,rfl,?_⟩
     rw [jl]
     refine cM (fun hc=>?_) (fun hc=>?_)
     ·have h1:lo=some n:=of_decide_eq_true hc
      rw [if_pos h1] at ep
      refine⟨_,rfl,_,_,rfl,rfl,?_⟩
      refine⟨_,rfl,_,rfl,iD,_,rfl,?_⟩
      rw [jl]
      refine cM (fun hd=>?_) (fun hd=>?_)
      ·rw [if_pos (of_decide_eq_true hd)] at ep
       exact⟨_,rfl,_,_,rfl,rfl,_,_,rfl,ep,ah.refl H⟩
      ·rw [if_neg (fun z=>hd (decide_eq_true z))] at ep
       exact⟨_,_,rfl,ep,ah.refl H⟩
     ·rw [if_neg (fun z=>hc (decide_eq_true z))] at ep
      refine⟨_,rfl,_,rfl,iD,_,rfl,?_⟩
      rw [jl]
      refine cM (fun hd=>?_) (fun hd=>?_)
      ·rw [if_pos (of_decide_eq_true hd)] at ep
       exact⟨_,rfl,_,_,rfl,rfl,_,_,rfl,ep,ah.refl H⟩
      ·rw [if_neg (fun z=>hd (decide_eq_true z))] at ep
       exact⟨_,_,rfl,ep,ah.refl H⟩
  rintro σ' H1 ⟨lo',hi',rfl,ec,s1⟩
  rw [<-ec] at q
  cases lo' with
  | none =>
   refine⟨_,rfl,_,rfl,aV (aV ?_)⟩
   exact⟨_,rfl,_,rfl,ln2,fun t nt=>q _ _ (by cases hi' <;> exact⟨t,rfl,ae⟩) (s1.trans (ah.new nt))⟩
  | some a =>
   cases hi' with
   | none =>
    refine⟨_,rfl,_,rfl,aW ⟨_,rfl,_,rfl,aV (aV ?_)⟩⟩
    exact⟨_,rfl,_,rfl,ln2,fun t nt=>q _ _ ⟨t,rfl,ae⟩ (s1.trans (ah.new nt))⟩
   | some h =>
    refine⟨_,rfl,_,rfl,aW ⟨_,rfl,_,rfl,aW ⟨_,rfl,_,rfl,_,_,rfl,rfl,_,rfl,?_⟩⟩⟩
    refine cM (fun hc=>?_) (fun hc=>?_)
    ·have:h < a:=of_decide_eq_true hc
     exact q _ _ (by show RV H1 .aB (if h < a then none else _);rw [if_pos this];rfl) s1
    ·have:¬ h < a:=fun z=>hc (decide_eq_true z)
     exact⟨_,rfl,_,rfl,ln2,fun t nt=>q _ _ (by show RV _ (.ref t) (if h < a then none else _);rw [if_neg this];exact⟨t,rfl,ae⟩) (s1.trans (ah.new nt))⟩
theorem rm {f:Addr} {fd:FuncData} (F:bZ K "_law_with" "_law_with" fR f fd) (Z:Bl mg)  : bD P w K mg base bX 1 f fd ["facts", "name", "stretch"] lJ:=by
 refine F.ok (k:=0) jE (fun vs H Q E h=>?_) (fun cdv A outer s H vs Q E hr h=>?_)
 ·obtain⟨d,T,m,x,sv,s,rfl,_⟩:=h
  rfl
 ·obtain⟨d,T,m,x,sv,s,rfl,lt,hm,sh,q⟩:=h
  refine⟨_,(ai (aJ (i:=3) jE.nd rfl (Or.inl rfl) i5)
   (ai (dW (nN PassesOwn.never rfl (pv 0) (aF (i:=4) jE.nd rfl (Or.inl rfl))
   (ar (eD (cm hr) (pv 3) (pv 4) (iR (cm hr) (pv 0) (pv 4) (fun _ _=>rfl)) rfl))))
   (ai (dW (fF (vz (pv 3) (pv 1) bC ⟨rfl,rfl,rfl,rfl⟩)))
   (ai (bu (aP (t9 hr.units) (pv 2) (bp (aa bC (aa bC af))) (aS _))
   (ar (eD (cm hr) (pv 3) (pv 1) (pv 2) rfl))
   aU)
   (ar (aH (pv 3))))))),?_⟩
  obtain⟨kvs,ks,hd,tb,cl,hl⟩:=lt
  have kl:kvs.length=ks.length:=by have:=congrArg List.length tb.keys;simpa using this
  have ndk:(kvs.map (·.1)).Nodup:=by
   rw [tb.keys]
   exact List.Pairwise.map _ (fun a b n z=>n (Sum.inr.inj z)) tb.nd
  refine fun md nmd=>?_
  have ndm:d ≠ md:=aY hd nmd
  refine⟨fun σ' H'=>∃ u:Option V,σ' = [some (.ref d),some (.str x),some sv,some (.ref md),u]/\H' md=some (.dK kvs)/\ah H H',?_,?_⟩
  ·refine⟨_,rfl,d,kvs,rfl,(by rw [au ndm];exact hd),fun ob=>⟨fun j τ H2=>∃ u:Option V,τ = [some (.ref d),some (.str x),some sv,some (.ref md),u]/\H2 d=some (.dB ob (.dK kvs))/\H2 md=some (.dK (kvs.take j))/\∀ c o,H c=some o->c ≠ d->H2 c=some o,?_,?_,?_,?_⟩⟩
   ·refine⟨none,rfl,ae,by rw [au ndm.symm,ae];rfl,fun c o e n=>?_⟩
    rw [au n,au (aY e nmd)]
    exact e
   ·rintro j τ H2 ⟨u,_,h,_⟩
    exact h
   ·rintro j k v τ H2 hj ⟨u,rfl,h1,h2,h3⟩
    have hj':j < kvs.length:=(List.getElem?_eq_some_iff.mp hj).1
    refine bM ?_
    have dg:cR H2 d (kV k) (some v):=.inl ⟨kvs,k,.inr ⟨ob,h1⟩,rfl,(mi ndk (List.mem_of_getElem? hj)).symm⟩
    refine⟨_,rfl,_,rfl,d,v,rfl,dg,_,rfl,_,rfl,md,_,rfl,gx.k (k:=k) h2 (br (by rw [List.length_take];omega)),?_⟩
    refine⟨_,rfl,by rw [au ndm];exact h1,by rw [ae,uJ ndk hj],fun c o e n=>?_⟩
    rw [au (aY e nmd)]
    exact h3 c o e n
   ·rintro τ H2 ⟨u,rfl,h1,h2,h3⟩
    refine⟨u,rfl,by rw [au ndm.symm,h2,List.take_length],fun c o e=>?_⟩
    by_cases z:c=d
    ·subst z
     rw [hd] at e
     cases e
     exact ae
    ·rw [au z]
     exact h3 c o e z
  rintro σ' H1 ⟨u,rfl,hmd,s1⟩
  have tb1:Tb 0 H1 kvs ks T:=tb.aI fun p xs e=>s1 _ _ e
  have sh1:SH H1 sv s:=sh.aI fun p xs e=>s1 _ _ e
  refine⟨fun σ' H2=>∃ (kvs2:List (Key × V)) (ks2:List Str),σ' = [some (.ref d),some (.str x),some sv,some (.ref md),u]/\H2 md=some (.dK kvs2)/\Tb 0 H2 kvs2 ks2 (cc T x bE)/\(∀ y ∈ ks2,cc T x bE y ≠ bE)/\ks2.length<=m/\ah H H2,
   ⟨_,rfl,md,rfl,.inl ⟨kvs,.inl hmd⟩,_,rfl,kvs,Sum.inr x,hmd,rfl,fun v ev=>?_,fun ev=>?_⟩,?_⟩
  ·refine⟨_,_,rfl,ae,(tb1.drop x).aI (fun p xs e=>by rw [au (bA e hmd (by intro z;cases z))];exact e),fun y hy=>?_,Nat.le_trans (List.length_filter_le _ _) hl,s1.put nmd⟩
   obtain⟨h1,h2⟩:=List.mem_filter.mp hy
   have hne:y ≠ x:=of_decide_eq_true h2
   unfold cc
   rw [if_neg hne]
   exact cl y h1
  ·have hT:T x=bE:=by
    rcases tb.val x with ⟨_,a,_⟩ | ⟨v,a,_⟩
    ·exact a
    ·rw [ev] at a;cases a
   exact⟨kvs,ks,rfl,hmd,by rw [kJ hT];exact tb1,by rw [kJ hT];exact cl,hl,s1⟩
  rintro σ' H2 ⟨kvs2,ks2,rfl,hm2,tb2,cl2,hl2,s2⟩
  have kl2:kvs2.length=ks2.length:=by have:=congrArg List.length tb2.keys;simpa using this
  refine⟨_,rfl,ln2,fun t nt=>?_⟩
  have s3:=ah.new (o:=.tup [.aB,.aB]) nt
  have ht:(upd H2 t (.tup [.aB,.aB])) t=some (.tup [.aB,.aB]):=ae
  generalize (upd H2 t (.tup [.aB,.aB]))=H3 at s3 ht
  have sh3:SH H3 sv s:=sh.aI fun p xs e=>s3 _ _ (s2 _ _ e)
  have tb3:=tb2.aI (H':=H3) fun p xs e=>s3 _ _ e
  have hm3:=s3 _ _ hm2
  refine⟨dS s,.tuple [.none,.none],sh3.rd,.tup ht (.cons .aB (.cons .aB .nil)),pd s,rfl,(by have:=sW s;omega),_,rfl,?_⟩
  by_cases hs:s=bE
  ·refine bf (by rw [jO,decide_eq_true hs];rfl) ?_
   subst hs
   exact⟨_,rfl,q md H3 ⟨kvs2,ks2,hm3,tb3,cl2,Nat.le_succ_of_le hl2⟩ nmd (s2.trans s3)⟩
  ·refine bY (by rw [jO,decide_eq_false hs];rfl) ?_
   refine⟨_,rfl,_,rfl,_,rfl,md,_,rfl,gx.k (k:=Sum.inr x) hm3 (br (by omega)),?_⟩
   obtain⟨ks4,tb4,k4,m4⟩:=tb3.put x (.inl sh3)
   rw [uI] at tb4
   refine⟨_,rfl,q md _ ⟨_,ks4,ae,tb4.aI (fun p xs e=>by rw [au (bA e hm3 (by intro z;cases z))];exact e),fun y hy=>?_,by omega⟩ nmd ((s2.trans s3).put nmd)⟩
   unfold cc
   by_cases e:y=x
   ·rw [if_pos e];exact hs
   ·rw [if_neg e]
    have h1:=cl2 y (((m4 y).mp hy).elim id fun z=>absurd z e)
    unfold cc at h1
    rw [if_neg e] at h1
    exact h1
theorem rn {f:Addr} {fd:FuncData} (F:bZ K "_law_told" "_law_told" fS f fd) (Z:Bl mg)  : bD P w K mg base bX 1 f fd ["facts"] nO:=by
 refine F.ok (k:=0) qV (fun vs H Q E h=>?_) (fun cdv A outer s H vs Q E hr h=>?_)
 ·obtain⟨d,T,rfl,_⟩:=h
  rfl
 ·obtain⟨d,T,rfl,lt,q⟩:=h
  refine⟨_,(ar (aH (bw bH rfl Z.tuple cN (aa (dJ ["name"] ["facts"] [0] rfl (hR (bO (ja rfl) rfl Z.sorted jm (aa (pv 0) af))) rfl (by decide +kernel) (by decide +kernel) (by decide +kernel) ⟨⟨rfl,.inl rfl,rfl⟩,True.intro⟩ (fun _ _ _ _=>(aF (i:=0) (show ((["name"]:List Str)++(["facts"]:List Str)).Nodup by decide +kernel) rfl (Or.inl rfl) (hf:=Or.inr rfl))) (fun _ _ _ _=>er) (fun _ _ _ _=>(bp (aa (pv 0) (aa (iR (cm hr) (pv 1) (pv 0) (fun _ _=>rfl)) af))))) af)))),?_⟩
  obtain⟨kvs,ks,hd,tb,cl,hl⟩:=lt
  refine⟨_,rfl,d,kvs,ks,rfl,hd,tb.keys,(by omega),fun l ss hp hs hn=>?_⟩
  have srt:jb ss:=⟨kH hs,hp.nodup_iff.mpr tb.nd⟩
  have hl1:(upd H l (.lst (ss.map V.str))) l=some (.lst (ss.map V.str)):=ae
  have s1:ah H (upd H l (.lst (ss.map V.str))):=ah.new hn
  have hssl:ss.length < 64:=by rw [hp.length_eq];omega
  generalize (upd H l (.lst (ss.map V.str)))=H1 at hl1 s1
  refine⟨l,rfl,⟨_,aX.of hl1⟩,fun acc na=>?_⟩
  refine kZ (K:=K) (a:=l) (xs:=ss.map V.str) (fun i ys τ H'=>∃ c:Option V,τ = [c,some (.ref d)]/\bg H' ys ((ss.take i).map (dF T))/\H' acc=some (.lst ys)/\ah H1 H') ?_ ?_ ?_ ?_
  ·exact⟨none,rfl,.nil,ae,ah.new na⟩
  ·rintro i ys τ H2 hi ⟨c,rfl,r,ha,s2⟩
   refine⟨aX.of (s2 _ _ hl1),ha,?_⟩
   have h1:=r.len
   rw [List.length_map,List.length_take] at h1
   exact br (by omega)
  ·rintro i x ys τ H2 hi ⟨c,rfl,r,ha,s2⟩
   obtain⟨y,hy,rfl⟩:∃ y,ss[i]? = some y/\x=V.str y:=by
    rw [List.getElem?_map] at hi
    cases e:ss[i]? with
    | none=>rw [e] at hi;cases hi
    | some k=>rw [e] at hi;exact⟨k,rfl,(Option.some.inj hi).symm⟩
   have hym:y ∈ ks:=hp.mem_iff.mp (List.mem_of_getElem? hy)
   have tk:ss.take (i+1)=ss.take i ++ [y]:=by rw [List.take_add_one,hy];rfl
   obtain⟨v,ev,sv⟩:∃ v,bG kvs (Sum.inr y)=some v/\SH H v (T y):=by
    rcases tb.val y with ⟨_,_,c⟩ | ⟨v,a,b,_⟩
    ·exact absurd hym c
    ·rcases b with b | ⟨_,b⟩
     ·exact⟨v,a,b⟩
     ·exact absurd b (cl y hym)
   have hd2:H2 d=some (.dK kvs):=s2 _ _ (s1 _ _ hd)
   have dg:cR H2 d (.str y) (some v):=by
    have:=cR.k (k:=Sum.inr y) hd2
    rw [ev] at this
    exact this
   refine bM ?_
   refine jw ?_
   refine aW ?_
   refine⟨_,rfl,_,rfl,_,rfl,d,v,rfl,dg,ln2,fun t nt=>?_⟩
   have s3:=ah.new (o:=.tup [.str y,v]) nt
   have ht:(upd H2 t (.tup [.str y,v])) t=some (.tup [.str y,v]):=ae
   generalize (upd H2 t (.tup [.str y,v]))=H3 at s3 ht
   have sh:SH H3 v (T y):=sv.aI fun p xs e=>s3 _ _ (s2 _ _ (s1 _ _ e))
   have ha3:=s3 _ _ ha
   refine⟨ha3,_,rfl,?_,ae,(s2.trans s3).put na⟩
   rw [tk,List.map_append]
   refine bg.app ((r.same s3 (gR T _)).put ha3 (gR T _)) ?_
   refine bB.aI (H:=H3) (fun p zs e=>by rw [au (bA e ha3 (by intro z;cases z))];exact e) (.tup ht (.cons (.str y) (.cons sh.rd .nil))) ?_
   have:=gR T [y]
   simpa [cB] using this
  ·rintro ys τ H2 ⟨c,rfl,r,ha,s2⟩
   rw [List.length_map,List.take_length] at r
   refine⟨acc,ys,rfl,.inl ⟨aX.of ha,fun t nt=>?_⟩⟩
   refine q _ _ ⟨t,ys,ss,rfl,ae,srt,fun x=>?_,r.same (ah.new nt) (gR T _)⟩ ((s1.trans s2).trans (ah.new nt))
   rw [hp.mem_iff]
   constructor
   ·exact cl x
   ·intro h
    rcases tb.val x with ⟨_,a,_⟩ | ⟨_,_,_,a⟩
    ·exact absurd a h
    ·exact a
theorem o1 {f:Addr} {fd:FuncData} (F:bZ K "_law_behind" "_law_behind" eQ f fd) (Z:Bl mg) (O_law_with:Own P w K mg base "_law_with" 1 ["facts", "name", "stretch"] lJ):bD P w K mg base bX 2 f fd ["facts", "deeds"] nY:=by
 refine F.ok (k:=1) bN (fun vs H Q E h=>?_) (fun cdv A outer s H vs Q E hr h=>?_)
 ·obtain⟨d,p,T,m,ws,ds,pool,rfl,_⟩:=h
  rfl
 ·obtain⟨d,p,T,m,ws,ds,pool,rfl,lt,hp,r,hm,hmp,tok,dok,q⟩:=h
  refine⟨_,(ai (dH PassesOwn.never rfl (e7 (pv 1)) (aF (i:=2) bN.nd rfl (Or.inl rfl))
   (ai (dW (aJ (i:=3) bN.nd rfl (Or.inl rfl) (cV (cm hr) (pv 0) (aK aZ (pv 2) ao (fun _ _=>rfl)) (bp (aa bC (aa bC af))) ⟨rfl,rfl,rfl,rfl⟩)))
   (ai (bu (aP cg (aK aZ (pv 2) ao (fun _ _=>rfl)) bF (aS _))
   (ar (aJ (i:=3) bN.nd rfl (Or.inl rfl) (bp (aa (aK aZ (pv 2) ao (fun _ _=>rfl)) (aa (aK aZ (pv 2) ao (fun _ _=>rfl)) af)))))
   aU)
   (ai (bu (aP cg (aK aZ (pv 2) ao (fun _ _=>rfl)) bF (aS _))
   (ar (aJ (i:=3) bN.nd rfl (Or.inl rfl) (cV (cm hr) (pv 0) (aK aZ (pv 2) ao (fun _ _=>rfl)) (bp (aa bC (aa bC af))) ⟨rfl,rfl,rfl,rfl⟩)))
   aU)
   (ai (bu (aP cg (aK aZ (pv 2) ao (fun _ _=>rfl)) bF (aS _))
   (ar (aJ (i:=3) bN.nd rfl (Or.inl rfl) (bp (aa bC (aa bC af)))))
   aU)
   (ai (bu (aP cg (aK aZ (pv 2) ao (fun _ _=>rfl)) bF (aS _))
   (ai (bT (pv 3) (cv rfl (aM (aF (i:=4) bN.nd rfl (Or.inl rfl)) (aM (aF (i:=5) bN.nd rfl (Or.inl rfl)) bU))))
   (ai (dW (bu (bW (cA (pv 4)))
   (ar (aJ (i:=4) bN.nd rfl (Or.inl rfl) (ba cL (pv 4) (aK aZ (pv 2) ao (fun _ _=>rfl)))))
   aU))
   (ai (dW (bu (bW (cA (pv 5)))
   (ar (aJ (i:=5) bN.nd rfl (Or.inl rfl) (ba cL (pv 5) (aK aZ (pv 2) ao (fun _ _=>rfl)))))
   aU))
   (ar (aJ (i:=3) bN.nd rfl (Or.inl rfl) (bp (aa (pv 4) (aa (pv 5) af))))))))
   aU)
   (ar (aJ (i:=0) bN.nd rfl (Or.inl rfl) (aC O_law_with (hr.mono (by decide)) rfl (aa (pv 0) (aa (aK aZ (pv 2) ao (fun _ _=>rfl)) (aa (pv 3) af))))))))))))
   (ar (aH (pv 0)))),?_⟩
  refine⟨_,rfl,p,rfl,⟨_,ay.of hp⟩,hV (K:=K) (a:=p) (xs:=ws) (fun i σ H'=>∃ (u0 u1 u2 u3:Option V) (dc:Addr),σ = [some (.ref dc),some (.ref p),u0,u1,u2,u3]/\LT H' dc (bx T (ds.take i)) m/\(dc=d\/H dc=none)/\ah H H') ?_ ?_ ?_ ?_⟩
  ·exact⟨_,_,_,_,d,rfl,lt,.inl rfl,ah.refl H⟩
  ·rintro i σ H1 hi ⟨u0,u1,u2,u3,dc,rfl,lt1,fr1,s1⟩
   exact ay.of (s1 _ _ hp)
  ·rintro i y σ H1 hi ⟨u0,u1,u2,u3,dc,rfl,lt1,fr1,s1⟩
   have hil:i < ds.length:=by
    have:=(List.getElem?_eq_some_iff.mp hi).1
    rw [r.len,List.length_map] at this
    exact this
   have hdi:ds[i]? = some ds[i]:=by simp [hil]
   generalize ds[i] = dd at hdi
   obtain⟨v,hv,rd⟩:=r.get (i:=i) (d:=dN dd) (by rw [List.getElem?_map,hdi];rfl)
   rw [hi] at hv
   cases hv
   have tkb:bx T (ds.take (i+1))=sX (bx T (ds.take i)) dd:=by
    unfold bx
    rw [List.take_add_one,hdi,Option.toList_some,List.foldl_append]
    rfl
   have tokI:=(tok.qr (fun d hd=>dok d (List.mem_of_mem_take hd)):de pool (bx T (ds.take i))).zE (dok dd (List.mem_of_getElem? hdi))
   refine bM ?_
   cases dd
   case put x n =>
    obtain⟨dp,rfl,hdp⟩:=gC rd
    obtain⟨kvs1,ks1,hd1,tb1,cl1,hl1⟩:=id lt1
    refine⟨fun σ' H2=>∃ v:V,σ' = [some (.ref dc),some (.ref p),some (.ref dp),some v,u2,u3]/\SH H2 v (bx T (ds.take i) x)/\ah H1 H2,⟨_,rfl,dc,rfl,.inl ⟨kvs1,.inl hd1⟩,_,rfl,dp,_,1,_,rfl,rfl,ay.of (s1 _ _ hdp),cG,ln2,fun t nt=>?_⟩,?_⟩
    ·obtain⟨v,ev,sv⟩:=LT.get (tb1.aI fun p xs e=>ah.new (o:=.tup [.aB,.aB]) nt _ _ e) cl1 ae x
     exact⟨_,v,cR.k (k:=Sum.inr x) (ah.new nt _ _ hd1),ev,v,rfl,sv,ah.new nt⟩
    rintro σ' H2 ⟨v,rfl,sv,s2⟩
    have lt2:=lt1.same s2
    have hdp2:=s2 _ _ (s1 _ _ hdp)
    refine⟨_,rfl,dp,_,0,_,rfl,rfl,ay.of hdp2,cf,rfl,_,rfl,?_⟩
    refine bY (show decide (V.str "put" = V.str "put")=true by decide +kernel) ?_
    refine⟨_,rfl,dp,_,2,_,rfl,rfl,ay.of hdp2,at2,_,rfl,dp,_,2,_,rfl,rfl,ay.of hdp2,at2,ln2,fun t nt=>?_⟩
    have s3:=ah.new (o:=.tup [.int n,.int n]) nt
    have ht:(upd H2 t (.tup [.int n,.int n])) t=some (.tup [.int n,.int n]):=ae
    generalize (upd H2 t (.tup [.int n,.int n]))=H3 at s3 ht
    have hdp3:=s3 _ _ hdp2
    refine⟨_,rfl,dp,_,0,_,rfl,rfl,ay.of hdp3,cf,rfl,_,rfl,?_⟩
    refine bf (show decide (V.str "put" = V.str "copy")=false by decide +kernel) ?_
    refine⟨_,rfl,dp,_,0,_,rfl,rfl,ay.of hdp3,cf,rfl,_,rfl,?_⟩
    refine bf (show decide (V.str "put" = V.str "read")=false by decide +kernel) ?_
    refine⟨_,rfl,dp,_,0,_,rfl,rfl,ay.of hdp3,cf,rfl,_,rfl,?_⟩
    refine bf (show decide (V.str "put" = V.str "add")=false by decide +kernel) ?_
    refine⟨_,rfl,_,rfl,dp,_,1,_,rfl,rfl,ay.of hdp3,cG,_,rfl,dc,_,m,x,_,my (bx T (ds.take i)) (.put x n),rfl,lt2.same s3,(by omega),⟨t,rfl,ht⟩,fun d' H' lt' nd' s'=>?_⟩
    refine⟨_,_,_,_,d',rfl,?_,.inr (((s1.trans s2).trans s3).free nd'),(s1.trans s2).trans (s3.trans s')⟩
    rw [tkb]
    exact lt'.lG (by rw [hmp];exact tokI.bL)
   case copy x y =>
    obtain⟨dp,rfl,hdp⟩:=gC rd
    obtain⟨kvs1,ks1,hd1,tb1,cl1,hl1⟩:=id lt1
    refine⟨fun σ' H2=>∃ v:V,σ' = [some (.ref dc),some (.ref p),some (.ref dp),some v,u2,u3]/\SH H2 v (bx T (ds.take i) x)/\ah H1 H2,⟨_,rfl,dc,rfl,.inl ⟨kvs1,.inl hd1⟩,_,rfl,dp,_,1,_,rfl,rfl,ay.of (s1 _ _ hdp),cG,ln2,fun t nt=>?_⟩,?_⟩
    ·obtain⟨v,ev,sv⟩:=LT.get (tb1.aI fun p xs e=>ah.new (o:=.tup [.aB,.aB]) nt _ _ e) cl1 ae x
     exact⟨_,v,cR.k (k:=Sum.inr x) (ah.new nt _ _ hd1),ev,v,rfl,sv,ah.new nt⟩
    rintro σ' H2 ⟨v,rfl,sv,s2⟩
    have lt2:=lt1.same s2
    have hdp2:=s2 _ _ (s1 _ _ hdp)
    refine⟨_,rfl,dp,_,0,_,rfl,rfl,ay.of hdp2,cf,rfl,_,rfl,?_⟩
    refine bf (show decide (V.str "copy" = V.str "put")=false by decide +kernel) ?_
    refine⟨_,rfl,dp,_,0,_,rfl,rfl,ay.of hdp2,cf,rfl,_,rfl,?_⟩
    refine bY (show decide (V.str "copy" = V.str "copy")=true by decide +kernel) ?_
    obtain⟨kvs2,ks2,hd2,tb2,cl2,hl2⟩:=id lt2
    refine⟨_,rfl,dc,rfl,.inl ⟨kvs2,.inl hd2⟩,_,rfl,dp,_,2,_,rfl,rfl,ay.of hdp2,at2,ln2,fun t nt=>?_⟩
    obtain⟨v2,ev2,sv2⟩:=LT.get (tb2.aI fun p xs e=>ah.new (o:=.tup [.aB,.aB]) nt _ _ e) cl2 ae y
    refine⟨_,v2,cR.k (k:=Sum.inr y) (ah.new nt _ _ hd2),ev2,?_⟩
    have s3:=ah.new (o:=.tup [.aB,.aB]) nt
    clear ev2
    generalize (upd H2 t (.tup [.aB,.aB]))=H3 at s3 sv2
    have hdp3:=s3 _ _ hdp2
    refine⟨_,rfl,dp,_,0,_,rfl,rfl,ay.of hdp3,cf,rfl,_,rfl,?_⟩
    refine bf (show decide (V.str "copy" = V.str "read")=false by decide +kernel) ?_
    refine⟨_,rfl,dp,_,0,_,rfl,rfl,ay.of hdp3,cf,rfl,_,rfl,?_⟩
    refine bf (show decide (V.str "copy" = V.str "add")=false by decide +kernel) ?_
    refine⟨_,rfl,_,rfl,dp,_,1,_,rfl,rfl,ay.of hdp3,cG,_,rfl,dc,_,m,x,_,my (bx T (ds.take i)) (.copy x y),rfl,lt2.same s3,(by omega),sv2,fun d' H' lt' nd' s'=>?_⟩
    refine⟨_,_,_,_,d',rfl,?_,.inr (((s1.trans s2).trans s3).free nd'),(s1.trans s2).trans (s3.trans s')⟩
    rw [tkb]
    exact lt'.lG (by rw [hmp];exact tokI.bL)
   case read x =>
    obtain⟨dp,rfl,hdp⟩:=gC rd
    obtain⟨kvs1,ks1,hd1,tb1,cl1,hl1⟩:=id lt1
    refine⟨fun σ' H2=>∃ v:V,σ' = [some (.ref dc),some (.ref p),some (.ref dp),some v,u2,u3]/\SH H2 v (bx T (ds.take i) x)/\ah H1 H2,⟨_,rfl,dc,rfl,.inl ⟨kvs1,.inl hd1⟩,_,rfl,dp,_,1,_,rfl,rfl,ay.of (s1 _ _ hdp),cG,ln2,fun t nt=>?_⟩,?_⟩
    ·obtain⟨v,ev,sv⟩:=LT.get (tb1.aI fun p xs e=>ah.new (o:=.tup [.aB,.aB]) nt _ _ e) cl1 ae x
     exact⟨_,v,cR.k (k:=Sum.inr x) (ah.new nt _ _ hd1),ev,v,rfl,sv,ah.new nt⟩
    rintro σ' H2 ⟨v,rfl,sv,s2⟩
    have lt2:=lt1.same s2
    have hdp2:=s2 _ _ (s1 _ _ hdp)
    refine⟨_,rfl,dp,_,0,_,rfl,rfl,ay.of hdp2,cf,rfl,_,rfl,?_⟩
    refine bf (show decide (V.str "read" = V.str "put")=false by decide +kernel) ?_
    refine⟨_,rfl,dp,_,0,_,rfl,rfl,ay.of hdp2,cf,rfl,_,rfl,?_⟩
    refine bf (show decide (V.str "read" = V.str "copy")=false by decide +kernel) ?_
    refine⟨_,rfl,dp,_,0,_,rfl,rfl,ay.of hdp2,cf,rfl,_,rfl,?_⟩
    refine bY (show decide (V.str "read" = V.str "read")=true by decide +kernel) ?_
    refine⟨ln2,fun t nt=>?_⟩
    have s3:=ah.new (o:=.tup [.aB,.aB]) nt
    have ht:(upd H2 t (.tup [.aB,.aB])) t=some (.tup [.aB,.aB]):=ae
    generalize (upd H2 t (.tup [.aB,.aB]))=H3 at s3 ht
    have hdp3:=s3 _ _ hdp2
    refine⟨_,rfl,dp,_,0,_,rfl,rfl,ay.of hdp3,cf,rfl,_,rfl,?_⟩
    refine bf (show decide (V.str "read" = V.str "add")=false by decide +kernel) ?_
    refine⟨_,rfl,_,rfl,dp,_,1,_,rfl,rfl,ay.of hdp3,cG,_,rfl,dc,_,m,x,_,my (bx T (ds.take i)) (.read x),rfl,lt2.same s3,(by omega),⟨t,rfl,ht⟩,fun d' H' lt' nd' s'=>?_⟩
    refine⟨_,_,_,_,d',rfl,?_,.inr (((s1.trans s2).trans s3).free nd'),(s1.trans s2).trans (s3.trans s')⟩
    rw [tkb]
    exact lt'.lG (by rw [hmp];exact tokI.bL)
   case add x n =>
    obtain⟨dp,rfl,hdp⟩:=gC rd
    obtain⟨kvs1,ks1,hd1,tb1,cl1,hl1⟩:=id lt1
    refine⟨fun σ' H2=>∃ v:V,σ' = [some (.ref dc),some (.ref p),some (.ref dp),some v,u2,u3]/\SH H2 v (bx T (ds.take i) x)/\ah H1 H2,⟨_,rfl,dc,rfl,.inl ⟨kvs1,.inl hd1⟩,_,rfl,dp,_,1,_,rfl,rfl,ay.of (s1 _ _ hdp),cG,ln2,fun t nt=>?_⟩,?_⟩
    ·obtain⟨v,ev,sv⟩:=LT.get (tb1.aI fun p xs e=>ah.new (o:=.tup [.aB,.aB]) nt _ _ e) cl1 ae x
     exact⟨_,v,cR.k (k:=Sum.inr x) (ah.new nt _ _ hd1),ev,v,rfl,sv,ah.new nt⟩
    rintro σ' H2 ⟨v,rfl,sv,s2⟩
    have lt2:=lt1.same s2
    have hdp2:=s2 _ _ (s1 _ _ hdp)
    refine⟨_,rfl,dp,_,0,_,rfl,rfl,ay.of hdp2,cf,rfl,_,rfl,?_⟩
    refine bf (show decide (V.str "add" = V.str "put")=false by decide +kernel) ?_
    refine⟨_,rfl,dp,_,0,_,rfl,rfl,ay.of hdp2,cf,rfl,_,rfl,?_⟩
    refine bf (show decide (V.str "add" = V.str "copy")=false by decide +kernel) ?_
    refine⟨_,rfl,dp,_,0,_,rfl,rfl,ay.of hdp2,cf,rfl,_,rfl,?_⟩
    refine bf (show decide (V.str "add" = V.str "read")=false by decide +kernel) ?_
    refine⟨_,rfl,dp,_,0,_,rfl,rfl,ay.of hdp2,cf,rfl,_,rfl,?_⟩
    refine bY (show decide (V.str "add" = V.str "add")=true by decide +kernel) ?_
    obtain⟨sq,rfl,hsq⟩:=id sv
    refine⟨_,rfl,sq,_,rfl,ay.of hsq,rfl,_,_,rfl,_,_,rfl,rfl,?_⟩
    refine⟨fun σ' H'=>σ' = [some (.ref dc),some (.ref p),some (.ref dp),some (.ref sq),some (vO (jc (bx T (ds.take i) x).1 n)),some (vO (bx T (ds.take i) x).2)]/\H2=H',?_,?_⟩
    ·cases (bx T (ds.take i) x).1 with
     | none=>exact⟨_,rfl,_,rfl,aV ⟨rfl,rfl⟩⟩
     | some z=>exact⟨_,rfl,_,rfl,aW ⟨_,rfl,_,rfl,dp,_,2,_,rfl,rfl,ay.of hdp2,at2,_,_,rfl,rfl,rfl,rfl⟩⟩
    rintro σ' H' ⟨rfl,rfl⟩
    refine⟨fun σ' H'=>σ' = [some (.ref dc),some (.ref p),some (.ref dp),some (.ref sq),some (vO (jc (bx T (ds.take i) x).1 n)),some (vO (jc (bx T (ds.take i) x).2 n))]/\H2=H',?_,?_⟩
    ·cases (bx T (ds.take i) x).2 with
     | none=>exact⟨_,rfl,_,rfl,aV ⟨rfl,rfl⟩⟩
     | some z=>exact⟨_,rfl,_,rfl,aW ⟨_,rfl,_,rfl,dp,_,2,_,rfl,rfl,ay.of hdp2,at2,_,_,rfl,rfl,rfl,rfl⟩⟩
    rintro σ' H' ⟨rfl,rfl⟩
    refine⟨_,rfl,_,rfl,ln2,fun t nt=>?_⟩
    have s3:=ah.new (o:=.tup [vO (jc (bx T (ds.take i) x).1 n),vO (jc (bx T (ds.take i) x).2 n)]) nt
    have ht:(upd H2 t (.tup [vO (jc (bx T (ds.take i) x).1 n),vO (jc (bx T (ds.take i) x).2 n)])) t=some (.tup [vO (jc (bx T (ds.take i) x).1 n),vO (jc (bx T (ds.take i) x).2 n)]):=ae
    generalize (upd H2 t (.tup [vO (jc (bx T (ds.take i) x).1 n),vO (jc (bx T (ds.take i) x).2 n)]))=H3 at s3 ht
    have hdp3:=s3 _ _ hdp2
    refine⟨_,rfl,_,rfl,dp,_,1,_,rfl,rfl,ay.of hdp3,cG,_,rfl,dc,_,m,x,_,my (bx T (ds.take i)) (.add x n),rfl,lt2.same s3,(by omega),⟨t,rfl,ht⟩,fun d' H' lt' nd' s'=>?_⟩
    refine⟨_,_,_,_,d',rfl,?_,.inr (((s1.trans s2).trans s3).free nd'),(s1.trans s2).trans (s3.trans s')⟩
    rw [tkb]
    exact lt'.lG (by rw [hmp];exact tokI.bL)
   case tell x =>
    obtain⟨dp,rfl,hdp⟩:=gC rd
    obtain⟨kvs1,ks1,hd1,tb1,cl1,hl1⟩:=id lt1
    refine⟨fun σ' H2=>∃ v:V,σ' = [some (.ref dc),some (.ref p),some (.ref dp),some v,u2,u3]/\SH H2 v (bx T (ds.take i) x)/\ah H1 H2,⟨_,rfl,dc,rfl,.inl ⟨kvs1,.inl hd1⟩,_,rfl,dp,_,1,_,rfl,rfl,ay.of (s1 _ _ hdp),cG,ln2,fun t nt=>?_⟩,?_⟩
    ·obtain⟨v,ev,sv⟩:=LT.get (tb1.aI fun p xs e=>ah.new (o:=.tup [.aB,.aB]) nt _ _ e) cl1 ae x
     exact⟨_,v,cR.k (k:=Sum.inr x) (ah.new nt _ _ hd1),ev,v,rfl,sv,ah.new nt⟩
    rintro σ' H2 ⟨v,rfl,sv,s2⟩
    have lt2:=lt1.same s2
    have hdp2:=s2 _ _ (s1 _ _ hdp)
    refine⟨_,rfl,dp,_,0,_,rfl,rfl,ay.of hdp2,cf,rfl,_,rfl,?_⟩
    refine bf (show decide (V.str "tell" = V.str "put")=false by decide +kernel) ?_
    refine⟨_,rfl,dp,_,0,_,rfl,rfl,ay.of hdp2,cf,rfl,_,rfl,?_⟩
    refine bf (show decide (V.str "tell" = V.str "copy")=false by decide +kernel) ?_
    refine⟨_,rfl,dp,_,0,_,rfl,rfl,ay.of hdp2,cf,rfl,_,rfl,?_⟩
    refine bf (show decide (V.str "tell" = V.str "read")=false by decide +kernel) ?_
    refine⟨_,rfl,dp,_,0,_,rfl,rfl,ay.of hdp2,cf,rfl,_,rfl,?_⟩
    refine bf (show decide (V.str "tell" = V.str "add")=false by decide +kernel) ?_
    refine⟨_,rfl,_,rfl,dp,_,1,_,rfl,rfl,ay.of hdp2,cG,_,rfl,dc,_,m,x,_,my (bx T (ds.take i)) (.tell x),rfl,lt2.same (ah.refl H2),(by omega),sv,fun d' H' lt' nd' s'=>?_⟩
    refine⟨_,_,_,_,d',rfl,?_,.inr ((s1.trans s2).free nd'),(s1.trans s2).trans ((ah.refl H2).trans s')⟩
    rw [tkb]
    exact lt'.lG (by rw [hmp];exact tokI.bL)
  ·rintro σ H1 ⟨u0,u1,u2,u3,dc,rfl,lt1,fr1,s1⟩
   have hwl:ws.length=ds.length:=by rw [r.len,List.length_map]
   rw [hwl,List.take_length] at lt1
   exact⟨_,rfl,q dc H1 lt1 fr1 s1⟩
theorem qJ {f:Addr} {fd:FuncData} (F:bZ K "_law_leads" "_law_leads" ft f fd) (Z:Bl mg) (O_law_part:Own P w K mg base "_law_part" 1 ["stretch", "word", "number", "side"] nV) (O_law_with:Own P w K mg base "_law_with" 1 ["facts", "name", "stretch"] lJ):bD P w K mg base bX 3 f fd ["facts", "end"] kQ:=by
  refine F.ok (k:=2) gZ (fun vs H Q E h=>?_) (fun cdv A outer s H vs Q E hr h=>?_)
  · obtain⟨d,ea,T,e,m,rfl,_⟩:=h
    rfl
  · obtain⟨d,ea,T,e,m,rfl,lt,hm,le,he,q⟩:=h
    refine⟨_,(ai (bu (aP cg (aK aZ (pv 1) ao (fun _ _=>rfl)) bF (aS _))
      (ar (aH (cD af)))
      aU)
      (ai (bu (aP cg (aK aZ (pv 1) ao (fun _ _=>rfl)) bF (aS _))
      (ar (aH (cD (aa (bp (aa bC (aa (aK aZ (pv 1) ao (fun _ _=>rfl)) (aa (pv 0) af)))) af))))
      aU)
      (ai (aJ (i:=2) gZ.nd rfl (Or.inl rfl) (cD af))
      (ai (dH PassesOwn.never rfl (hR (cD (aa dz (aa dz af)))) (aF (i:=3) gZ.nd rfl (Or.inl rfl))
      (ai (dW (aJ (i:=4) gZ.nd rfl (Or.inl rfl) (aC O_law_part (hr.mono (by decide)) rfl (aa (cV (cm hr) (pv 0) (aK aZ (pv 1) ao (fun _ _=>rfl)) (bp (aa bC (aa bC af))) ⟨rfl,rfl,rfl,rfl⟩) (aa (aK aZ (pv 1) ao (fun _ _=>rfl)) (aa (aK aZ (pv 1) ao (fun _ _=>rfl)) (aa (pv 3) af)))))))
      (ar (bu (bW (cA (pv 4)))
      (ar (fF (ik PySem.F.plainAttrs_list PySem.F.slot_list_append PySem.F.type_list_append gB (pv 2) (aa (bp (aa (pv 3) (aa (aK aZ (pv 1) (ba fZ ao (bw ix rfl Z.int kq (aa (pv 3) af))) (fun _ _=>rfl)) (aa (aC O_law_with (hr.mono (by decide)) rfl (aa (pv 0) (aa (aK aZ (pv 1) ao (fun _ _=>rfl)) (aa (pv 4) af)))) af)))) af))))
      aU))))
      (ar (aH (pv 2))))))),?_⟩
    refine⟨_,rfl,ea,_,0,_,rfl,rfl,ay.of he,(by cases e <;> exact cf:fU (i6 e) 0=some (V.str (wE e))),rfl,_,rfl,?_⟩
    cases e with
    | stop =>
      refine bY (show decide (V.str "stop" = V.str "stop")=true by decide +kernel) ?_
      exact⟨(by show 0<=sizeLine;decide),fun l hl=>q l [] _ ae hl .nil (ah.new hl)⟩
    | go p =>
      refine bf (show decide (V.str "go" = V.str "stop")=false by decide +kernel) ?_
      refine⟨_,rfl,ea,_,0,_,rfl,rfl,ay.of he,cf,rfl,_,rfl,?_⟩
      refine bY (show decide (V.str "go" = V.str "go")=true by decide +kernel) ?_
      refine⟨_,rfl,ea,_,1,_,rfl,rfl,ay.of he,cG,_,rfl,pR,fun t nt=>⟨tY,fun l hl=>?_⟩⟩
      have q1:=ah.new (o:=.tup [.aB,.int (p:Nat),.ref d]) nt
      have q2:=ah.new (o:=.lst [V.ref t]) hl
      exact q l _ _ ae (q1.free hl) (.cons ⟨t,.aB,d,rfl,q2 _ _ ae,((lt.same q1).same q2).up (Nat.le_succ _),.inl rfl⟩ .nil) (q1.trans q2)
    | d6 b x n p r =>
      refine bf (show decide (V.str (wT b)=V.str "stop")=false by cases b <;> decide +kernel) ?_
      refine⟨_,rfl,ea,_,0,_,rfl,rfl,ay.of he,cf,rfl,_,rfl,?_⟩
      refine bf (show decide (V.str (wT b)=V.str "go")=false by cases b <;> decide +kernel) ?_
      refine⟨(by show 0<=sizeLine;decide),fun fl hfl=>?_⟩
      have s1:=ah.new (o:=.lst []) hfl
      have hfl1:(upd H fl (.lst [])) fl=some (.lst []):=ae
      generalize (upd H fl (.lst []))=H1 at s1 hfl1
      refine⟨ln2,fun sl hsl=>⟨sl,rfl,⟨_,aX.of ae⟩,?_⟩⟩
      have s2:=ah.new (o:=.lst [.bl true,.bl false]) hsl
      have hsl2:(upd H1 sl (.lst [.bl true,.bl false])) sl=some (.lst [.bl true,.bl false]):=ae
      have nsl:sl ≠ fl:=(aY hfl1 hsl).symm
      have hfl2:=s2 _ _ hfl1
      generalize (upd H1 sl (.lst [.bl true,.bl false]))=H2 at s2 hsl2 hfl2
      refine ma (K:=K) (a:=sl) (xs:=[.bl true,.bl false]) (fun i σ H'=>∃ (u1 u2:Option V) (vs:List V),σ = [some (.ref d),some (.ref ea),some (.ref fl),u1,u2]/\H' fl=some (.lst vs)/\H' sl=some (.lst [.bl true,.bl false])/\jC (m+1) (fun a=>a=d\/H a=none) H' vs ((((cJ (.d6 b x n p r)).zip (gS T (.d6 b x n p r))).take i).filterMap fun p=>p.2.map fun U=>(p.1,U))/\vs.length<=i/\ah H H') ?_ ?_ ?_ ?_
      · exact⟨_,_,[],rfl,hfl2,hsl2,.nil,Nat.le_refl _,s1.trans s2⟩
      · rintro i σ H3 hi ⟨u1,u2,vs,rfl,h1,h2,tv,hvl,s3⟩
        exact aX.of h2
      · rintro i y σ H3 hi ⟨u1,u2,vs,rfl,h1,h2,tv,hvl,s3⟩
        obtain⟨side,rfl,hwy,hby,hi2⟩:∃ side:Bool,y=.bl side/\(cJ (.d6 b x n p r))[i]? = some (if side=true then p else r)/\(gS T (.d6 b x n p r))[i]? = some ((iK T b x n side).map (cc T x))/\i < 2:=by
          match i,hi with
          | 0,hi=>cases hi;exact⟨true,rfl,rfl,rfl,by omega⟩
          | 1,hi=>cases hi;exact⟨false,rfl,rfl,rfl,by omega⟩
          | i+2,hi=>simp at hi
        have hnext:=oF (T:=T) (e:=.d6 b x n p r) hwy hby
        have he3:=s3 _ _ he
        have lt3:=lt.same s3
        obtain⟨kvs,ks,hd3,tb3,cl3,hl3⟩:=id lt3
        refine bM ?_
        refine⟨fun σ' H'=>∃ v:V,σ' = [some (.ref d),some (.ref ea),some (.ref fl),some (.bl side),some v]/\RV H' v (iK T b x n side)/\ah H3 H',?_,?_⟩
        · refine⟨_,rfl,d,rfl,.inl ⟨kvs,.inl hd3⟩,_,rfl,ea,_,1,_,rfl,rfl,ay.of he3,cG,ln2,fun t nt=>?_⟩
          have s4:=ah.new (o:=.tup [.aB,.aB]) nt
          obtain⟨v,ev,sv⟩:=LT.get (tb3.aI fun p xs e=>ah.new (o:=.tup [.aB,.aB]) nt _ _ e) cl3 ae x
          obtain⟨sq,rfl,hsq⟩:=id sv
          refine⟨_,_,cR.k (k:=Sum.inr x) (s4 _ _ hd3),ev,?_⟩
          refine⟨_,rfl,ea,_,0,_,rfl,rfl,ay.of (s4 _ _ he3),cf,_,rfl,ea,_,2,_,rfl,rfl,ay.of (s4 _ _ he3),at2,_,rfl,sq,b,n,side,_,_,rfl,hsq,le x,fun v H5 r5 s5=>?_⟩
          exact⟨v,rfl,r5,s4.trans s5⟩
        rintro σ' H4 ⟨v,rfl,rv,s4⟩
        have h14:=s4 _ _ h1
        have h24:=s4 _ _ h2
        have tv4:=tv.same s4
        refine⟨_,rfl,_,rfl,?_⟩
        cases hp:iK T b x n side with
        | none =>
          rw [hp] at rv hnext
          cases (show v=V.aB from rv)
          refine aV ?_
          refine⟨_,_,vs,rfl,h14,h24,?_,Nat.le_succ_of_le hvl,s3.trans s4⟩
          rw [hnext]
          simpa using tv4
        | some sx =>
          rw [hp] at rv hnext
          have shv:SH H4 v sx:=by
            obtain⟨a1,b1⟩:=sx
            obtain⟨yp,e,h⟩:=rv
            exact⟨yp,e,h⟩
          obtain⟨yp,rfl,hyp⟩:=id shv
          refine aW ?_
          have he4:=s4 _ _ he3
          have hat:fU (i6 (.d6 b x n p r)) (4 - (if side=true then 1 else 0))=some (V.int ((if side=true then p else r:Nat):Nat)):=by
            cases side
            · exact bJ (j:=4) rfl
            · exact bJ (j:=3) rfl
          refine⟨_,rfl,.inl ⟨rfl,_,aX.of h14⟩,_,rfl,_,rfl,_,rfl,.inr ⟨_,rfl,_,_,rfl,rfl,ea,_,_,_,rfl,rfl,ay.of he4,hat,?_⟩⟩
          refine⟨_,rfl,_,rfl,ea,_,1,_,rfl,rfl,ay.of he4,cG,_,rfl,d,T,m,x,.ref yp,sx,rfl,lt3.same s4,(by omega),shv,fun d' H5 lt5 nd5 s5=>⟨pR,fun t nt=>?_⟩⟩
          have s6:=ah.new (o:=.tup [.bl side,.int ((if side=true then p else r:Nat):Nat),.ref d']) nt
          have h16:=s6 _ _ (s5 _ _ h14)
          refine⟨fl,vs,_,rfl,rfl,h16,br (by omega),?_⟩
          refine⟨_,_,vs ++ [.ref t],rfl,ae,by rw [au nsl];exact s6 _ _ (s5 _ _ h24),?_,(by rw [List.length_append];show _+1<=_;omega),((s3.trans s4).trans (s5.trans s6)).put hfl⟩
          rw [hnext]
          refine eZ (((tv4.same s5).same s6).put h16) (.cons ⟨t,.bl side,d',rfl,?_,(lt5.same s6).put h16,.inr ((s3.trans s4).free nd5)⟩ .nil)
          have ht:(upd H5 t (.tup [.bl side,.int ((if side=true then p else r:Nat):Nat),.ref d'])) t=some (.tup [.bl side,.int ((if side=true then p else r:Nat):Nat),.ref d']):=ae
          rw [au (bA ht h16 (by intro z;cases z))]
          exact ht
      · rintro σ H3 ⟨u1,u2,vs,rfl,h1,h2,tv,hvl,s3⟩
        exact⟨_,rfl,q fl vs H3 h1 hfl tv s3⟩
theorem o2 {f:Addr} {fd:FuncData} (F:bZ K "_law_covers" "_law_covers" eR f fd) (Z:Bl mg)  : bD P w K mg base bX 1 f fd ["one", "other"] kO:=by
 refine F.ok (k:=0) dU (fun vs H Q E h=>?_) (fun cdv A outer s H vs Q E hr h=>?_)
 ·obtain⟨d,e,T,U,m,rfl,_⟩:=h
  rfl
 ·obtain⟨d,e,T,U,m,rfl,lt,lu,q⟩:=h
  refine⟨_,(ai (dW (nN PassesOwn.never rfl (pv 0) (aF (i:=2) dU.nd rfl (Or.inl rfl))
   (ai (bT (iR (cm hr) (pv 0) (pv 2) (fun _ _=>rfl)) (cv rfl (aM (aF (i:=3) dU.nd rfl (Or.inl rfl)) (aM (aF (i:=4) dU.nd rfl (Or.inl rfl)) bU))))
   (ai (bT (cV (cm hr) (pv 1) (pv 2) (bp (aa bC (aa bC af))) ⟨rfl,rfl,rfl,rfl⟩) (cv rfl (aM (aF (i:=5) dU.nd rfl (Or.inl rfl)) (aM (aF (i:=6) dU.nd rfl (Or.inl rfl)) bU))))
   (ai (bu (PW.pt (fu (bW (cA (pv 3))) (fg (PW.pt (kW (bW (cU (pv 5))) (jF (aP jg (pv 5) (pv 3) (aS _))))))))
   (ar (aH dz))
   aU)
   (ar (bu (PW.pt (fu (bW (cA (pv 4))) (fg (PW.pt (kW (bW (cU (pv 6))) (jF (aP jh (pv 6) (pv 4) (aS _))))))))
   (ar (aH dz))
   aU)))))))
   (ar (aH dz))),?_⟩
  obtain⟨kvs,ks,hd,tb,cl,hl⟩:=lt
  obtain⟨kvu,ku,he,tu,cu,hu⟩:=lu
  have ndk:(kvs.map (·.1)).Nodup:=by
   rw [tb.keys]
   exact List.Pairwise.map _ (fun a b n z=>n (Sum.inr.inj z)) tb.nd
  refine⟨fun σ' H'=>(∀ x ∈ ks,cw (U x) (T x)=true)/\ah H H',?_,?_⟩
  ·refine⟨_,rfl,d,kvs,rfl,hd,fun ob=>⟨fun j τ H2=>∃ u0 u1 u2 u3 u4:Option V,τ = [some (.ref d),some (.ref e),u0,u1,u2,u3,u4]/\H2 d=some (.dB ob (.dK kvs))/\(∀ c o,H c=some o->c ≠ d->H2 c=some o)/\(∀ x ∈ ks.take j,cw (U x) (T x)=true),?_,?_,?_,?_⟩⟩
   ·exact⟨_,_,_,_,_,rfl,ae,(fun c o e n=>by rw [au n];exact e),(fun x hx=>by simp at hx)⟩
   ·rintro j τ H2 ⟨u0,u1,u2,u3,u4,_,h,_⟩
    exact h
   ·rintro j k v τ H2 hj ⟨u0,u1,u2,u3,u4,rfl,h1,h2,h3⟩
    obtain⟨x,hx,rfl⟩:∃ x,ks[j]? = some x/\k=Sum.inr x:=by
     have e1:(kvs.map (·.1))[j]? = some k:=by rw [List.getElem?_map,hj];rfl
     rw [tb.keys,List.getElem?_map] at e1
     cases e2:ks[j]? with
     | none=>rw [e2] at e1;cases e1
     | some y=>rw [e2] at e1;exact⟨y,rfl,(Option.some.inj e1).symm⟩
    have hxm:x ∈ ks:=List.mem_of_getElem? hx
    have hvv:=mi ndk (List.mem_of_getElem? hj)
    obtain⟨q2,rfl,hq2⟩:SH H v (T x):=by
     rcases tb.val x with ⟨a,_,_⟩ | ⟨w,a,b,c⟩
     ·rw [hvv] at a;cases a
     ·rw [hvv] at a
      cases a
      rcases b with b | ⟨_,b⟩
      ·exact b
      ·exact absurd b (cl x c)
    have q2d:q2 ≠ d:=bA hq2 hd (by intro z;cases z)
    have hq22:=h2 _ _ hq2 q2d
    have he2:H2 e=some (.dK kvu)\/∃ ob,H2 e=some (.dB ob (.dK kvu)):=by
     by_cases z:e=d
     ·subst z
      rw [hd] at he
      cases he
      exact .inr ⟨ob,h1⟩
     ·exact .inl (h2 _ _ he z)
    have ktu:∀ p zs,H p=some (.tup zs)->H2 p=some (.tup zs):=fun p zs e=>h2 p _ e (bA e hd (by intro z;cases z))
    have dg:cR H2 d (.str x) (some (.ref q2)):=.inl ⟨kvs,Sum.inr x,.inr ⟨ob,h1⟩,rfl,hvv.symm⟩
    generalize eT:T x=tt at hq2 hq22
    obtain⟨lo,hi⟩:=tt
    refine bM ?_
    refine⟨_,rfl,_,rfl,d,_,rfl,dg,q2,_,rfl,ay.of hq22,rfl,_,_,rfl,_,_,rfl,rfl,?_⟩
    refine⟨_,rfl,e,rfl,.inl ⟨kvu,he2⟩,_,rfl,ln2,fun t nt=>?_⟩
    have s3:=ah.new (o:=.tup [.aB,.aB]) nt
    obtain⟨w,ew,q3,rfl,hq3⟩:=LT.get ((tu.aI ktu).aI fun p zs e=>s3 _ _ e) cu ae x
    generalize eU:U x=uu at hq3
    obtain⟨lo2,hi2⟩:=uu
    refine⟨_,_,.inl ⟨kvu,Sum.inr x,he2.imp (fun h=>s3 _ _ h) (fun ⟨ob,h⟩=>⟨ob,s3 _ _ h⟩),rfl,rfl⟩,ew,q3,_,rfl,ay.of hq3,rfl,_,_,rfl,_,_,rfl,rfl,?_⟩
    clear ew
    have h1':=s3 _ _ h1
    have h2':∀ c o,H c=some o->c ≠ d->(upd H2 t (.tup [.aB,.aB])) c=some o:=fun c o e n=>s3 _ _ (h2 c o e n)
    clear s3 hq3
    generalize (upd H2 t (.tup [.aB,.aB]))=H3 at h1' h2' ⊢
    have sm:ah H (upd H3 d (.dK kvs)):=fun c o e=>by
     by_cases z:c=d
     ·subst z;rw [hd] at e;cases e;exact ae
     ·rw [au z];exact h2' c o e z
    have bad:cw (U x) (T x)=false->Q (.bl false) (upd H3 d (.dK kvs)):=fun h=>q false _ ⟨(fun z=>by cases z),(fun z=>by rw [z x] at h;cases h)⟩ sm
    have tky:∀ y ∈ ks.take (j+1),y ∈ ks.take j\/y=x:=fun y hy=>by
     rw [List.take_add_one,hx] at hy
     rcases List.mem_append.mp hy with h | h
     ·exact .inl h
     ·exact .inr (by simpa using h)
    cases lo with
    | none =>
     have hlw:cy lo2 none=true:=by cases lo2 <;> rfl
     refine⟨_,rfl,_,rfl,aV (aV ?_)⟩
     cases hi with
     | none =>
      have hhw:bI hi2 none=true:=by cases hi2 <;> rfl
      exact⟨_,rfl,_,rfl,aV (aV (by exact⟨_,_,_,_,_,rfl,h1',h2',fun y hy=>(tky y hy).elim (h3 y) fun z=>by rw [z,eT,eU];show (cy lo2 none && bI hi2 none)=true;rw [hlw,hhw];rfl⟩))⟩
     | some f =>
      cases hi2 with
      | none=>exact⟨_,rfl,_,rfl,aW ⟨_,rfl,_,rfl,aW (aW ⟨ob,h1',bad (by rw [eT,eU];exact Bool.and_false _)⟩)⟩⟩
      | some g =>
       refine⟨_,rfl,_,rfl,aW ⟨_,rfl,_,rfl,aV ⟨_,rfl,_,rfl,_,_,rfl,rfl,_,rfl,?_⟩⟩⟩
       refine cM (fun hc=>?_) (fun hc=>?_)
       ·have hlt:f < g:=of_decide_eq_true hc
        have hhw:bI (some g) (some f)=false:=decide_eq_false (by omega)
        exact⟨ob,h1',bad (by rw [eT,eU];show (cy lo2 none && bI (some g) (some f))=false;rw [hhw];exact Bool.and_false _)⟩
       ·have hlt:¬ f < g:=fun z=>hc (decide_eq_true z)
        have hhw:bI (some g) (some f)=true:=decide_eq_true (by omega)
        exact⟨_,_,_,_,_,rfl,h1',h2',fun y hy=>(tky y hy).elim (h3 y) fun z=>by rw [z,eT,eU];show (cy lo2 none && bI (some g) (some f))=true;rw [hlw,hhw];rfl⟩
    | some a =>
     cases lo2 with
     | none=>exact⟨_,rfl,_,rfl,aW ⟨_,rfl,_,rfl,aW (aW ⟨ob,h1',bad (by rw [eT,eU];rfl)⟩)⟩⟩
     | some c =>
      refine⟨_,rfl,_,rfl,aW ⟨_,rfl,_,rfl,aV ⟨_,rfl,_,rfl,_,_,rfl,rfl,_,rfl,?_⟩⟩⟩
      refine cM (fun hc=>?_) (fun hc=>?_)
      ·have hlt:c < a:=of_decide_eq_true hc
       have hlw:cy (some c) (some a)=false:=decide_eq_false (by omega)
       exact⟨ob,h1',bad (by rw [eT,eU];show (cy (some c) (some a) && bI hi2 hi)=false;rw [hlw];rfl)⟩
      ·have hlt:¬ c < a:=fun z=>hc (decide_eq_true z)
       have hlw:cy (some c) (some a)=true:=decide_eq_true (by omega)
       cases hi with
       | none =>
        have hhw:bI hi2 none=true:=by cases hi2 <;> rfl
        exact⟨_,rfl,_,rfl,aV (aV (by exact⟨_,_,_,_,_,rfl,h1',h2',fun y hy=>(tky y hy).elim (h3 y) fun z=>by rw [z,eT,eU];show (cy (some c) (some a) && bI hi2 none)=true;rw [hlw,hhw];rfl⟩))⟩
       | some f =>
        cases hi2 with
        | none=>exact⟨_,rfl,_,rfl,aW ⟨_,rfl,_,rfl,aW (aW ⟨ob,h1',bad (by rw [eT,eU];exact Bool.and_false _)⟩)⟩⟩
        | some g =>
         refine⟨_,rfl,_,rfl,aW ⟨_,rfl,_,rfl,aV ⟨_,rfl,_,rfl,_,_,rfl,rfl,_,rfl,?_⟩⟩⟩
         refine cM (fun hc=>?_) (fun hc=>?_)
         ·have hlt:f < g:=of_decide_eq_true hc
          have hhw:bI (some g) (some f)=false:=decide_eq_false (by omega)
          exact⟨ob,h1',bad (by rw [eT,eU];show (cy (some c) (some a) && bI (some g) (some f))=false;rw [hhw];exact Bool.and_false _)⟩
         ·have hlt:¬ f < g:=fun z=>hc (decide_eq_true z)
          have hhw:bI (some g) (some f)=true:=decide_eq_true (by omega)
          exact⟨_,_,_,_,_,rfl,h1',h2',fun y hy=>(tky y hy).elim (h3 y) fun z=>by rw [z,eT,eU];show (cy (some c) (some a) && bI (some g) (some f))=true;rw [hlw,hhw];rfl⟩
   ·rintro τ H2 ⟨u0,u1,u2,u3,u4,rfl,h1,h2,h3⟩
    have hkl:kvs.length=ks.length:=by have:=congrArg List.length tb.keys;simpa using this
    rw [hkl,List.take_length] at h3
    refine⟨h3,fun c o e=>?_⟩
    by_cases z:c=d
    ·subst z;rw [hd] at e;cases e;exact ae
    ·rw [au z];exact h2 c o e z
  rintro σ' H1 ⟨hall,s1⟩
  refine q true H1 ⟨fun _ x=>?_,fun _=>rfl⟩ s1
  by_cases hT:T x=bE
  ·rw [hT];exact nQ _
  ·refine hall x ?_
   rcases tb.val x with ⟨_,a,_⟩ | ⟨_,_,_,a⟩
   ·exact absurd a hT
   ·exact a
theorem o3 {f:Addr} {fd:FuncData} (F:bZ K "_law_opened" "_law_opened" eV f fd) (Z:Bl mg)  : bD P w K mg base bX 1 f fd ["one", "other"] kP:=by
 refine F.ok (k:=0) cF (fun vs H Q E h=>?_) (fun cdv A outer s H vs Q E hr h=>?_)
 ·obtain⟨d,e,T,U,m,rfl,_⟩:=h
  rfl
 ·obtain⟨d,e,T,U,m,rfl,lt,lu,hm63,q⟩:=h
  refine⟨_,(ai (aJ (i:=2) cF.nd rfl (Or.inl rfl) i5)
   (ai (dW (nN PassesOwn.never rfl (pv 0) (aF (i:=3) cF.nd rfl (Or.inl rfl))
   (ai (bT (iR (cm hr) (pv 0) (pv 3) (fun _ _=>rfl)) (cv rfl (aM (aF (i:=4) cF.nd rfl (Or.inl rfl)) (aM (aF (i:=5) cF.nd rfl (Or.inl rfl)) bU))))
   (ai (bT (cV (cm hr) (pv 1) (pv 3) (bp (aa bC (aa bC af))) ⟨rfl,rfl,rfl,rfl⟩) (cv rfl (aM (aF (i:=6) cF.nd rfl (Or.inl rfl)) (aM (aF (i:=7) cF.nd rfl (Or.inl rfl)) bU))))
   (ai (dW (bu (PW.pt (fu (bW (cA (pv 4))) (fg (PW.pt (kW (bW (cU (pv 6))) (jF (aP jg (pv 6) (pv 4) (aS _))))))))
   (ar (aJ (i:=4) cF.nd rfl (Or.inl rfl) bC))
   aU))
   (ai (dW (bu (PW.pt (fu (bW (cA (pv 5))) (fg (PW.pt (kW (bW (cU (pv 7))) (jF (aP jh (pv 7) (pv 5) (aS _))))))))
   (ar (aJ (i:=5) cF.nd rfl (Or.inl rfl) bC))
   aU))
   (ar (bu (aP (t9 hr.units) (bp (aa (pv 4) (aa (pv 5) af))) (bp (aa bC (aa bC af))) (aS _))
   (ar (eD (cm hr) (pv 2) (pv 3) (bp (aa (pv 4) (aa (pv 5) af))) rfl))
   aU))))))))
   (ar (aH (pv 2))))),?_⟩
  obtain⟨kvs,ks,hd,tb,cl,hl⟩:=lt
  obtain⟨kvu,ku,he,tu,cu,hu⟩:=lu
  have ndk:(kvs.map (·.1)).Nodup:=by
   rw [tb.keys]
   exact List.Pairwise.map _ (fun a b n z=>n (Sum.inr.inj z)) tb.nd
  refine fun fd nfd=>?_
  have ndf:d ≠ fd:=aY hd nfd
  have nef:e ≠ fd:=aY he nfd
  refine⟨fun σ' H'=>∃ (kf:List (Key × V)) (kk:List Str) (u0 u1 u2 u3 u4:Option V),σ' = [some (.ref d),some (.ref e),some (.ref fd),u0,u1,u2,u3,u4]/\H' fd=some (.dK kf)/\Tb 0 H' kf kk (g0 T U)/\(∀ y ∈ kk,g0 T U y ≠ bE)/\kk.length<=m/\ah H H',?_,?_⟩
  ·refine⟨_,rfl,d,kvs,rfl,(by rw [au ndf];exact hd),fun ob=>⟨fun j τ H2=>∃ (kf:List (Key × V)) (kk:List Str) (u0 u1 u2 u3 u4:Option V),τ = [some (.ref d),some (.ref e),some (.ref fd),u0,u1,u2,u3,u4]/\H2 d=some (.dB ob (.dK kvs))/\H2 fd=some (.dK kf)/\Tb 0 H2 kf kk (e6 T U (ks.take j))/\(∀ y ∈ kk,e6 T U (ks.take j) y ≠ bE)/\kk.length<=j/\(∀ c o,H c=some o->c ≠ d->H2 c=some o),?_,?_,?_,?_⟩⟩
   ·refine⟨[],[],_,_,_,_,_,rfl,ae,(by rw [au ndf.symm];exact ae),⟨rfl,List.nodup_nil,fun x=>.inl ⟨rfl,(by unfold e6;simp),by simp⟩⟩,(fun y hy=>nomatch hy),Nat.le_refl _,fun c o h n=>?_⟩
    rw [au n,au (aY h nfd)]
    exact h
   ·rintro j τ H2 ⟨kf,kk,u0,u1,u2,u3,u4,_,h,_⟩
    exact h
   ·rintro j k v τ H2 hj ⟨kf,kk,u0,u1,u2,u3,u4,rfl,h1,h4,h5,h6,h7,h2⟩
    obtain⟨x,hx,rfl⟩:∃ x,ks[j]? = some x/\k=Sum.inr x:=by
     have e1:(kvs.map (·.1))[j]? = some k:=by rw [List.getElem?_map,hj];rfl
     rw [tb.keys,List.getElem?_map] at e1
     cases e2:ks[j]? with
     | none=>rw [e2] at e1;cases e1
     | some y=>rw [e2] at e1;exact⟨y,rfl,(Option.some.inj e1).symm⟩
    have hjl:j < ks.length:=(List.getElem?_eq_some_iff.mp hx).1
    have hxn:x ∉ ks.take j:=fun hm=>by
     have hnd:(ks.take j ++ [x]).Nodup:=by
      have h9:ks.take (j+1)=ks.take j ++ [x]:=by rw [List.take_add_one,hx];rfl
      rw [<-h9]
      exact tb.nd.sublist (List.take_sublist _ _)
     exact (List.nodup_append.mp hnd).2.2 x hm x (List.mem_singleton.mpr rfl) rfl
    have htk:ks.take (j+1)=ks.take j ++ [x]:=by rw [List.take_add_one,hx];rfl
    have hvv:=mi ndk (List.mem_of_getElem? hj)
    obtain⟨q2,rfl,hq2⟩:SH H v (T x):=by
     rcases tb.val x with ⟨a,_,_⟩ | ⟨w,a,b,c⟩
     ·rw [hvv] at a;cases a
     ·rw [hvv] at a
      cases a
      rcases b with b | ⟨_,b⟩
      ·exact b
      ·exact absurd b (cl x c)
    have q2d:q2 ≠ d:=bA hq2 hd (by intro z;cases z)
    have hq22:=h2 _ _ hq2 q2d
    have he2:H2 e=some (.dK kvu)\/∃ ob,H2 e=some (.dB ob (.dK kvu)):=by
     by_cases z:e=d
     ·subst z
      rw [hd] at he
      cases he
      exact .inr ⟨ob,h1⟩
     ·exact .inl (h2 _ _ he z)
    have ktu:∀ p zs,H p=some (.tup zs)->H2 p=some (.tup zs):=fun p zs e=>h2 p _ e (bA e hd (by intro z;cases z))
    have dg:cR H2 d (.str x) (some (.ref q2)):=.inl ⟨kvs,Sum.inr x,.inr ⟨ob,h1⟩,rfl,hvv.symm⟩
    have eO:g0 T U x=cW (T x) (U x):=rfl
    generalize eT:T x=tt at hq2 hq22 eO
    refine bM ?_
    refine⟨_,rfl,_,rfl,d,_,rfl,dg,q2,_,rfl,ay.of hq22,rfl,_,_,rfl,_,_,rfl,rfl,?_⟩
    refine⟨_,rfl,e,rfl,.inl ⟨kvu,he2⟩,_,rfl,ln2,fun t nt=>?_⟩
    have s3:=ah.new (o:=.tup [.aB,.aB]) nt
    obtain⟨w,ew,q3,rfl,hq3⟩:=LT.get ((tu.aI ktu).aI fun p zs e=>s3 _ _ e) cu ae x
    generalize eU:U x=uu at hq3 eO
    refine⟨_,_,.inl ⟨kvu,Sum.inr x,he2.imp (fun h=>s3 _ _ h) (fun ⟨ob,h⟩=>⟨ob,s3 _ _ h⟩),rfl,rfl⟩,ew,q3,_,rfl,ay.of hq3,rfl,_,_,rfl,_,_,rfl,rfl,?_⟩
    have k1:=s3 _ _ h1
    have k4:=s3 _ _ h4
    have k5:=h5.aI fun p zs e=>s3 _ _ e
    have k2:∀ c o,H c=some o->c ≠ d->(upd H2 t (.tup [.aB,.aB])) c=some o:=fun c o e n=>s3 _ _ (h2 c o e n)
    generalize (upd H2 t (.tup [.aB,.aB]))=H3 at k1 k4 k5 k2
    clear ew s3 hq3 nt
    refine⟨fun σ' H'=>σ' = [some (.ref d),some (.ref e),some (.ref fd),some (.str x),some (vO (cW tt uu).1),some (vO tt.2),some (vO uu.1),some (vO uu.2)]/\H' = H3,?_,?_⟩
    ·rw [xO]
     obtain⟨lo,hi⟩:=tt
     obtain⟨lo2,hi2⟩:=uu
     refine⟨_,rfl,_,rfl,?_⟩
     cases lo with
     | none =>
      refine bf rfl (aV ?_)
      exact⟨(by show _ = [_,_,_,_,some (vO (if cy lo2 none=true then none else none)),_,_,_];split <;> rfl),rfl⟩
     | some a =>
      refine bY rfl ?_
      refine⟨_,rfl,_,rfl,?_⟩
      cases lo2 with
      | none=>exact bY rfl (aW ⟨rfl,rfl⟩)
      | some c =>
       refine bf rfl ?_
       refine⟨_,rfl,_,rfl,_,_,rfl,rfl,_,rfl,?_⟩
       refine cM (fun hc=>?_) (fun hc=>?_)
       ·have hlt:c < a:=of_decide_eq_true hc
        exact⟨(by show _ = [_,_,_,_,some (vO (if decide (a<=c)=true then some a else none)),_,_,_];rw [decide_eq_false (by omega)];rfl),rfl⟩
       ·have hlt:¬ c < a:=fun z=>hc (decide_eq_true z)
        exact⟨(by show _ = [_,_,_,_,some (vO (if decide (a<=c)=true then some a else none)),_,_,_];rw [decide_eq_true (by omega)];rfl),rfl⟩
    rintro σ' H4 ⟨rfl,rfl⟩
    refine⟨fun σ' H'=>σ' = [some (.ref d),some (.ref e),some (.ref fd),some (.str x),some (vO (cW tt uu).1),some (vO (cW tt uu).2),some (vO uu.1),some (vO uu.2)]/\H' = H4,?_,?_⟩
    ·rw [wk]
     generalize (cW tt uu).1=lo'
     obtain⟨lo,hi⟩:=tt
     obtain⟨lo2,hi2⟩:=uu
     refine⟨_,rfl,_,rfl,?_⟩
     cases hi with
     | none =>
      refine bf rfl (aV ?_)
      exact⟨(by show _ = [_,_,_,_,_,some (vO (if bI hi2 none=true then none else none)),_,_];split <;> rfl),rfl⟩
     | some a =>
      refine bY rfl ?_
      refine⟨_,rfl,_,rfl,?_⟩
      cases hi2 with
      | none=>exact bY rfl (aW ⟨rfl,rfl⟩)
      | some c =>
       refine bf rfl ?_
       refine⟨_,rfl,_,rfl,_,_,rfl,rfl,_,rfl,?_⟩
       refine cM (fun hc=>?_) (fun hc=>?_)
       ·have hlt:a < c:=of_decide_eq_true hc
        exact⟨(by show _ = [_,_,_,_,_,some (vO (if decide (c<=a)=true then some a else none)),_,_];rw [decide_eq_false (by omega)];rfl),rfl⟩
       ·have hlt:¬ a < c:=fun z=>hc (decide_eq_true z)
        exact⟨(by show _ = [_,_,_,_,_,some (vO (if decide (c<=a)=true then some a else none)),_,_];rw [decide_eq_true (by omega)];rfl),rfl⟩
    rintro σ' H5 ⟨rfl,rfl⟩
    rw [<-eO]
    generalize eS:g0 T U x=ss at eO
    have kkl:kf.length=kk.length:=by have:=congrArg List.length k5.keys;simpa using this
    refine⟨_,rfl,_,rfl,ln2,fun t1 n1=>⟨ln2,fun t2 n2=>?_⟩⟩
    have r1:=ah.new (o:=.tup [vO ss.1,vO ss.2]) n1
    have r2:=ah.new (o:=.tup [.aB,.aB]) n2
    have r12:=r1.trans r2
    have g1:=r2 _ _ (show (upd H5 t1 (.tup [vO ss.1,vO ss.2])) t1=_ from ae)
    have g2:(upd (upd H5 t1 (.tup [vO ss.1,vO ss.2])) t2 (.tup [.aB,.aB])) t2=some (.tup [.aB,.aB]):=ae
    generalize (upd (upd H5 t1 (.tup [vO ss.1,vO ss.2])) t2 (.tup [.aB,.aB]))=H6 at r12 g1 g2
    have sh:SH H6 (.ref t1) ss:=⟨t1,rfl,g1⟩
    refine⟨dS ss,.tuple [.none,.none],sh.rd,.tup g2 (.cons .aB (.cons .aB .nil)),pd ss,rfl,(by have:=sW ss;omega),_,rfl,?_⟩
    by_cases hs:ss=bE
    ·refine bf (by rw [jO,decide_eq_true hs];rfl) ?_
     have hW:e6 T U (ks.take (j+1))=e6 T U (ks.take j):=by rw [htk];exact tm (eS.trans hs) hxn
     refine⟨kf,kk,_,_,_,_,_,rfl,r12 _ _ k1,r12 _ _ k4,?_,?_,by omega,fun c o e n=>r12 _ _ (k2 c o e n)⟩
     ·rw [hW];exact k5.aI fun p zs e=>r12 _ _ e
     ·rw [hW];exact h6
    ·refine bY (by rw [jO,decide_eq_false hs];rfl) ?_
     refine⟨_,rfl,_,rfl,ln2,fun t3 n3=>?_⟩
     have r3:=ah.new (o:=.tup [vO ss.1,vO ss.2]) n3
     have g3:(upd H6 t3 (.tup [vO ss.1,vO ss.2])) t3=some (.tup [vO ss.1,vO ss.2]):=ae
     generalize (upd H6 t3 (.tup [vO ss.1,vO ss.2]))=H7 at r3 g3
     have r13:=r12.trans r3
     have k47:=r13 _ _ k4
     refine⟨_,rfl,_,rfl,fd,_,rfl,gx.k (k:=Sum.inr x) k47 (br (by omega)),?_⟩
     obtain⟨ks2,t2',k2',m2⟩:=(k5.aI fun p zs e=>r13 _ _ e).put x (v:=.ref t3) (s:=ss) (.inl ⟨t3,rfl,g3⟩)
     have hW:e6 T U (ks.take (j+1))=cc (e6 T U (ks.take j)) x ss:=by rw [htk,nv,eS]
     refine⟨_,ks2,_,_,_,_,_,rfl,(by rw [au ndf];exact r13 _ _ k1),ae,?_,fun y hy=>?_,by omega,fun c o h n=>?_⟩
     ·rw [hW]
      exact t2'.aI fun p zs e=>by rw [au (bA e k47 (by intro z;cases z))];exact e
     ·rw [hW]
      unfold cc
      by_cases z:y=x
      ·rw [if_pos z];exact hs
      ·rw [if_neg z];exact h6 y (((m2 y).mp hy).elim id fun w=>absurd w z)
     ·rw [au (aY h nfd)]
      exact r13 _ _ (k2 c o h n)
   ·rintro τ H2 ⟨kf,kk,u0,u1,u2,u3,u4,rfl,h1,h4,h5,h6,h7,h2⟩
    have hkl:kvs.length=ks.length:=by have:=congrArg List.length tb.keys;simpa using this
    have hW:e6 T U (ks.take kvs.length)=g0 T U:=by
     rw [hkl,List.take_length]
     funext x
     unfold e6
     by_cases hx:x ∈ ks
     ·rw [if_pos hx]
     ·rw [if_neg hx]
      unfold g0
      rcases tb.val x with ⟨_,a,_⟩ | ⟨_,_,_,a⟩
      ·rw [a,qu]
      ·exact absurd a hx
    rw [hW] at h5 h6
    refine⟨kf,kk,_,_,_,_,_,rfl,(by rw [au ndf.symm];exact h4),h5.aI (fun p zs e=>by rw [au (bA e h1 (by intro z;cases z))];exact e),h6,by omega,fun c o h=>?_⟩
    by_cases z:c=d
    ·subst z;rw [hd] at h;cases h;exact ae
    ·rw [au z];exact h2 c o h z
  rintro σ' H1 ⟨kf,kk,u0,u1,u2,u3,u4,rfl,h1,h2,h3,h4,s1⟩
  exact⟨_,rfl,q fd H1 ⟨kf,kk,h1,h2,h3,h4⟩ nfd s1⟩
theorem rp {f:Addr} {fd:FuncData} (F:bZ K "_law_made" "_law_made" fT f fd) (Z:Bl mg) (O_law_all_names:Own P w K mg base "_law_all_names" 1 ["plan"] qq) (O_law_leads:Own P w K mg base "_law_leads" 3 ["facts", "end"] kQ) (O_law_behind:Own P w K mg base "_law_behind" 2 ["facts", "deeds"] nY) (O_law_covers:Own P w K mg base "_law_covers" 1 ["one", "other"] kO) (O_law_opened:Own P w K mg base "_law_opened" 1 ["one", "other"] kP) (O_law_told:Own P w K mg base "_law_told" 1 ["facts"] nO):bD P w K mg base bX 6 f fd ["plan"] nZ:=by
  refine F.ok (k:=5) cT (fun vs H Q E h=>?_) (fun cdv A outer s H vs Q E hr h=>?_)
  · obtain⟨plv,ps,xs,m,rfl,_⟩:=h
    rfl
  · obtain⟨plv,ps,xs,m,rfl,hp,ok,hp0,hp4,h62,q⟩:=h
    refine⟨_,(ai (aJ (i:=1) cT.nd rfl (Or.inl rfl) i5)
      (ai (dH PassesOwn.never rfl (hR (aC O_law_all_names (hr.mono (by decide)) rfl (aa (pv 0) af))) (aF (i:=2) cT.nd rfl (Or.inl rfl))
      (ar (eD (cm hr) (pv 1) (pv 2) (bp (aa ao (aa ao af))) rfl)))
      (ai (aJ (i:=3) cT.nd rfl (Or.inl rfl) (ba pP (cD (aa bC af)) (bO cE rfl Z.len fA (aa (pv 0) af))))
      (ai (bT (pv 1) (fw (pv 3) ao set_list))
      (ai (aJ (i:=4) cT.nd rfl (Or.inl rfl) (xn (vw ao dz xm) rfl rfl (List.cons_ne_nil _ _) (by show 1<=15;decide)))
      (ai (pE PassesOwn.never (aP jh (bO ue rfl Z.len fA (aa (pv 4) af)) ao (aS _))
      (ai (aJ (i:=5) cT.nd rfl (Or.inl rfl) (bO (uG rfl) rfl Z.min pQ (aa (bw (qT rfl) rfl Z.list rJ (aa (pv 4) af)) af)))
      (ai (fF (vy (pv 4) (pv 5) ⟨rfl,rfl,rfl,rfl⟩))
      (ar (dH PassesOwn.never rfl (hR (aC O_law_leads (hr.mono (by decide)) rfl (aa (aC O_law_behind (hr.mono (by decide)) rfl (aa (aK bK (pv 3) (pv 5) (fun _ _=>rfl)) (aa (aK aZ (aK aZ (pv 0) (pv 5) (fun _ _=>rfl)) ao (fun _ _=>rfl)) af))) (aa (aK aZ (aK aZ (pv 0) (pv 5) (fun _ _=>rfl)) ao (fun _ _=>rfl)) af)))) (cv rfl (aM (aF (i:=6) cT.nd rfl (Or.inl rfl)) (aM (aF (i:=7) cT.nd rfl (Or.inl rfl)) (aM (aF (i:=8) cT.nd rfl (Or.inl rfl)) bU))))
      (ar (bu (bW (cU (aK bK (pv 3) (pv 7) (fun _ _=>rfl))))
      (ai (bT (pv 8) (fw (pv 3) (pv 7) set_list))
      (ar (eD (cm hr) (pv 4) (pv 7) dz rfl)))
      (ar (bu (tQ (gO (aC O_law_covers (hr.mono (by decide)) rfl (aa (aK bK (pv 3) (pv 7) (fun _ _=>rfl)) (aa (pv 8) af)))))
      (ai (bT (aC O_law_opened (hr.mono (by decide)) rfl (aa (aK bK (pv 3) (pv 7) (fun _ _=>rfl)) (aa (pv 8) af))) (fw (pv 3) (pv 7) set_list))
      (ar (eD (cm hr) (pv 4) (pv 7) dz rfl)))
      aU)))))))))
      (ar (aH (bw bH rfl Z.tuple cN (aa (dJ ["facts"] [] [] rfl (hR (pv 3)) rfl (by decide +kernel) (by decide +kernel) (by decide +kernel) True.intro (fun _ _ _ _=>(aF (i:=0) (show ((["facts"]:List Str)++([]:List Str)).Nodup by decide +kernel) rfl (Or.inl rfl) (hf:=Or.inr rfl))) (fun _ _ _ _=>er) (fun _ _ _ _=>(aK (vU (K:=K) rfl) (cD (aa bC (aa (aC O_law_told (hr.mono (by decide)) rfl (aa (yW (pv 0) (eh i5)) af)) af))) (bw ix rfl Z.int kq (aa (fY (cA (pv 0))) af)) (fun _ _=>rfl)))) af)))))))))),?_⟩
    refine fun bd nbd=>?_
    have s4:=ah.new (o:=.dK []) nbd
    have hb4:(upd H bd (.dK [])) bd=some (.dK []):=ae
    generalize (upd H bd (.dK []))=H4 at s4 hb4
    refine⟨_,rfl,_,ps,xs,m,rfl,hp.same s4 (dC ps),ok,(by omega),fun nl ss H5 hnl hperm hsort hss s5=>?_⟩
    have hm:∀ x,x ∈ ss ↔ x ∈ aR ps:=fun x=>hperm.mem_iff.trans LS.jo
    have hsT:∀ x,x ∈ ss ↔ startT ps x ≠ bE:=fun x=>by
      rw [hm]
      unfold L2.startT
      by_cases h:x ∈ aR ps
      · rw [if_pos h];exact⟨fun _ z=>(by cases z),fun _=>h⟩
      · rw [if_neg h];exact⟨fun z=>absurd z h,fun z=>absurd rfl z⟩
    have hss10:ss.length<=xs.length:=by
      have h1:=hperm.length_eq
      have h2:=mw ok
      omega
    have hb5:=s5 _ _ hb4
    have nlb:nl ≠ bd:=bA hnl hb5 (by intro z;cases z)
    refine⟨nl,rfl,⟨_,aX.of hnl⟩,ma (K:=K) (a:=nl) (xs:=ss.map V.str) (fun i σ H'=>∃ (kvs:List (Key × V)) (ks:List Str) (u:Option V),σ = [some plv,some (.ref bd),u,none,none,none,none,none,none]/\H' bd=some (.dK kvs)/\Tb 0 H' kvs ks (mD (startT ps) (ss.take i))/\(∀ x,x ∈ ks ↔ x ∈ ss.take i)/\ks.length<=i/\(∀ c o,H5 c=some o->c ≠ bd->H' c=some o)) ?_ ?_ ?_ ?_⟩
    · refine⟨[],[],_,rfl,hb5,⟨rfl,List.nodup_nil,fun x=>.inl ⟨rfl,?_,by simp⟩⟩,fun x=>by simp,Nat.le_refl _,fun c o h _=>h⟩
      unfold mD
      rw [if_neg (by simp)]
    · rintro i σ H6 hi ⟨kvs,ks,u,rfl,h1,h2,h3,h4,h5⟩
      exact aX.of (h5 _ _ hnl nlb)
    · rintro i y σ H6 hi ⟨kvs,ks,u,rfl,h1,h2,h3,h4,h5⟩
      obtain⟨x,hsi,rfl⟩:∃ x,ss[i]? = some x/\y=V.str x:=by
        rw [List.getElem?_map] at hi
        cases e:ss[i]? with
        | none=>rw [e] at hi;cases hi
        | some k=>rw [e] at hi;exact⟨k,rfl,(Option.some.inj hi).symm⟩
      have hil:i < ss.length:=(List.getElem?_eq_some_iff.mp hsi).1
      have kl:kvs.length=ks.length:=by have:=congrArg List.length h2.keys;simpa using this
      refine bM ?_
      refine⟨ln2,fun t nt=>?_⟩
      have q7:=ah.new (o:=.tup [.int 0,.int 0]) nt
      have ht7:(upd H6 t (.tup [.int 0,.int 0])) t=some (.tup [.int 0,.int 0]):=ae
      have h17:=q7 _ _ h1
      have tb7:=h2.aI (H':=upd H6 t (.tup [.int 0,.int 0])) fun p zs e=>q7 _ _ e
      generalize (upd H6 t (.tup [.int 0,.int 0]))=H7 at q7 ht7 h17 tb7
      refine⟨_,rfl,_,rfl,bd,_,rfl,gx.k (k:=Sum.inr x) h17 (br (by omega)),?_⟩
      have hxa:startT ps x=(some 0,some 0):=by unfold L2.startT;rw [if_pos ((hm x).mp (List.mem_of_getElem? hsi))]
      obtain⟨ks2,tb2,kl2,km2⟩:=tb7.put x (v:=.ref t) (s:=startT ps x) (.inl ⟨t,rfl,by rw [hxa];exact ht7⟩)
      rw [v7] at tb2
      have htk:ss.take (i+1)=ss.take i ++ [x]:=by rw [List.take_add_one,hsi];rfl
      refine⟨_,ks2,_,rfl,ae,?_,fun y=>?_,by omega,fun c o h c1=>by rw [au c1];exact q7 _ _ (h5 c o h c1)⟩
      · rw [htk]
        exact tb2.aI fun p zs e=>by rw [au (bA e h17 (by intro z;cases z))];exact e
      · rw [km2,h3,htk,List.mem_append,List.mem_singleton]
    rintro σ H6 ⟨kvs,ks,u,rfl,h1,h2,h3,h4,h5⟩
    rw [show (ss.map V.str).length=ss.length from List.length_map ..,List.take_length] at h2 h3
    rw [show (ss.map V.str).length=ss.length from List.length_map ..] at h4
    rw [v8 hsT] at h2
    have lt6:LT H6 bd (startT ps) xs.length:=⟨kvs,ks,h1,h2,fun x hx=>(hsT x).mp ((h3 x).mp hx),by omega⟩
    have s6:ah H H6:=fun c o e=>h5 c o (s5 _ _ (s4 _ _ e)) (aY e nbd)
    obtain⟨pp,pvs,rfl,hpp,rpv⟩:=bB.cQ hp
    have hpl:pvs.length=ps.length:=by rw [rpv.len,List.length_map]
    clear h1 h2 h3 h4 h5 hb5 nlb hnl hperm hsort hss s5 hb4 s4 hsT hm hss10
    refine⟨tY,fun p0 n0=>?_⟩
    have s0:=ah.new (o:=.lst [.aB]) n0
    refine⟨_,rfl,pp,_,rfl,.inr (ay.of (s0 _ _ (s6 _ _ hpp))),p0,_,_,rfl,rfl,ae,(by omega),(by omega),?_,fun tl ntl=>?_⟩
    · show 1 * _<=_
      exact Nat.le_of_lt (br (by omega))
    have e1:(List.replicate ((pvs.length:Int)).toNat [V.aB]).flatten=List.replicate ps.length V.aB:=by rw [hpl,Int.toNat_natCast,List.flatten_replicate_singleton]
    have s1:=s0.trans (ah.new (o:=.lst (List.replicate ((pvs.length:Int)).toNat [V.aB]).flatten) ntl)
    have htl1:(upd (upd H6 p0 (.lst [.aB])) tl (.lst (List.replicate ((pvs.length:Int)).toNat [V.aB]).flatten)) tl=some (.lst (List.replicate ps.length V.aB)):=by rw [ae,e1]
    have ntl0:H tl=none:=s6.free (s0.free ntl)
    generalize (upd (upd H6 p0 (.lst [.aB])) tl (.lst (List.replicate ((pvs.length:Int)).toNat [V.aB]).flatten))=H1 at s1 htl1
    have lt1:=lt6.same s1
    have s01:=s6.trans s1
    refine bM ?_
    refine⟨_,rfl,_,rfl,tl,_,0,0,rfl,rfl,htl1,gF (by rw [List.length_replicate];exact hp0),?_⟩
    have lt2:LT (upd H1 tl (.lst ((List.replicate ps.length V.aB).set 0 (.ref bd)))) bd (startT ps) xs.length:=lt1.put htl1
    have htl2:(upd H1 tl (.lst ((List.replicate ps.length V.aB).set 0 (.ref bd)))) tl=some (.lst ((List.replicate ps.length V.aB).set 0 (.ref bd))):=ae
    have s02:ah H (upd H1 tl (.lst ((List.replicate ps.length V.aB).set 0 (.ref bd)))):=s01.put ntl0
    generalize (upd H1 tl (.lst ((List.replicate ps.length V.aB).set 0 (.ref bd))))=H2 at lt2 htl2 s02
    refine fun wa nwa=>⟨ae,[((Sum.inl (0:Int):Key),V.bl true)],rfl,(by decide),?_⟩
    rw [wZ]
    have nwa0:H wa=none:=s02.free nwa
    have lt3:=lt2.same (ah.new (o:=.dK (eE [] [((Sum.inl (0:Int):Key),V.bl true)])) nwa)
    have htl3:=ah.new (o:=.dK (eE [] [((Sum.inl (0:Int):Key),V.bl true)])) nwa _ _ htl2
    have hwa3:(upd H2 wa (.dK (eE [] [((Sum.inl (0:Int):Key),V.bl true)]))) wa=some (.dK (eE [] [((Sum.inl (0:Int):Key),V.bl true)])):=ae
    have s03:=s02.trans (ah.new (o:=.dK (eE [] [((Sum.inl (0:Int):Key),V.bl true)])) nwa)
    have nbw:bd ≠ wa:=by
      obtain⟨_,_,z,_⟩:=lt2
      exact aY z nwa
    have ntw:tl ≠ wa:=aY htl2 nwa
    generalize (upd H2 wa (.dK (eE [] [((Sum.inl (0:Int):Key),V.bl true)])))=H3 at lt3 htl3 hwa3 s03
    have wd3:WD (eE [] [((Sum.inl (0:Int):Key),V.bl true)]) ((List.replicate ps.length false).set 0 true):=by
      refine⟨[0],rfl,by simp,fun k=>?_⟩
      cases k with
      | zero=>rw [List.getElem?_set_self (by rw [List.length_replicate];exact hp0)];simp
      | succ k=>rw [List.getElem?_set_ne (by omega),List.getElem?_replicate];simp
    have el3:hG xs.length wa H3 ((List.replicate ps.length V.aB).set 0 (.ref bd)) ((List.replicate ps.length none).set 0 (some (startT ps))) :=
      gW (F:=EL xs.length wa H3) (show EL _ _ _ (.ref bd) (some (startT ps)) from ⟨bd,rfl,lt3,nbw⟩) 0 (sf _)
    generalize eE [] [((Sum.inl (0:Int):Key),V.bl true)] = kw3 at hwa3 wd3
    clear lt1 lt2 lt6 htl1 htl2 s1 s01 s02 s0 e1 ntl n0 nwa
    refine bM ?_
    refine⟨fun mm σ H'=>∃ (us:List V) (tab:dD) (bs:List Bool) (kw:List (Key × V)) (u0 u1 u2 u3 u4:Option V),σ = [some (.ref pp),some (.ref bd),u0,some (.ref tl),some (.ref wa),u1,u2,u3,u4]/\H' tl=some (.lst us)/\hG xs.length wa H' us tab/\H' wa=some (.dK kw)/\WD kw bs/\eG xs ps tab bs none/\(∃ n,dq ps n (ff ps)=(tab,bs))/\mm=fV xs tab * (ps.length+1)+jt bs/\ah H H',⟨_,_,_,_,_,_,_,_,_,_,rfl,htl3,el3,hwa3,wd3,eG.start hp0 (qt ok) (lV ps),⟨0,rfl⟩,rfl,s03⟩,?_⟩
    rintro mm σ H5 ⟨us,tab,bs,kw,u0,u1,u2,u3,u4,rfl,htl5,el5,hwa5,wd5,I5,⟨nr,hnr⟩,rfl,s5⟩
    refine⟨_,rfl,wa,_,rfl,hwa5,_,_,rfl,rfl,_,rfl,?_⟩
    by_cases ht:true ∈ bs
    · refine bY (decide_eq_true (by have:=wd5.none.mpr ht;omega)) ?_
      refine⟨fun σ' H'=>∃ (us:List V) (tab':dD) (bs':List Bool) (kw:List (Key × V)) (u0 u1 u2 u3 u4:Option V),σ' = [some (.ref pp),some (.ref bd),u0,some (.ref tl),some (.ref wa),u1,u2,u3,u4]/\H' tl=some (.lst us)/\hG xs.length wa H' us tab'/\H' wa=some (.dK kw)/\WD kw bs'/\eG xs ps tab' bs' none/\lH ps (tab,bs)=(tab',bs')/\((∃ at_,bs[at_]? = some true/\tab' = tab/\bs' = bs.set at_ false)\/fV xs tab' < fV xs tab)/\ah H H',fun σ' H' h=>?_,?_⟩
      · obtain⟨us',tab',bs',kw',v0,v1,v2,v3,v4,rfl,a1,a2,a3,aw,a4,aT,a5,a6⟩:=h
        have hnx:dq ps (nr+1) (ff ps)=(tab',bs'):=by
          show (if true ∈ (dq ps nr (ff ps)).2 then lH ps (dq ps nr (ff ps)) else dq ps nr (ff ps))=_
          rw [hnr,if_pos ht,aT]
        refine⟨_,?_,us',tab',bs',kw',v0,v1,v2,v3,v4,rfl,a1,a2,a3,aw,a4,⟨nr+1,hnx⟩,rfl,a6⟩
        rcases a5 with ⟨at_,ha1,rfl,rfl⟩ | a5
        · have:=kK bs at_ ha1
          omega
        · have h1:=mF bs'
          rw [a4.gy] at h1
          have h2:(fV xs tab' + 1) * (ps.length+1)<=fV xs tab * (ps.length+1):=Nat.mul_le_mul_right _ a5
          rw [Nat.succ_mul] at h2
          omega
      obtain⟨ns,hn1,hn2,hn3⟩:=id wd5
      refine⟨_,rfl,wa,_,_,rfl,hwa5,hn1,fun ml nml=>⟨ml,_,rfl,aX.of ae,?_,fun M hM hl=>?_⟩⟩
      · have h1:=wd5.none.mpr ht
        have h2:=congrArg List.length hn1
        simp only [List.length_map] at h2 ⊢
        omega
      obtain⟨at_,rfl,ha1,ha2⟩:=WD.least (kvs:=kw) hn3 hM hl
      clear hM hl
      have hal:at_ < ps.length:=by rw [<-I5.gy];exact (List.getElem?_eq_some_iff.mp ha1).1
      have s56:=ah.new (o:=.lst ((ns.map fun n=>((n:Nat):Int)).map V.int)) nml
      have htl5':=s56 _ _ htl5
      have hwa5':=s56 _ _ hwa5
      have el5':hG xs.length wa (upd H5 ml (.lst ((ns.map fun n=>((n:Nat):Int)).map V.int))) us tab:=hG.keep (fun d T h _=>h.same s56) el5
      have s5':=s5.trans s56
      generalize (upd H5 ml (.lst ((ns.map fun n=>((n:Nat):Int)).map V.int)))=H5' at htl5' hwa5' el5' s5'
      obtain⟨vv,hvv⟩:=wd5.there ha1
      refine bM ?_
      refine⟨_,rfl,wa,rfl,.inl ⟨kw,.inl hwa5'⟩,_,rfl,kw,Sum.inl ((at_:Nat):Int),vv,hwa5',rfl,hvv,?_⟩
      have I6:=I5.off ha1
      have htl6:(upd H5' wa (.dK (cz kw (Sum.inl ((at_:Nat):Int))))) tl=some (.lst us):=by rw [au ntw];exact htl5'
      have hwa6:(upd H5' wa (.dK (cz kw (Sum.inl ((at_:Nat):Int))))) wa=some (.dK (cz kw (Sum.inl ((at_:Nat):Int)))):=ae
      have el6:hG xs.length wa (upd H5' wa (.dK (cz kw (Sum.inl ((at_:Nat):Int))))) us tab:=hG.keep (fun d T h n=>h.yX hwa5' n) el5'
      have wd6:=wd5.drop (k:=at_) (by rw [I5.gy];exact hal)
      have s6:ah H (upd H5' wa (.dK (cz kw (Sum.inl ((at_:Nat):Int))))):=s5'.put nwa0
      generalize (upd H5' wa (.dK (cz kw (Sum.inl ((at_:Nat):Int)))))=H6' at htl6 hwa6 el6 s6
      generalize cz kw (Sum.inl ((at_:Nat):Int))=kw6 at hwa6 wd6
      obtain⟨T,hT⟩:=I5.wait at_ ha1
      obtain⟨ev,hev,dx,rfl,ltx,nxw⟩:=h8 el6 hT
      have tok:=I5.ok T (List.mem_of_getElem? hT)
      have hpi:ps[at_]? = some ps[at_]:=by simp [hal]
      generalize ps[at_] = pce at hpi
      obtain⟨ds,e⟩:=pce
      have rp6:=hp.same s6 (dC ps)
      obtain⟨p',xs',pc,da,ea,ws,ep,e1',el',hx',e2',e3',r3,e4⟩:=jX rp6 hpi
      cases ep
      rw [s6 _ _ hpp] at e1'
      cases e1'
      have hmm:=List.mem_of_getElem? hpi
      have dok:=(ok.lh _ hmm).2
      have eok:=ok.ends _ hmm
      have tokb:=tok.qr dok
      refine⟨_,rfl,_,rfl,tl,_,_,_,rfl,rfl,aX.of htl6,bJ hev,_,rfl,_,rfl,pp,_,_,_,rfl,rfl,ay.of (s6 _ _ hpp),bJ hx',pc,_,0,_,rfl,rfl,ay.of e2',cf,dx,da,T,xs.length,ws,ds,xs,rfl,ltx,e3',r3,h62,rfl,tok,dok,fun d7 H7 lt7 fr7 s7=>?_⟩
      refine⟨_,rfl,_,rfl,pp,_,_,_,rfl,rfl,ay.of (s7 _ _ (s6 _ _ hpp)),bJ hx',pc,_,1,_,rfl,rfl,ay.of (s7 _ _ e2'),cG,d7,ea,bx T ds,e,xs.length,rfl,lt7,h62,tokb.le,s7 _ _ e4,fun l lvs H8 hl nl8 tv8 s8=>?_⟩
      have hlok:∀ ld ∈ fJ (bx T ds) e,ld.1 < ps.length/\de xs ld.2:=fun ld h=>rX tokb eok ld h
      have nd7:d7 ≠ wa:=by
        rcases fr7 with z | z
        · rw [z];exact nxw
        · exact fun w=>by rw [w,hwa6] at z;cases z
      have hwa7:=s7 _ _ hwa6
      have ndF:∀ a,(a=d7\/H7 a=none)->a ≠ wa:=fun a z=>z.elim (fun z=>by rw [z];exact nd7) fun z w=>by rw [w,hwa7] at z;cases z
      generalize hls:fJ (bx T ds) e=ls at tv8 hlok
      have s78:=s7.trans s8
      have htl8:=s78 _ _ htl6
      have hwa8:=s78 _ _ hwa6
      have el8:hG xs.length wa H8 us tab:=hG.keep (fun d T h _=>h.same s78) el6
      have s08:=s6.trans s78
      have nlt:l ≠ tl:=fun z=>by rw [z,s7 _ _ htl6] at nl8;cases nl8
      have nlw:l ≠ wa:=fun z=>by rw [z,hwa7] at nl8;cases nl8
      refine⟨l,rfl,⟨_,aX.of hl⟩,?_⟩
      refine ma (K:=K) (a:=l) (xs:=lvs) (fun j σ H'=>∃ (us':List V) (tab':dD) (bs':List Bool) (kw':List (Key × V)) (u5 u6 u7:Option V),σ = [some (.ref pp),some (.ref bd),u0,some (.ref tl),some (.ref wa),some (.int (at_:Nat)),u5,u6,u7]/\H' tl=some (.lst us')/\hG xs.length wa H' us' tab'/\H' wa=some (.dK kw')/\WD kw' bs'/\eG xs ps tab' bs' (some at_)/\(∀ ld ∈ ls.take j,Met tab' ld)/\(bs'[at_]? = some false->tab'[at_]? = some (some T))/\gX (tab,bs.set at_ false) (ls.take j)=(tab',bs')/\((tab' = tab/\bs' = bs.set at_ false)\/fV xs tab' < fV xs tab)/\H' l=some (.lst lvs)/\(∀ p zs,H8 p=some (.tup zs)->H' p=some (.tup zs))/\(∀ d U m',LT H8 d U m'->d ≠ wa->LT H' d U m')/\ah H H') ?_ ?_ ?_ ?_
      · exact⟨us,tab,bs.set at_ false,kw6,_,_,_,rfl,htl8,el8,hwa8,wd6,I6,(fun ld h=>by simp at h),(fun _=>hT),rfl,.inl ⟨rfl,rfl⟩,hl,(fun p zs e=>e),(fun d U m' h _=>h),s08⟩
      · rintro j σ H9 hj ⟨us',tab',bs',kw',u5,u6,u7,rfl,g1,g2,g3,gw,g4,g5,g6,gT,g7,gl,g8,gk,g9⟩
        exact aX.of gl
      · rintro j x σ H9 hx ⟨us',tab',bs',kw',u5,u6,u7,rfl,g1,g2,g3,gw,g4,g5,g6,gT,g7,gl,g8,gk,g9⟩
        obtain⟨ld,hld,pq,sv,dm,rfl,hpq,ltm,fdm⟩:=L2.iG tv8 hx
        obtain⟨hk,hU⟩:=hlok ld (List.mem_of_getElem? hld)
        obtain⟨k,U⟩:=ld
        have hk:k < ps.length:=hk
        have hU:de xs U:=hU
        have ndm:=ndF dm fdm
        have ltm9:LT H9 dm U xs.length:=(gk _ _ _ ltm ndm).lG hU.bL
        have htk:ls.take (j+1)=ls.take j ++ [(k,U)]:=by rw [List.take_add_one,hld];rfl
        have hkt:k < tab'.length:=by rw [g4.len];exact hk
        have hkb:k < bs'.length:=by rw [g4.gy];exact hk
        have aG:tab'[k]? = some tab'[k]:=by simp [hkt]
        generalize tab'[k] = o at aG
        obtain⟨ev2,hev2,bo2⟩:=h8 g2 aG
        have hul:=e5 g2
        have hkwl:kw'.length < sizeLine:=br (by have:=gw.len;rw [g4.gy] at this;omega)
        have put:∀ (dn:Addr) (Hx:Hp),LT Hx dn (fC o U) xs.length->dn ≠ wa->ah H9 Hx->∀ HH,HH=upd (upd Hx tl (.lst (us'.set k (.ref dn)))) wa (.dK (putK kw' (Sum.inl ((k:Nat):Int)) (.bl true)))->¬ Met tab' (k,U) ->
            ∃ (us':List V) (tab':dD) (bs':List Bool) (kw':List (Key × V)) (u5 u6 u7:Option V),[some (.ref pp),some (.ref bd),u0,some (.ref tl),some (.ref wa),some (.int (at_:Nat)),some sv,some (.int (k:Nat)),some (.ref dm)] = [some (.ref pp),some (.ref bd),u0,some (.ref tl),some (.ref wa),some (.int (at_:Nat)),u5,u6,u7]/\HH tl=some (.lst us')/\hG xs.length wa HH us' tab'/\HH wa=some (.dK kw')/\WD kw' bs'/\eG xs ps tab' bs' (some at_)/\(∀ ld ∈ ls.take (j+1),Met tab' ld)/\(bs'[at_]? = some false->tab'[at_]? = some (some T))/\gX (tab,bs.set at_ false) (ls.take (j+1))=(tab',bs')/\((tab' = tab/\bs' = bs.set at_ false)\/fV xs tab' < fV xs tab)/\HH l=some (.lst lvs)/\(∀ p zs,H8 p=some (.tup zs)->HH p=some (.tup zs))/\(∀ d U m',LT H8 d U m'->d ≠ wa->LT HH d U m')/\ah H HH:=by
          intro dn Hx ltn nn sx HH eHH nm
          have htlx:=sx _ _ g1
          have hwax:=sx _ _ g3
          have hwax2:(upd Hx tl (.lst (us'.set k (.ref dn)))) wa=some (.dK kw'):=by rw [au ntw.symm];exact hwax
          have kl:∀ d U m',LT Hx d U m'->d ≠ wa->LT HH d U m':=fun d U m' h n=>by rw [eHH];exact (h.put htlx).yX hwax2 n
          have kt:∀ p zs,Hx p=some (.tup zs)->HH p=some (.tup zs):=fun p zs e=>by
            rw [eHH,au (bA e hwax (by intro z;cases z)),au (bA e htlx (by intro z;cases z))];exact e
          have pw:=se (xs:=xs) aG (fun T h=>g4.ok T (h ▸ List.mem_of_getElem? aG)) nm
          refine⟨us'.set k (.ref dn),tab'.set k (some (fC o U)),bs'.set k true,_,_,_,_,rfl,(by rw [eHH,au ntw,ae]),?_,(by rw [eHH,ae]),gw.put hkb (.bl true),g4.put aG hU,fun ld h=>?_,fun h=>?_,(by rw [iu hld,gT];exact oH nm aG),.inr ?_,(by rw [eHH,au nlw,au nlt];exact sx _ _ gl),(fun p zs e=>kt p zs (sx _ _ (g8 p zs e))),(fun d U m' h n=>kl d U m' ((gk d U m' h n).same sx) n),(by rw [eHH];exact ((g9.trans sx).put ntl0).put nwa0)⟩
          · exact gW (F:=EL xs.length wa HH) (show EL _ _ _ (.ref dn) (some (fC o U)) from ⟨dn,rfl,kl _ _ _ ltn nn,nn⟩) k (hG.keep (fun d T h n=>kl d T _ (h.same sx) n) g2)
          · rw [htk] at h
            rcases List.mem_append.mp h with h | h
            · exact (g5 ld h).up aG
            · rw [List.mem_singleton.mp h];exact Met.new aG
          · by_cases ek:k=at_
            · subst ek
              rw [List.getElem?_set_self (by rw [g4.gy];exact hk)] at h
              cases h
            · rw [List.getElem?_set_ne ek] at h ⊢
              exact g6 h
          · rcases g7 with ⟨rfl,_⟩ | g7
            · exact pw
            · omega
        refine⟨pq,_,rfl,ay.of (g8 _ _ hpq),rfl,_,_,rfl,_,_,rfl,_,_,rfl,rfl,?_⟩
        refine⟨_,rfl,_,rfl,tl,_,_,_,rfl,rfl,aX.of g1,bJ hev2,_,rfl,?_⟩
        cases o with
        | none =>
          cases (show ev2=V.aB from bo2)
          refine aW ?_
          refine⟨_,rfl,_,rfl,_,rfl,tl,_,_,k,rfl,rfl,g1,gF (by rw [hul];exact hkt),?_⟩
          refine⟨_,rfl,_,rfl,wa,_,rfl,gx.k (k:=Sum.inl ((k:Nat):Int)) (by rw [au ntw.symm];exact g3) hkwl,?_⟩
          exact put dm H9 ltm9 ndm (ah.refl _) _ rfl fun ⟨T',h,_⟩=>by rw [aG] at h;cases h
        | some T' =>
          obtain⟨dt,rfl,ltt,ntw2⟩:=bo2
          refine aV ?_
          refine⟨_,rfl,_,rfl,tl,_,_,_,rfl,rfl,aX.of g1,bJ hev2,_,rfl,dt,dm,T',U,xs.length,rfl,ltt,ltm9,fun b H10 hb10 s10=>⟨_,rfl,?_⟩⟩
          cases b with
          | true =>
            refine bf rfl ?_
            have mt:Met tab' (k,U):=⟨T',aG,hb10.mp rfl⟩
            refine⟨us',tab',bs',kw',_,_,_,rfl,s10 _ _ g1,hG.keep (fun d T h _=>h.same s10) g2,s10 _ _ g3,gw,g4,fun ld h=>?_,g6,(by rw [iu hld,gT];exact oG mt),g7,s10 _ _ gl,(fun p zs e=>s10 _ _ (g8 p zs e)),(fun d U m' h n=>(gk d U m' h n).same s10),g9.trans s10⟩
            rw [htk] at h
            rcases List.mem_append.mp h with h | h
            · exact g5 ld h
            · rw [List.mem_singleton.mp h];exact mt
          | false =>
            refine bY rfl ?_
            have nm:¬ Met tab' (k,U):=fun ⟨T2,h1,h2⟩=>by
              rw [aG] at h1
              cases h1
              have:=hb10.mpr h2
              cases this
            refine⟨_,rfl,_,rfl,tl,_,_,_,rfl,rfl,aX.of (s10 _ _ g1),bJ hev2,_,rfl,dt,dm,T',U,xs.length,rfl,ltt.same s10,ltm9.same s10,(by omega),fun fo H11 lto nfo s11=>?_⟩
            have s1011:=s10.trans s11
            refine⟨_,rfl,_,rfl,tl,_,_,k,rfl,rfl,s1011 _ _ g1,gF (by rw [hul];exact hkt),?_⟩
            refine⟨_,rfl,_,rfl,wa,_,rfl,gx.k (k:=Sum.inl ((k:Nat):Int)) (by rw [au ntw.symm];exact s1011 _ _ g3) hkwl,?_⟩
            exact put fo H11 lto (fun z=>by rw [z,s10 _ _ g3] at nfo;cases nfo) s1011 _ rfl nm
      · rintro σ H9 ⟨us',tab',bs',kw',u5,u6,u7,rfl,g1,g2,g3,gw,g4,g5,g6,gT,g7,gl,g8,gk,g9⟩
        have hll:=e5 tv8
        rw [hll,List.take_of_length_le (Nat.le_refl _),<-hls] at g5
        refine⟨us',tab',bs',kw',_,_,_,_,_,rfl,g1,g2,g3,gw,g4.on hpi g6 g5,?_,g7.imp (fun h=>⟨at_,ha1,h.1,h.2⟩) id,g9⟩
        rw [hll,List.take_of_length_le (Nat.le_refl _)] at gT
        rw [<-gT]
        show gX (tab,bs.set (bs.idxOf true) false) (qB ps tab (bs.idxOf true))=_
        rw [qC ha1 ha2]
        unfold qB
        rw [hpi,hT,<-hls]
    · refine bf (decide_eq_false (fun z=>ht (wd5.none.mp (by omega)))) ?_
      refine⟨_,rfl,tl,rfl,⟨_,aX.of htl5⟩,fun acc na=>?_⟩
      refine kZ (K:=K) (a:=tl) (xs:=us) (fun i ys τ H'=>∃ c1:Option V,τ = [c1]/\cI H' ys (tab.take i)/\H' acc=some (.lst ys)/\ah H5 H') ?_ ?_ ?_ ?_
      · exact⟨none,rfl,.nil,ae,ah.new na⟩
      · rintro i ys τ H6 hi ⟨c1,rfl,bv,h1,h2⟩
        refine⟨aX.of (h2 _ _ htl5),h1,jY ?_⟩
        have:=e5 bv
        rw [List.length_take] at this
        have:=I5.len
        omega
      · rintro i x ys τ H6 hx ⟨c1,rfl,bv,h1,h2⟩
        obtain⟨o,hoi,bo⟩:=L2.iG el5 hx
        have htk:tab.take (i+1)=tab.take i ++ [o]:=by rw [List.take_add_one,hoi];rfl
        have fin:∀ (y:V) (Hx:Hp),ah H6 Hx->BV Hx y o->Hx acc=some (.lst ys)/\cI (upd Hx acc (.lst (ys ++ [y]))) (ys ++ [y]) (List.take (i+1) tab)/\ah H5 (upd Hx acc (.lst (ys ++ [y]))):=by
          intro y Hx sx by_
          have ha:=sx _ _ h1
          have kt:∀ p zs,Hx p=some (.tup zs)->(upd Hx acc (.lst (ys ++ [y]))) p=some (.tup zs):=fun p zs e=>by rw [au (bA e ha (by intro z;cases z))];exact e
          have b2:cI Hx (ys ++ [y]) (tab.take i ++ [o]):=eZ (cI.same bv sx) (.cons by_ .nil)
          exact⟨ha,(by rw [htk];exact cI.aI kt b2),(h2.trans sx).put na⟩
        refine bM ?_
        cases o with
        | none =>
          cases (show x=V.aB from bo)
          refine⟨_,rfl,false,.inl ⟨rfl,rfl⟩,?_⟩
          refine bf rfl ?_
          intro dn ndn
          refine⟨dn,T0,rfl,⟨[],[],ae,⟨rfl,List.nodup_nil,fun x=>.inl ⟨rfl,rfl,by simp⟩⟩,(fun x hx=>nomatch hx),Nat.zero_le _⟩,fun v H7 fv s7=>⟨ln2,fun lp nlp=>?_⟩⟩
          refine⟨_,rfl,.inr ⟨_,rfl,lp,_,_,_,rfl,rfl,aX.of ae,cf,?_⟩⟩
          obtain⟨f1,f2,f3⟩:=fin .aB _ (((ah.new ndn).trans s7).trans (ah.new nlp)) rfl
          exact⟨f1,_,rfl,f2,ae,f3⟩
        | some T =>
          obtain⟨d,rfl,lt,nw⟩:=bo
          have lt:=(lt.same h2).up (show xs.length<=63 by omega)
          obtain⟨kvs,ks,hd,tb,cl,hkl⟩:=id lt
          refine⟨_,rfl,!kvs.isEmpty,.inr ⟨d,kvs,rfl,hd,rfl⟩,?_⟩
          cases hke:kvs with
          | cons kv kr =>
            refine bY rfl ?_
            refine⟨d,T,rfl,lt,fun v H7 fv s7=>⟨ln2,fun lp nlp=>?_⟩⟩
            refine⟨_,rfl,.inr ⟨_,rfl,lp,_,_,_,rfl,rfl,aX.of ae,cG,?_⟩⟩
            obtain⟨f1,f2,f3⟩:=fin v _ (s7.trans (ah.new nlp)) (FV.same fv (ah.new nlp))
            exact⟨f1,_,rfl,f2,ae,f3⟩
          | nil =>
            refine bf rfl ?_
            subst hke
            have hT0:T=T0:=by
              have hk0:ks = []:=by have:=congrArg List.length tb.keys;simpa using this.symm
              subst hk0
              funext y
              rcases tb.val y with ⟨_,a,_⟩ | ⟨_,_,_,a⟩
              · exact a
              · exact absurd a (by simp)
            intro dn ndn
            refine⟨dn,T,rfl,⟨[],[],ae,⟨rfl,List.nodup_nil,fun y=>.inl ⟨rfl,by rw [hT0];rfl,by simp⟩⟩,(fun x hx=>nomatch hx),Nat.zero_le _⟩,fun v H7 fv s7=>⟨ln2,fun lp nlp=>?_⟩⟩
            refine⟨_,rfl,.inr ⟨_,rfl,lp,_,_,_,rfl,rfl,aX.of ae,cG,?_⟩⟩
            obtain⟨f1,f2,f3⟩:=fin v _ (((ah.new ndn).trans s7).trans (ah.new nlp)) (FV.same fv (ah.new nlp))
            exact⟨f1,_,rfl,f2,ae,f3⟩
      · rintro ys τ H6 ⟨c1,rfl,bv,h1,h2⟩
        rw [e5 el5,List.take_of_length_le (Nat.le_refl _)] at bv
        refine⟨acc,ys,rfl,.inl ⟨aX.of h1,fun t nt=>?_⟩⟩
        exact q t ys tab _ ae (cI.same bv (ah.new nt)) ⟨nr,by rw [hnr],by rw [hnr];exact ht⟩ ((s5.trans h2).trans (ah.new nt))
theorem mN {f:Addr} {fd:FuncData} (F:bZ K "_law_wide_plan" "_law_wide_plan" di f fd) (Z:Bl mg) (O_law_take:Own P w K mg base "_law_take" 1 ["bag", "many"] gc) (O_law_deed:Own P w K mg base "_law_deed" 3 ["bag", "names"] mW) (O_law_end:Own P w K mg base "_law_end" 3 ["bag", "names", "count"] mX):bD P w K mg base bX 4 f fd ["bag", "count"] mI:=by
  refine F.ok (k:=3) bV (fun vs H Q E h=>?_) (fun cdv A outer s H vs Q E hr h=>?_)
  · obtain⟨b,c,rfl,_⟩:=h
    rfl
  · obtain⟨b,c,rfl,hB,c0,c1,q⟩:=h
    refine⟨_,(ai (aJ (i:=2) bV.nd rfl (Or.inl rfl) bF)
      (ai (aJ (i:=3) bV.nd rfl (Or.inl rfl) (aC O_law_take (hr.mono (by decide)) rfl (aa (pv 0) (aa ao af))))
      (ai (aJ (i:=4) bV.nd rfl (Or.inr rfl) (cD af))
      (ai (dH PassesOwn.never rfl (fz rfl Z.range (aa (ba cL ao (aC O_law_take (hr.mono (by decide)) rfl (aa (pv 0) (aa ao af)))) af)) (aF (i:=5) bV.nd rfl (Or.inl rfl))
      (ai (aJ (i:=6) bV.nd rfl (Or.inl rfl) (aK mS (pv 2) (ba gP (ba cL (ba iZ ao (pv 5)) (pv 3)) ao) (fun _ _=>rfl)))
      (ar (fF (ik PySem.F.plainAttrs_list PySem.F.slot_list_append PySem.F.type_list_append gB (pv 4) (aa (ba sr (pv 6) (ba xP (aK mS (pv 2) (ba nE (pv 5) ao) (fun _ _=>rfl)) (ba cL ao (ba gP (pv 5) ao)))) af))))))
      (ai (aJ (i:=7) bV.nd rfl (Or.inl rfl) (cD af))
      (ai (dH PassesOwn.never rfl (fz rfl Z.range (aa (pv 1) af)) (aF (i:=5) bV.nd rfl (Or.inl rfl))
      (ai (aJ (i:=8) bV.nd rfl (Or.inl rfl) (bw bH rfl Z.tuple cN (aa (dJ ["j"] ["bag", "names"] [0,4] rfl (fz rfl Z.range (aa (aC O_law_take (hr.mono (by decide)) rfl (aa (pv 0) (aa ao af))) af)) rfl (by decide +kernel) (by decide +kernel) (by decide +kernel) ⟨⟨rfl,.inl rfl,rfl⟩,⟨⟨rfl,.inl rfl,rfl⟩,True.intro⟩⟩ (fun _ _ _ _=>(aF (i:=0) (show ((["j"]:List Str)++(["bag", "names"]:List Str)).Nodup by decide +kernel) rfl (Or.inl rfl) (hf:=Or.inr rfl))) (fun _ _ _ _=>er) (fun _ _ _ _=>(aC O_law_deed (hr.mono (by decide)) rfl (aa (pv 1) (aa (pv 2) af))))) af)))
      (ar (fF (ik PySem.F.plainAttrs_list PySem.F.slot_list_append PySem.F.type_list_append gB (pv 7) (aa (bp (aa (pv 8) (aa (aC O_law_end (hr.mono (by decide)) rfl (aa (pv 0) (aa (pv 4) (aa (pv 1) af)))) af))) af))))))
      (ar (aH (bw bH rfl Z.tuple cN (aa (pv 7) af)))))))))),?_⟩
    refine⟨_,rfl,b,26,rfl,hB,⟨by decide,by decide +kernel⟩,fun sh H1 sh0 sh1 B1 X1=>?_⟩
    refine⟨(by show 0<=sizeLine;decide),fun l nn=>?_⟩
    have hlb:l ≠ b:=B1.fb nn
    refine⟨_,rfl,b,41,rfl,B1.new nn,⟨by decide,by decide +kernel⟩,fun mm H2 mm0 mm1 B2 X2=>⟨_,_,rfl,rfl,?_⟩⟩
    have hl2:H2 l=some (.lst []):=X2 l _ ae hlb
    have F2:Fix b H H2:=(X1.trans (Fix.new nn)).trans X2
    have nnl:∀ d o,H d=some o->d ≠ b->d ≠ l:=fun d o hd nd z=>by
      have:=X1 d o hd nd
      rw [z,nn] at this;cases this
    refine⟨_,rfl,(by omega),(by omega),jf (lo:=0) (fun i σ H'=>∃ (u1 u2 u3 u4:Option V) (xs:List Str),σ = [some (.ref b),some (.int c),some (.str jJ),some (.int sh),some (.ref l),u1,u2,u3,u4]/\H' l=some (.lst (xs.map V.str))/\xs.length=i/\(∀ x ∈ xs,gd x)/\cK H' b/\Fix b H H') ?_ ?_ ?_⟩
    · exact⟨_,_,_,_,[],rfl,hl2,rfl,(fun _ h=>nomatch h),B2,F2⟩
    · rintro i σ H3 hi ⟨u1,u2,u3,u4,xs,rfl,h1,h2,h3,B3,X3⟩
      refine bM ?_
      obtain⟨ca,hat,ca0,ca1⟩:=mY (r:=(7 * (0+(i:Int))+sh) % 26) (Int.emod_nonneg _ (by decide)) (Int.emod_lt_of_pos _ (by decide))
      obtain⟨cb,hbt,cb0,cb1⟩:=mY (r:=(0+(i:Int)) / 26) (by omega) (by omega)
      obtain⟨mk,ml,nk⟩:=wo (c0:=ca) (c:=cb) (n:=1+(0+(i:Int)) % 4) ⟨ca0,ca1⟩ ⟨cb0,cb1⟩ (by omega) (by omega)
      refine⟨_,rfl,_,rfl,_,_,rfl,rfl,.inl ⟨by decide,by decide⟩,_,rfl,_,_,rfl,rfl,_,_,rfl,rfl,(show (0:Int) < 26 by decide),jJ,_,ca,rfl,rfl,lj,hat,?_⟩
      refine⟨_,rfl,.inl ⟨rfl,_,aX.of h1⟩,_,rfl,_,rfl,_,rfl,_,_,rfl,rfl,⟨by decide,by decide⟩,jJ,_,cb,rfl,rfl,lj,hbt,_,rfl,_,_,rfl,rfl,(show (0:Int) < 4 by decide),_,_,rfl,rfl,_,_,rfl,rfl,mk,_,_,rfl,rfl,?_,l,_,_,rfl,rfl,h1,?_,?_⟩
      · have:(⟨#[ca]⟩:Str).length=1:=rfl
        rw [this]
        exact Nat.le_of_lt (br (by omega))
      · rw [List.length_map]
        exact br (by omega)
      refine⟨_,_,_,_,xs ++ [_],rfl,(by rw [ae,List.map_append];rfl),(by rw [List.length_append,h2];rfl),?_,B3.put hlb.symm,?_⟩
      · intro x hxm
        rcases List.mem_append.mp hxm with hxm | hxm
        · exact h3 x hxm
        · rw [List.mem_singleton.mp hxm];exact nk
      · intro d o hd nd
        rw [au (nnl d o hd nd)]
        exact X3 d o hd nd
    · rintro σ H3 ⟨u1,u2,u3,u4,xs,rfl,h1,h2,h3,B3,X3⟩
      have N3:eC H3 b l xs:=⟨h1,hlb,(by intro z;rw [z] at h2;simp at h2;omega),(by omega),h3⟩
      have x4:xs.length<=60:=by omega
      refine⟨(by show 0<=sizeLine;decide),fun pl pn=>?_⟩
      have hpb:pl ≠ b:=B3.fb pn
      refine⟨_,rfl,_,rfl,(by omega),(by omega),jf (lo:=0) (fun i σ H'=>∃ (u1 u2 u3:Option V) (ps:List Piece) (vs:List V),σ = [some (.ref b),some (.int c),some (.str jJ),some (.int sh),some (.ref l),u1,u2,some (.ref pl),u3] /\
        H' pl=some (.lst vs)/\bg H' vs (ps.map fc)/\ps.length=i/\(∀ p ∈ ps,(p.1.length<=4/\∀ d ∈ p.1,eB xs d)/\mV xs c p.2)/\eC H' b l xs/\cK H' b/\Fix b H H'/\(∀ d o,H3 d=some o->d ≠ b->H' d=some o)) ?_ ?_ ?_⟩
      · exact⟨_,_,_,[],[],rfl,ae,.nil,rfl,(fun _ h=>nomatch h),N3.fix (Fix.new pn),B3.new pn,X3.trans (Fix.new pn),Fix.new pn⟩
      · rintro i σ H' hi ⟨v1,v2,v3,ps,vs,rfl,hp,hr,hl,aG,N',B',X',Y'⟩
        refine bM ?_
        refine⟨_,rfl,b,5,rfl,B',⟨by decide,by decide +kernel⟩,fun k H4 k0 k1 B4 X4=>?_⟩
        have N4:=N'.fix X4
        have hp4:H4 pl=some (.lst vs):=X4 pl _ hp hpb
        have hr4:bg H4 vs (ps.map fc):=hr.fix B' X4 (bQ ps)
        refine⟨_,rfl,(by omega),(by omega),fun acc na=>?_⟩
        have hab:acc ≠ b:=B4.fb na
        refine mf (lo:=0) (fun i ys τ H'=>∃ (v:Option V) (ds:List cx),τ = [v,some (.ref b),some (.ref l)]/\bg H' ys (ds.map dN)/\ds.length=i/\(∀ d ∈ ds,eB xs d)/\H' acc=some (.lst ys)/\cK H' b/\Fix b H4 H') ?_ ?_ ?_ ?_
        · exact⟨none,[],rfl,.nil,rfl,(fun _ h=>nomatch h),ae,B4.new na,Fix.new na⟩
        · rintro i' ys τ H5 hi' ⟨v,ds,rfl,rds,hl',_,ha,_⟩
          refine⟨ha,?_⟩
          rw [rds.len,List.length_map]
          exact br (by omega)
        · rintro i' ys τ H5 hi' ⟨v,ds,rfl,rds,hl',hdk,ha,B5,X5⟩
          refine bM ?_
          refine jw ?_
          refine aW ?_
          refine⟨_,rfl,_,rfl,b,l,xs,rfl,B5,N4.fix X5,fun dv d H6 rd dk B6 X6=>?_⟩
          have ha6:=X6 acc _ ha hab
          refine⟨ha6,_,ds ++ [d],rfl,?_,(by rw [List.length_append,hl'];rfl),?_,ae,?_,?_⟩
          · rw [List.map_append]
            refine bg.app ((rds.fix B5 X6 (cq ds)).put ha6 (cq ds)) ?_
            exact rd.aI (fun p zs e=>by rw [au (bA e ha6 (by intro z;cases z))];exact e) (jv d)
          · intro d' hd
            rcases List.mem_append.mp hd with hd | hd
            · exact hdk d' hd
            · rw [List.mem_singleton.mp hd];exact dk
          · obtain⟨x,y,e,z⟩:=B6
            exact⟨x,y,by rw [au hab.symm];exact e,z⟩
          · intro d' o hd nd
            rw [au (aY hd na)]
            exact (X5.trans X6) d' o hd nd
        · rintro ys τ H5 ⟨v,ds,rfl,rds,hl',hdk,ha,B5,X5⟩
          refine⟨acc,ys,rfl,.inl ⟨aX.of ha,fun tp tn=>?_⟩⟩
          have S5:=ah.new (o:=.tup ys) tn
          have htp:(upd H5 tp (.tup ys)) tp=some (.tup ys):=ae
          have rds5:=rds.same S5 (cq ds)
          have B5':=B5.same S5
          have X45:Fix b H4 (upd H5 tp (.tup ys)):=X5.trans (Fix.of_same S5)
          generalize (upd H5 tp (.tup ys))=H6 at S5 htp rds5 B5' X45
          have hp6:=X45 pl _ hp4 hpb
          refine⟨_,rfl,.inl ⟨rfl,_,aX.of hp6⟩,_,rfl,_,rfl,_,rfl,_,rfl,b,l,xs,c,rfl,B5',N4.fix X45,c0,(by omega),fun ev e H7 re ek B7 X7=>⟨ln2,fun pc pcn=>?_⟩⟩
          have S7:=ah.new (o:=.tup [.ref tp,ev]) pcn
          have hp7:(upd H7 pc (.tup [.ref tp,ev])) pl=some (.lst vs):=S7 _ _ (X7 pl _ hp6 hpb)
          have htpb:tp ≠ b:=B5'.pS htp
          refine⟨pl,_,_,rfl,rfl,hp7,?_,?_⟩
          · rw [hr.len,List.length_map,hl]
            exact br (by omega)
          have hpiece:bB (upd H7 pc (.tup [.ref tp,ev])) (.ref pc) (fc (ds,e)) :=
            .tup ae (.cons (.tup (S7 _ _ (X7 _ _ htp htpb)) ((rds5.fix B5' X7 (cq ds)).same S7 (cq ds))) (.cons (re.same S7 (iM e)) .nil))
          have X47:Fix b H4 (upd H7 pc (.tup [.ref tp,ev])):=(X45.trans X7).trans (Fix.of_same S7)
          have F7:Fix b H (upd H7 pc (.tup [.ref tp,ev])):=(X'.trans X4).trans X47
          have plH:∀ d o,H3 d=some o->d ≠ b->d ≠ pl:=fun d o hd nd z=>by rw [z,pn] at hd;cases hd
          have N7:=N4.fix X47
          refine⟨_,_,_,ps ++ [(ds,e)],vs ++ [.ref pc],rfl,ae,?_,(by rw [List.length_append,hl];rfl),?_,?_,?_,?_,?_⟩
          · rw [List.map_append]
            refine bg.app ((hr4.fix B4 X47 (bQ ps)).put hp7 (bQ ps)) ?_
            exact hpiece.aI (fun p zs e=>by rw [au (bA e hp7 (by intro z;cases z))];exact e) (i4 (ds,e))
          · intro p hpm
            rcases List.mem_append.mp hpm with hpm | hpm
            · exact aG p hpm
            · rw [List.mem_singleton.mp hpm]
              exact⟨⟨by show ds.length<=4;omega,hdk⟩,ek⟩
          · have hll:l ≠ pl:=fun z=>by
              have:=N3.at_
              rw [z,pn] at this
              cases this
            exact⟨by rw [au hll];exact N7.at_,N7.ne,N7.o8,N7.bL,N7.ok⟩
          · obtain⟨x,y,e',z⟩:=B7.same S7
            exact⟨x,y,by rw [au hpb.symm];exact e',z⟩
          · intro d o hd nd
            rw [au (plH d o (X3 d o hd nd) nd)]
            exact F7 d o hd nd
          · intro d o hd nd
            rw [au (plH d o hd nd)]
            exact X47 d o (X4 d o (Y' d o hd nd) nd) nd
      · rintro σ H' ⟨v1,v2,v3,ps,vs,rfl,hp,hr,hl,aG,N',B',X',Y'⟩
        have hl':ps.length=c:=by rw [hl];omega
        refine⟨_,rfl,pl,_,rfl,.inl ⟨aX.of hp,fun tp tn=>?_⟩⟩
        refine q (.ref tp) xs ps _ (.tup ae (hr.same (ah.new tn) (bQ ps))) hl' ⟨fun p hpm=>(aG p hpm).1,fun p hpm=>?_⟩ ⟨N'.ok,x4⟩ (B'.new tn) (X'.trans (Fix.new tn))
        rw [hl']
        exact (aG p hpm).2
theorem yY {f:Addr} {fd:FuncData} (F:bZ K "law" "law" iQ f fd) (Z:Bl mg) (O_law_bag:Own P w K mg base "_law_bag" 1 ["script", "k"] (sH K)) (O_law_take:Own P w K mg base "_law_take" 1 ["bag", "many"] gc) (O_law_plan:Own P w K mg base "_law_plan" 4 ["bag", "count", "most"] pY) (O_law_count:Own P w K mg base "_law_count" 2 ["bag", "most"] nJ) (O_law_wide_plan:Own P w K mg base "_law_wide_plan" 4 ["bag", "count"] mI) (O_law_made:Own P w K mg base "_law_made" 6 ["plan"] nZ) (O_table_of:Own P w K mg base "table_of" 8 ["plan"] mH):bD P w K mg base bX 10 f fd ["script"] (o7 K):=by
  refine F.ok (k:=9) kU (fun vs H Q E h=>?_) (fun cdv A outer s H vs Q E hr h=>?_)
  · obtain⟨a,ns,rfl,_⟩:=h
    rfl
  · obtain⟨a,ns,rfl,hS,hlen,q⟩:=h
    refine⟨_,(ai (aJ (i:=1) kU.nd rfl (Or.inl rfl) (aC O_law_bag (hr.mono (by decide)) rfl (aa (pv 0) (aa ao af))))
      (ai (aJ (i:=2) kU.nd rfl (Or.inl rfl) (aC O_law_plan (hr.mono (by decide)) rfl (aa (pv 1) (aa (aK bK (cD (aa (aC O_law_count (hr.mono (by decide)) rfl (aa (pv 1) (aa ao af))) (aa ao af))) (bw ix rfl Z.int kq (aa (fH cg (aC O_law_take (hr.mono (by decide)) rfl (aa (pv 1) (aa ao af))) ao (aS _)) af)) (fun _ _=>rfl)) (aa ao af)))))
      (ai (dW (bu (aP cg (aC O_law_take (hr.mono (by decide)) rfl (aa (pv 1) (aa ao af))) ao (aS _))
      (ar (aJ (i:=2) kU.nd rfl (Or.inl rfl) (aC O_law_wide_plan (hr.mono (by decide)) rfl (aa (pv 1) (aa (ba cL ao (aC O_law_take (hr.mono (by decide)) rfl (aa (pv 1) (aa ao af)))) af)))))
      aU))
      (ai (aJ (i:=3) kU.nd rfl (Or.inl rfl) (aC O_law_made (hr.mono (by decide)) rfl (aa (pv 2) af)))
      (ar (aH (jG (fH (t6 hr.units) (aC O_table_of (hr.mono (by decide)) rfl (aa (pv 2) af)) (pv 3) (aS _)) (eh (fH (t6 hr.units) (aC O_table_of (hr.mono (by decide)) rfl (aa (pv 2) af)) (pv 3) (aS _)))))))))),?_⟩
    refine⟨_,rfl,a,ns,0,rfl,hS,(by decide),fun b H1 nb B1 s1=>?_⟩
    refine⟨_,rfl,_,rfl,b,30,rfl,B1,(by omega),(by omega),fun c H3 c0 c1 B3 X3=>?_⟩
    refine⟨ln2,fun l0 n0=>?_⟩
    have h0:(upd H3 l0 (.lst [.int c,.int 400])) l0=some (.lst [.int c,.int 400]):=ae
    have nlb:l0 ≠ b:=by
      obtain⟨_,_,z,_⟩:=B3
      exact (aY z n0).symm
    refine⟨_,rfl,b,8,rfl,B3.new n0,⟨by decide,by decide +kernel⟩,fun z H2 z0 z1 B2 X2=>?_⟩
    obtain⟨g,hg,hg2⟩:∃ g:Nat,fU [V.int c,V.int 400] (if decide (V.int z=V.int 0)=true then 1 else 0)=some (V.int g)/\(0 < g/\g<=400):=by
      cases decide (V.int z=V.int 0)
      · exact⟨c,cf,by omega⟩
      · exact⟨400,cG,by omega⟩
    refine⟨rfl,.inr ⟨_,rfl,l0,_,_,_,rfl,rfl,aX.of (X2 _ _ h0 nlb),hg,?_⟩⟩
    refine⟨b,g,3,rfl,B2,hg2.1,(by omega),(by omega),fun plv xs ps H4 r4 hc4 pok xok B4 X4=>?_⟩
    have s4:ah H H4:=ah.yw s1 nb ((X3.trans ((Fix.new n0).trans X2)).trans X4)
    refine⟨fun σ' H'=>∃ (plv:V) (ps:List Piece) (xs:List Str) (u1:Option V),σ' = [some (.ref a),u1,some plv,none]/\bB H' plv (il ps)/\fe xs 4 ps/\(∀ x ∈ xs,gd x)/\xs.length<=62/\0 < ps.length/\ps.length<=400/\ah H H',?_,?_⟩
    · refine⟨_,rfl,b,6,rfl,B4,⟨by decide,by decide +kernel⟩,fun z2 H5 z20 z21 B5 X5=>⟨rfl,_,rfl,?_⟩⟩
      have s5:ah H H5:=fun c o e=>X5 c o (s4 c o e) (aY e nb)
      refine cM (fun hc=>?_) (fun hc=>?_)
      · refine⟨_,rfl,_,rfl,b,40,rfl,B5,⟨by decide,by decide +kernel⟩,fun z3 H6 z30 z31 B6 X6=>⟨_,_,rfl,rfl,?_⟩⟩
        obtain⟨k,rfl⟩:∃ k:Nat,z3=k:=⟨z3.toNat,by omega⟩
        refine⟨b,1+k,congrArg (fun z=>[V.ref b,V.int z]) (show (1:Int)+(k:Int)=((1+k:Nat):Int) by omega),B6,(by omega),(by omega),fun plv xs ps H7 r7 hc7 pok xok B7 X7=>?_⟩
        exact⟨plv,ps,xs,_,rfl,r7,pok,xok.1,(by have:=xok.2;omega),(by omega),(by omega),fun c o e=>X7 c o (X6 c o (s5 c o e) (aY e nb)) (aY e nb)⟩
      · exact⟨plv,ps,xs,_,rfl,r4.fix B4 X5 (dC ps),⟨fun p hp=>⟨Nat.le_trans (pok.lh p hp).1 (by decide),(pok.lh p hp).2⟩,pok.ends⟩,xok.1,(by have:=xok.2;omega),(by omega),(by omega),s5⟩
    clear r4 pok hc4 s4 B4
    rintro σ' H5 ⟨plv,ps,xs,u1,rfl,r5,pok,nok,h62,hp0,hn4,s5⟩
    have hal:(aR ps).length<=4000:=by
      have h1:=xJ pok
      have h2:ps.length * (2 * 4+1)<=400 * (2 * 4+1):=Nat.mul_le_mul_right _ hn4
      omega
    refine⟨_,rfl,plv,ps,xs,4,rfl,r5,pok,hp0,hn4,h62,fun td ud tab H6 htd bvd mkd s6=>?_⟩
    have step:∀ (H7:Hp) (t:Addr) (us:List V) (tab':dD),ah H6 H7->H7 t=some (.tup us)->cI H7 us tab'->TabOk xs tab'->lI ps tab'->∃ ds:PyData,bB H7 (.ref t) ds/\bB H7 (.ref td) ds/\ds.canLay0=true/\ds.depth<=4:=by
      intro H7 t us tab' s7 ht bv tk mk
      obtain rfl:=mkd.one mk
      obtain⟨ds,r1,r2,l,dd⟩:=cI.wY bv (cI.same bvd s7) fun T hT=>(tk T hT).lay nok
      exact⟨.tuple ds,.tup ht r1,.tup (s7 _ _ htd) r2,l,(by show PyData.depthAll ds+1<=4;omega)⟩
    refine⟨_,rfl,plv,ps,xs,4,rfl,r5.same s6 (dC ps),pok,hp0,hn4,h62,hal,fun t us tab' H7 ht bv tk mk s7=>?_⟩
    obtain⟨dd,ra,rb,lay,dep⟩:=step H7 t us tab' s7 ht bv tk mk
    refine⟨_,rfl,dd,dd,ra,rb,lay,lay,(by omega),?_⟩
    rw [PySem.SeqAt.eqv_refl _ lay]
    refine⟨_,rfl,?_⟩
    refine bY rfl ?_
    refine⟨_,rfl,plv,ps,xs,4,rfl,(r5.same s6 (dC ps)).same s7 (dC ps),pok,hp0,hn4,h62,hal,fun t us tab' H8 ht bv tk mk s8=>?_⟩
    obtain⟨dd,ra,rb,lay,dep⟩:=step H8 t us tab' (s7.trans s8) ht bv tk mk
    refine⟨_,rfl,dd,dd,ra,rb,lay,lay,(by omega),?_⟩
    rw [PySem.SeqAt.eqv_refl _ lay]
    exact q _
end
theorem all_mk {l:PySem.W.OpenLaw} {w:World} {K:PySem.W.Frag} {h:Heap} {mg:Str->Option Value} {fa:Addr} (X:K.In h) (G:h.Ns mainGlobals mg) (hfa:mg "law" = some (.ref fa))
  {f0:Addr} {od0 an0:Option Addr} {sl0:Array (Option Value)} {oc0 kV0 dc0 pm0 cd0 ct0:Value}
  {f1:Addr} {od1 an1:Option Addr} {sl1:Array (Option Value)} {oc1 kV1 dc1 pm1 cd1 ct1:Value}
  {f2:Addr} {od2 an2:Option Addr} {sl2:Array (Option Value)} {oc2 kV2 dc2 pm2 cd2 ct2:Value}
  {f3:Addr} {od3 an3:Option Addr} {sl3:Array (Option Value)} {oc3 kV3 dc3 pm3 cd3 ct3:Value}
  {f4:Addr} {od4 an4:Option Addr} {sl4:Array (Option Value)} {oc4 kV4 dc4 pm4 cd4 ct4:Value}
  {f5:Addr} {od5 an5:Option Addr} {sl5:Array (Option Value)} {oc5 kV5 dc5 pm5 cd5 ct5:Value}
  {f6:Addr} {od6 an6:Option Addr} {sl6:Array (Option Value)} {oc6 kV6 dc6 pm6 cd6 ct6:Value}
  {f7:Addr} {od7 an7:Option Addr} {sl7:Array (Option Value)} {oc7 kV7 dc7 pm7 cd7 ct7:Value}
  {f8:Addr} {od8 an8:Option Addr} {sl8:Array (Option Value)} {oc8 kV8 dc8 pm8 cd8 ct8:Value}
  {f9:Addr} {od9 an9:Option Addr} {sl9:Array (Option Value)} {oc9 kV9 dc9 pm9 cd9 ct9:Value}
  {f10:Addr} {od10 an10:Option Addr} {sl10:Array (Option Value)} {oc10 kV10 dc10 pm10 cd10 ct10:Value}
  {f11:Addr} {od11 an11:Option Addr} {sl11:Array (Option Value)} {oc11 kV11 dc11 pm11 cd11 ct11:Value}
  {f12:Addr} {od12 an12:Option Addr} {sl12:Array (Option Value)} {oc12 kV12 dc12 pm12 cd12 ct12:Value}
  {f13:Addr} {od13 an13:Option Addr} {sl13:Array (Option Value)} {oc13 kV13 dc13 pm13 cd13 ct13:Value}
  {f14:Addr} {od14 an14:Option Addr} {sl14:Array (Option Value)} {oc14 kV14 dc14 pm14 cd14 ct14:Value}
  {f15:Addr} {od15 an15:Option Addr} {sl15:Array (Option Value)} {oc15 kV15 dc15 pm15 cd15 ct15:Value}
  {f16:Addr} {od16 an16:Option Addr} {sl16:Array (Option Value)} {oc16 kV16 dc16 pm16 cd16 ct16:Value}
  {f17:Addr} {od17 an17:Option Addr} {sl17:Array (Option Value)} {oc17 kV17 dc17 pm17 cd17 ct17:Value}
  {f18:Addr} {od18 an18:Option Addr} {sl18:Array (Option Value)} {oc18 kV18 dc18 pm18 cd18 ct18:Value}
  {f19:Addr} {od19 an19:Option Addr} {sl19:Array (Option Value)} {oc19 kV19 dc19 pm19 cd19 ct19:Value}
  {f20:Addr} {od20 an20:Option Addr} {sl20:Array (Option Value)} {oc20 kV20 dc20 pm20 cd20 ct20:Value}
  {f21:Addr} {od21 an21:Option Addr} {sl21:Array (Option Value)} {oc21 kV21 dc21 pm21 cd21 ct21:Value}
  {f22:Addr} {od22 an22:Option Addr} {sl22:Array (Option Value)} {oc22 kV22 dc22 pm22 cd22 ct22:Value}
  {f23:Addr} {od23 an23:Option Addr} {sl23:Array (Option Value)} {oc23 kV23 dc23 pm23 cd23 ct23:Value}
  {f24:Addr} {od24 an24:Option Addr} {sl24:Array (Option Value)} {oc24 kV24 dc24 pm24 cd24 ct24:Value}
  {f25:Addr} {od25 an25:Option Addr} {sl25:Array (Option Value)} {oc25 kV25 dc25 pm25 cd25 ct25:Value}
  {f26:Addr} {od26 an26:Option Addr} {sl26:Array (Option Value)} {oc26 kV26 dc26 pm26 cd26 ct26:Value}
  {f27:Addr} {od27 an27:Option Addr} {sl27:Array (Option Value)} {oc27 kV27 dc27 pm27 cd27 ct27:Value}
  {f28:Addr} {od28 an28:Option Addr} {sl28:Array (Option Value)} {oc28 kV28 dc28 pm28 cd28 ct28:Value}
  {f29:Addr} {od29 an29:Option Addr} {sl29:Array (Option Value)} {oc29 kV29 dc29 pm29 cd29 ct29:Value}
  {f30:Addr} {od30 an30:Option Addr} {sl30:Array (Option Value)} {oc30 kV30 dc30 pm30 cd30 ct30:Value}
  {f31:Addr} {od31 an31:Option Addr} {sl31:Array (Option Value)} {oc31 kV31 dc31 pm31 cd31 ct31:Value}
  {f32:Addr} {od32 an32:Option Addr} {sl32:Array (Option Value)} {oc32 kV32 dc32 pm32 cd32 ct32:Value}
  {f33:Addr} {od33 an33:Option Addr} {sl33:Array (Option Value)} {oc33 kV33 dc33 pm33 cd33 ct33:Value}
  {f34:Addr} {od34 an34:Option Addr} {sl34:Array (Option Value)} {oc34 kV34 dc34 pm34 cd34 ct34:Value}
  {f35:Addr} {od35 an35:Option Addr} {sl35:Array (Option Value)} {oc35 kV35 dc35 pm35 cd35 ct35:Value}
  {f36:Addr} {od36 an36:Option Addr} {sl36:Array (Option Value)} {oc36 kV36 dc36 pm36 cd36 ct36:Value}
  {f37:Addr} {od37 an37:Option Addr} {sl37:Array (Option Value)} {oc37 kV37 dc37 pm37 cd37 ct37:Value}
  {f38:Addr} {od38 an38:Option Addr} {sl38:Array (Option Value)} {oc38 kV38 dc38 pm38 cd38 ct38:Value}
  {f39:Addr} {od39 an39:Option Addr} {sl39:Array (Option Value)} {oc39 kV39 dc39 pm39 cd39 ct39:Value}
  {f40:Addr} {od40 an40:Option Addr} {sl40:Array (Option Value)} {oc40 kV40 dc40 pm40 cd40 ct40:Value}
  {f41:Addr} {od41 an41:Option Addr} {sl41:Array (Option Value)} {oc41 kV41 dc41 pm41 cd41 ct41:Value}
  {f42:Addr} {od42 an42:Option Addr} {sl42:Array (Option Value)} {oc42 kV42 dc42 pm42 cd42 ct42:Value}
  {f43:Addr} {od43 an43:Option Addr} {sl43:Array (Option Value)} {oc43 kV43 dc43 pm43 cd43 ct43:Value}
  {aA:Addr} {dcA:Option Addr} {nA:Nat} {slA:Array (Option Value)}
  {aE:Addr} {epE:Nat} {s0:Addr} {hsE0:Int} {tkE0:Tok} {dcE0:Option Addr} {nnE0:Nat} {slE0:Array (Option Value)}  {s1:Addr} {hsE1:Int} {tkE1:Tok} {dcE1:Option Addr} {nnE1:Nat} {slE1:Array (Option Value)} {ttE1_0:Tok} {s2:Addr} {hsE2:Int} {tkE2:Tok} {dcE2:Option Addr} {nnE2:Nat} {slE2:Array (Option Value)} {ttE2_0:Tok} {ttE2_1:Tok} {ttE2_2:Tok} {ttE2_3:Tok} {s3:Addr} {hsE3:Int} {tkE3:Tok} {dcE3:Option Addr} {nnE3:Nat} {slE3:Array (Option Value)} {ttE3_0:Tok} {ttE3_1:Tok} {ttE3_2:Tok} {ttE3_3:Tok}
  {aD:Addr} {epD:Nat} {d0:Addr} {hsD0:Int} {tkD0:Tok} {dcD0:Option Addr} {nnD0:Nat} {slD0:Array (Option Value)} {ttD0_0:Tok} {ttD0_1:Tok} {d1:Addr} {hsD1:Int} {tkD1:Tok} {dcD1:Option Addr} {nnD1:Nat} {slD1:Array (Option Value)} {ttD1_0:Tok} {ttD1_1:Tok} {d2:Addr} {hsD2:Int} {tkD2:Tok} {dcD2:Option Addr} {nnD2:Nat} {slD2:Array (Option Value)} {ttD2_0:Tok} {ttD2_1:Tok} {d3:Addr} {hsD3:Int} {tkD3:Tok} {dcD3:Option Addr} {nnD3:Nat} {slD3:Array (Option Value)} {ttD3_0:Tok} {d4:Addr} {hsD4:Int} {tkD4:Tok} {dcD4:Option Addr} {nnD4:Nat} {slD4:Array (Option Value)} {ttD4_0:Tok}
  (a0:PySem.W.nsIn K mainGlobals "parts_of_kind" = some (some (.ref f0))) (l0:K.lookup f0=some ⟨oc0,od0,.func (PySem.W.fnOf "parts_of_kind" "parts_of_kind" (aO df) (aN df) (av df) .none kV0 dc0 pm0 an0 cd0 ct0),sl0⟩) (c0:PySem.W.codeIn K cd0 "parts_of_kind" = true) (k0:PySem.W.keepIn K (.ref f0)=true)
  (a1:PySem.W.nsIn K mainGlobals "ways_on" = some (some (.ref f1))) (l1:K.lookup f1=some ⟨oc1,od1,.func (PySem.W.fnOf "ways_on" "ways_on" (aO gG) (aN gG) (av gG) .none kV1 dc1 pm1 an1 cd1 ct1),sl1⟩) (c1:PySem.W.codeIn K cd1 "ways_on" = true) (k1:PySem.W.keepIn K (.ref f1)=true)
  (a2:PySem.W.nsIn K mainGlobals "names_of" = some (some (.ref f2))) (l2:K.lookup f2=some ⟨oc2,od2,.func (PySem.W.fnOf "names_of" "names_of" (aO fK) (aN fK) (av fK) .none kV2 dc2 pm2 an2 cd2 ct2),sl2⟩) (c2:PySem.W.codeIn K cd2 "names_of" = true) (k2:PySem.W.keepIn K (.ref f2)=true)
  (a3:PySem.W.nsIn K mainGlobals "lies_in" = some (some (.ref f3))) (l3:K.lookup f3=some ⟨oc3,od3,.func (PySem.W.fnOf "lies_in" "lies_in" (aO gH) (aN gH) (av gH) .none kV3 dc3 pm3 an3 cd3 ct3),sl3⟩) (c3:PySem.W.codeIn K cd3 "lies_in" = true) (k3:PySem.W.keepIn K (.ref f3)=true)
  (a4:PySem.W.nsIn K mainGlobals "part_below" = some (some (.ref f4))) (l4:K.lookup f4=some ⟨oc4,od4,.func (PySem.W.fnOf "part_below" "part_below" (aO eI) (aN eI) (av eI) .none kV4 dc4 pm4 an4 cd4 ct4),sl4⟩) (c4:PySem.W.codeIn K cd4 "part_below" = true) (k4:PySem.W.keepIn K (.ref f4)=true)
  (a5:PySem.W.nsIn K mainGlobals "part_from" = some (some (.ref f5))) (l5:K.lookup f5=some ⟨oc5,od5,.func (PySem.W.fnOf "part_from" "part_from" (aO fh) (aN fh) (av fh) .none kV5 dc5 pm5 an5 cd5 ct5),sl5⟩) (c5:PySem.W.codeIn K cd5 "part_from" = true) (k5:PySem.W.keepIn K (.ref f5)=true)
  (a6:PySem.W.nsIn K mainGlobals "part_at" = some (some (.ref f6))) (l6:K.lookup f6=some ⟨oc6,od6,.func (PySem.W.fnOf "part_at" "part_at" (aO gI) (aN gI) (av gI) .none kV6 dc6 pm6 an6 cd6 ct6),sl6⟩) (c6:PySem.W.codeIn K cd6 "part_at" = true) (k6:PySem.W.keepIn K (.ref f6)=true)
  (a7:PySem.W.nsIn K mainGlobals "part_beside" = some (some (.ref f7))) (l7:K.lookup f7=some ⟨oc7,od7,.func (PySem.W.fnOf "part_beside" "part_beside" (aO dQ) (aN dQ) (av dQ) .none kV7 dc7 pm7 an7 cd7 ct7),sl7⟩) (c7:PySem.W.codeIn K cd7 "part_beside" = true) (k7:PySem.W.keepIn K (.ref f7)=true)
  (a8:PySem.W.nsIn K mainGlobals "part_of" = some (some (.ref f8))) (l8:K.lookup f8=some ⟨oc8,od8,.func (PySem.W.fnOf "part_of" "part_of" (aO gJ) (aN gJ) (av gJ) .none kV8 dc8 pm8 an8 cd8 ct8),sl8⟩) (c8:PySem.W.codeIn K cd8 "part_of" = true) (k8:PySem.W.keepIn K (.ref f8)=true)
  (a9:PySem.W.nsIn K mainGlobals "is_within" = some (some (.ref f9))) (l9:K.lookup f9=some ⟨oc9,od9,.func (PySem.W.fnOf "is_within" "is_within" (aO fi) (aN fi) (av fi) .none kV9 dc9 pm9 an9 cd9 ct9),sl9⟩) (c9:PySem.W.codeIn K cd9 "is_within" = true) (k9:PySem.W.keepIn K (.ref f9)=true)
  (a10:PySem.W.nsIn K mainGlobals "facts_of" = some (some (.ref f10))) (l10:K.lookup f10=some ⟨oc10,od10,.func (PySem.W.fnOf "facts_of" "facts_of" (aO fL) (aN fL) (av fL) .none kV10 dc10 pm10 an10 cd10 ct10),sl10⟩) (c10:PySem.W.codeIn K cd10 "facts_of" = true) (k10:PySem.W.keepIn K (.ref f10)=true)
  (a11:PySem.W.nsIn K mainGlobals "known" = some (some (.ref f11))) (l11:K.lookup f11=some ⟨oc11,od11,.func (PySem.W.fnOf "known" "known" (aO iT) (aN iT) (av iT) .none kV11 dc11 pm11 an11 cd11 ct11),sl11⟩) (c11:PySem.W.codeIn K cd11 "known" = true) (k11:PySem.W.keepIn K (.ref f11)=true)
  (a12:PySem.W.nsIn K mainGlobals "with_known" = some (some (.ref f12))) (l12:K.lookup f12=some ⟨oc12,od12,.func (PySem.W.fnOf "with_known" "with_known" (aO eJ) (aN eJ) (av eJ) .none kV12 dc12 pm12 an12 cd12 ct12),sl12⟩) (c12:PySem.W.codeIn K cd12 "with_known" = true) (k12:PySem.W.keepIn K (.ref f12)=true)
  (a13:PySem.W.nsIn K mainGlobals "covers" = some (some (.ref f13))) (l13:K.lookup f13=some ⟨oc13,od13,.func (PySem.W.fnOf "covers" "covers" (aO ib) (aN ib) (av ib) .none kV13 dc13 pm13 an13 cd13 ct13),sl13⟩) (c13:PySem.W.codeIn K cd13 "covers" = true) (k13:PySem.W.keepIn K (.ref f13)=true)
  (a14:PySem.W.nsIn K mainGlobals "moved" = some (some (.ref f14))) (l14:K.lookup f14=some ⟨oc14,od14,.func (PySem.W.fnOf "moved" "moved" (aO iU) (aN iU) (av iU) .none kV14 dc14 pm14 an14 cd14 ct14),sl14⟩) (c14:PySem.W.codeIn K cd14 "moved" = true) (k14:PySem.W.keepIn K (.ref f14)=true)
  (a15:PySem.W.nsIn K mainGlobals "stretch_behind" = some (some (.ref f15))) (l15:K.lookup f15=some ⟨oc15,od15,.func (PySem.W.fnOf "stretch_behind" "stretch_behind" (aO cS) (aN cS) (av cS) .none kV15 dc15 pm15 an15 cd15 ct15),sl15⟩) (c15:PySem.W.codeIn K cd15 "stretch_behind" = true) (k15:PySem.W.keepIn K (.ref f15)=true)
  (a16:PySem.W.nsIn K mainGlobals "behind" = some (some (.ref f16))) (l16:K.lookup f16=some ⟨oc16,od16,.func (PySem.W.fnOf "behind" "behind" (aO ic) (aN ic) (av ic) .none kV16 dc16 pm16 an16 cd16 ct16),sl16⟩) (c16:PySem.W.codeIn K cd16 "behind" = true) (k16:PySem.W.keepIn K (.ref f16)=true)
  (a17:PySem.W.nsIn K mainGlobals "known_beyond" = some (some (.ref f17))) (l17:K.lookup f17=some ⟨oc17,od17,.func (PySem.W.fnOf "known_beyond" "known_beyond" (aO dE) (aN dE) (av dE) .none kV17 dc17 pm17 an17 cd17 ct17),sl17⟩) (c17:PySem.W.codeIn K cd17 "known_beyond" = true) (k17:PySem.W.keepIn K (.ref f17)=true)
  (a18:PySem.W.nsIn K mainGlobals "leads" = some (some (.ref f18))) (l18:K.lookup f18=some ⟨oc18,od18,.func (PySem.W.fnOf "leads" "leads" (aO iV) (aN iV) (av iV) .none kV18 dc18 pm18 an18 cd18 ct18),sl18⟩) (c18:PySem.W.codeIn K cd18 "leads" = true) (k18:PySem.W.keepIn K (.ref f18)=true)
  (a19:PySem.W.nsIn K mainGlobals "start" = some (some (.ref f19))) (l19:K.lookup f19=some ⟨oc19,od19,.func (PySem.W.fnOf "start" "start" (aO iW) (aN iW) (av iW) .none kV19 dc19 pm19 an19 cd19 ct19),sl19⟩) (c19:PySem.W.codeIn K cd19 "start" = true) (k19:PySem.W.keepIn K (.ref f19)=true)
  (a20:PySem.W.nsIn K mainGlobals "is_met" = some (some (.ref f20))) (l20:K.lookup f20=some ⟨oc20,od20,.func (PySem.W.fnOf "is_met" "is_met" (aO ie) (aN ie) (av ie) .none kV20 dc20 pm20 an20 cd20 ct20),sl20⟩) (c20:PySem.W.codeIn K cd20 "is_met" = true) (k20:PySem.W.keepIn K (.ref f20)=true)
  (a21:PySem.W.nsIn K mainGlobals "leads_from" = some (some (.ref f21))) (l21:K.lookup f21=some ⟨oc21,od21,.func (PySem.W.fnOf "leads_from" "leads_from" (aO eM) (aN eM) (av eM) .none kV21 dc21 pm21 an21 cd21 ct21),sl21⟩) (c21:PySem.W.codeIn K cd21 "leads_from" = true) (k21:PySem.W.keepIn K (.ref f21)=true)
  (a22:PySem.W.nsIn K mainGlobals "opened" = some (some (.ref f22))) (l22:K.lookup f22=some ⟨oc22,od22,.func (PySem.W.fnOf "opened" "opened" (aO ig) (aN ig) (av ig) .none kV22 dc22 pm22 an22 cd22 ct22),sl22⟩) (c22:PySem.W.codeIn K cd22 "opened" = true) (k22:PySem.W.keepIn K (.ref f22)=true)
  (a23:PySem.W.nsIn K mainGlobals "widened" = some (some (.ref f23))) (l23:K.lookup f23=some ⟨oc23,od23,.func (PySem.W.fnOf "widened" "widened" (aO gK) (aN gK) (av gK) .none kV23 dc23 pm23 an23 cd23 ct23),sl23⟩) (c23:PySem.W.codeIn K cd23 "widened" = true) (k23:PySem.W.keepIn K (.ref f23)=true)
  (a24:PySem.W.nsIn K mainGlobals "table_of" = some (some (.ref f24))) (l24:K.lookup f24=some ⟨oc24,od24,.func (PySem.W.fnOf "table_of" "table_of" (aO fM) (aN fM) (av fM) .none kV24 dc24 pm24 an24 cd24 ct24),sl24⟩) (c24:PySem.W.codeIn K cd24 "table_of" = true) (k24:PySem.W.keepIn K (.ref f24)=true)
  (a25:PySem.W.nsIn K mainGlobals "_law_bag" = some (some (.ref f25))) (l25:K.lookup f25=some ⟨oc25,od25,.func (PySem.W.fnOf "_law_bag" "_law_bag" (aO gM) (aN gM) (av gM) .none kV25 dc25 pm25 an25 cd25 ct25),sl25⟩) (c25:PySem.W.codeIn K cd25 "_law_bag" = true) (k25:PySem.W.keepIn K (.ref f25)=true)
  (a26:PySem.W.nsIn K mainGlobals "_law_take" = some (some (.ref f26))) (l26:K.lookup f26=some ⟨oc26,od26,.func (PySem.W.fnOf "_law_take" "_law_take" (aO fN) (aN fN) (av fN) .none kV26 dc26 pm26 an26 cd26 ct26),sl26⟩) (c26:PySem.W.codeIn K cd26 "_law_take" = true) (k26:PySem.W.keepIn K (.ref f26)=true)
  (a27:PySem.W.nsIn K mainGlobals "_law_names" = some (some (.ref f27))) (l27:K.lookup f27=some ⟨oc27,od27,.func (PySem.W.fnOf "_law_names" "_law_names" (aO fk) (aN fk) (av fk) .none kV27 dc27 pm27 an27 cd27 ct27),sl27⟩) (c27:PySem.W.codeIn K cd27 "_law_names" = true) (k27:PySem.W.keepIn K (.ref f27)=true)
  (a28:PySem.W.nsIn K mainGlobals "_law_number" = some (some (.ref f28))) (l28:K.lookup f28=some ⟨oc28,od28,.func (PySem.W.fnOf "_law_number" "_law_number" (aO eN) (aN eN) (av eN) .none kV28 dc28 pm28 an28 cd28 ct28),sl28⟩) (c28:PySem.W.codeIn K cd28 "_law_number" = true) (k28:PySem.W.keepIn K (.ref f28)=true)
  (a29:PySem.W.nsIn K mainGlobals "_law_deed" = some (some (.ref f29))) (l29:K.lookup f29=some ⟨oc29,od29,.func (PySem.W.fnOf "_law_deed" "_law_deed" (aO fO) (aN fO) (av fO) .none kV29 dc29 pm29 an29 cd29 ct29),sl29⟩) (c29:PySem.W.codeIn K cd29 "_law_deed" = true) (k29:PySem.W.keepIn K (.ref f29)=true)
  (a30:PySem.W.nsIn K mainGlobals "_law_end" = some (some (.ref f30))) (l30:K.lookup f30=some ⟨oc30,od30,.func (PySem.W.fnOf "_law_end" "_law_end" (aO gN) (aN gN) (av gN) .none kV30 dc30 pm30 an30 cd30 ct30),sl30⟩) (c30:PySem.W.codeIn K cd30 "_law_end" = true) (k30:PySem.W.keepIn K (.ref f30)=true)
  (a31:PySem.W.nsIn K mainGlobals "_law_plan" = some (some (.ref f31))) (l31:K.lookup f31=some ⟨oc31,od31,.func (PySem.W.fnOf "_law_plan" "_law_plan" (aO fP) (aN fP) (av fP) .none kV31 dc31 pm31 an31 cd31 ct31),sl31⟩) (c31:PySem.W.codeIn K cd31 "_law_plan" = true) (k31:PySem.W.keepIn K (.ref f31)=true)
  (a32:PySem.W.nsIn K mainGlobals "_law_count" = some (some (.ref f32))) (l32:K.lookup f32=some ⟨oc32,od32,.func (PySem.W.fnOf "_law_count" "_law_count" (aO fq) (aN fq) (av fq) .none kV32 dc32 pm32 an32 cd32 ct32),sl32⟩) (c32:PySem.W.codeIn K cd32 "_law_count" = true) (k32:PySem.W.keepIn K (.ref f32)=true)
  (a33:PySem.W.nsIn K mainGlobals "_law_all_names" = some (some (.ref f33))) (l33:K.lookup f33=some ⟨oc33,od33,.func (PySem.W.fnOf "_law_all_names" "_law_all_names" (aO dh) (aN dh) (av dh) .none kV33 dc33 pm33 an33 cd33 ct33),sl33⟩) (c33:PySem.W.codeIn K cd33 "_law_all_names" = true) (k33:PySem.W.keepIn K (.ref f33)=true)
  (a34:PySem.W.nsIn K mainGlobals "_law_part" = some (some (.ref f34))) (l34:K.lookup f34=some ⟨oc34,od34,.func (PySem.W.fnOf "_law_part" "_law_part" (aO fQ) (aN fQ) (av fQ) .none kV34 dc34 pm34 an34 cd34 ct34),sl34⟩) (c34:PySem.W.codeIn K cd34 "_law_part" = true) (k34:PySem.W.keepIn K (.ref f34)=true)
  (a35:PySem.W.nsIn K mainGlobals "_law_with" = some (some (.ref f35))) (l35:K.lookup f35=some ⟨oc35,od35,.func (PySem.W.fnOf "_law_with" "_law_with" (aO fR) (aN fR) (av fR) .none kV35 dc35 pm35 an35 cd35 ct35),sl35⟩) (c35:PySem.W.codeIn K cd35 "_law_with" = true) (k35:PySem.W.keepIn K (.ref f35)=true)
  (a36:PySem.W.nsIn K mainGlobals "_law_told" = some (some (.ref f36))) (l36:K.lookup f36=some ⟨oc36,od36,.func (PySem.W.fnOf "_law_told" "_law_told" (aO fS) (aN fS) (av fS) .none kV36 dc36 pm36 an36 cd36 ct36),sl36⟩) (c36:PySem.W.codeIn K cd36 "_law_told" = true) (k36:PySem.W.keepIn K (.ref f36)=true)
  (a37:PySem.W.nsIn K mainGlobals "_law_behind" = some (some (.ref f37))) (l37:K.lookup f37=some ⟨oc37,od37,.func (PySem.W.fnOf "_law_behind" "_law_behind" (aO eQ) (aN eQ) (av eQ) .none kV37 dc37 pm37 an37 cd37 ct37),sl37⟩) (c37:PySem.W.codeIn K cd37 "_law_behind" = true) (k37:PySem.W.keepIn K (.ref f37)=true)
  (a38:PySem.W.nsIn K mainGlobals "_law_leads" = some (some (.ref f38))) (l38:K.lookup f38=some ⟨oc38,od38,.func (PySem.W.fnOf "_law_leads" "_law_leads" (aO ft) (aN ft) (av ft) .none kV38 dc38 pm38 an38 cd38 ct38),sl38⟩) (c38:PySem.W.codeIn K cd38 "_law_leads" = true) (k38:PySem.W.keepIn K (.ref f38)=true)
  (a39:PySem.W.nsIn K mainGlobals "_law_covers" = some (some (.ref f39))) (l39:K.lookup f39=some ⟨oc39,od39,.func (PySem.W.fnOf "_law_covers" "_law_covers" (aO eR) (aN eR) (av eR) .none kV39 dc39 pm39 an39 cd39 ct39),sl39⟩) (c39:PySem.W.codeIn K cd39 "_law_covers" = true) (k39:PySem.W.keepIn K (.ref f39)=true)
  (a40:PySem.W.nsIn K mainGlobals "_law_opened" = some (some (.ref f40))) (l40:K.lookup f40=some ⟨oc40,od40,.func (PySem.W.fnOf "_law_opened" "_law_opened" (aO eV) (aN eV) (av eV) .none kV40 dc40 pm40 an40 cd40 ct40),sl40⟩) (c40:PySem.W.codeIn K cd40 "_law_opened" = true) (k40:PySem.W.keepIn K (.ref f40)=true)
  (a41:PySem.W.nsIn K mainGlobals "_law_made" = some (some (.ref f41))) (l41:K.lookup f41=some ⟨oc41,od41,.func (PySem.W.fnOf "_law_made" "_law_made" (aO fT) (aN fT) (av fT) .none kV41 dc41 pm41 an41 cd41 ct41),sl41⟩) (c41:PySem.W.codeIn K cd41 "_law_made" = true) (k41:PySem.W.keepIn K (.ref f41)=true)
  (a42:PySem.W.nsIn K mainGlobals "_law_wide_plan" = some (some (.ref f42))) (l42:K.lookup f42=some ⟨oc42,od42,.func (PySem.W.fnOf "_law_wide_plan" "_law_wide_plan" (aO di) (aN di) (av di) .none kV42 dc42 pm42 an42 cd42 ct42),sl42⟩) (c42:PySem.W.codeIn K cd42 "_law_wide_plan" = true) (k42:PySem.W.keepIn K (.ref f42)=true)
  (a43:PySem.W.nsIn K mainGlobals "law" = some (some (.ref f43))) (l43:K.lookup f43=some ⟨oc43,od43,.func (PySem.W.fnOf "law" "law" (aO iQ) (aN iQ) (av iQ) .none kV43 dc43 pm43 an43 cd43 ct43),sl43⟩) (c43:PySem.W.codeIn K cd43 "law" = true) (k43:PySem.W.keepIn K (.ref f43)=true)
  (z_len:PySem.W.nsIn K mainGlobals "len" = some none)
  (z_zip:PySem.W.nsIn K mainGlobals "zip" = some none)
  (z_tuple:PySem.W.nsIn K mainGlobals "tuple" = some none)
  (z_sorted:PySem.W.nsIn K mainGlobals "sorted" = some none)
  (z_set:PySem.W.nsIn K mainGlobals "set" = some none)
  (z_dict:PySem.W.nsIn K mainGlobals "dict" = some none)
  (z_min:PySem.W.nsIn K mainGlobals "min" = some none)
  (z_max:PySem.W.nsIn K mainGlobals "max" = some none)
  (z_range:PySem.W.nsIn K mainGlobals "range" = some none)
  (z_list:PySem.W.nsIn K mainGlobals "list" = some none)
  (z_int:PySem.W.nsIn K mainGlobals "int" = some none)
  (z_all:PySem.W.nsIn K mainGlobals "all" = some none)
  (gA:PySem.W.nsIn K mainGlobals "ALL" = some (some (.ref aA))) (lA:K.lookup aA=some ⟨.type "tuple",dcA,.seq #[.none,.none] nA,slA⟩)
  (gE:PySem.W.nsIn K mainGlobals "END_PARTS" = some (some (.ref aE))) (lE:K.lookup aE=some ⟨.type "dict",none,.dict #[⟨hsE0,.str "stop" tkE0,.ref s0⟩,⟨hsE1,.str "go" tkE1,.ref s1⟩,⟨hsE2,.str "less" tkE2,.ref s2⟩,⟨hsE3,.str "is" tkE3,.ref s3⟩] epE,#[]⟩) (qE0:K.lookup s0=some ⟨.type "tuple",dcE0,.seq #[] nnE0,slE0⟩) (qE1:K.lookup s1=some ⟨.type "tuple",dcE1,.seq #[.str "piece" ttE1_0] nnE1,slE1⟩) (qE2:K.lookup s2=some ⟨.type "tuple",dcE2,.seq #[.str "name" ttE2_0,.str "number" ttE2_1,.str "piece" ttE2_2,.str "piece" ttE2_3] nnE2,slE2⟩) (qE3:K.lookup s3=some ⟨.type "tuple",dcE3,.seq #[.str "name" ttE3_0,.str "number" ttE3_1,.str "piece" ttE3_2,.str "piece" ttE3_3] nnE3,slE3⟩)
  (gD:PySem.W.nsIn K mainGlobals "DEED_PARTS" = some (some (.ref aD))) (lD:K.lookup aD=some ⟨.type "dict",none,.dict #[⟨hsD0,.str "put" tkD0,.ref d0⟩,⟨hsD1,.str "copy" tkD1,.ref d1⟩,⟨hsD2,.str "add" tkD2,.ref d2⟩,⟨hsD3,.str "read" tkD3,.ref d3⟩,⟨hsD4,.str "tell" tkD4,.ref d4⟩] epD,#[]⟩) (qD0:K.lookup d0=some ⟨.type "tuple",dcD0,.seq #[.str "name" ttD0_0,.str "number" ttD0_1] nnD0,slD0⟩) (qD1:K.lookup d1=some ⟨.type "tuple",dcD1,.seq #[.str "name" ttD1_0,.str "name" ttD1_1] nnD1,slD1⟩) (qD2:K.lookup d2=some ⟨.type "tuple",dcD2,.seq #[.str "name" ttD2_0,.str "number" ttD2_1] nnD2,slD2⟩) (qD3:K.lookup d3=some ⟨.type "tuple",dcD3,.seq #[.str "name" ttD3_0] nnD3,slD3⟩) (qD4:K.lookup d4=some ⟨.type "tuple",dcD4,.seq #[.str "name" ttD4_0] nnD4,slD4⟩) :
  ∃ fd:FuncData,(∀ (s:Shared) (v:Value),BindsTo s fd ⟨[v],[]⟩ [("script",v)])/\∀ base:Heap,K.In base->base.Ns mainGlobals mg->bD l.prog w K mg base bX 10 fa fd ["script"] (o7 K):=by
 have e:=hfa.symm.trans (PySem.W.mg_of X G a43)
 cases e
 have Z:Bl mg:=⟨PySem.W.mg_none_of X G z_len,PySem.W.mg_none_of X G z_zip,PySem.W.mg_none_of X G z_tuple,PySem.W.mg_none_of X G z_sorted,PySem.W.mg_none_of X G z_set,PySem.W.mg_none_of X G z_dict,PySem.W.mg_none_of X G z_min,PySem.W.mg_none_of X G z_max,PySem.W.mg_none_of X G z_range,PySem.W.mg_none_of X G z_list,PySem.W.mg_none_of X G z_int,PySem.W.mg_none_of X G z_all⟩
 have GA:gQ K mg aA:=⟨PySem.W.mg_of X G gA,_,_,_,lA⟩
 have GE:qd K mg aE s0 s1 s2 s3:=⟨⟨PySem.W.mg_of X G gE,_,_,lE,(.cons rfl rfl (.cons rfl rfl (.cons rfl rfl (.cons rfl rfl .nil))))⟩,⟨_,_,_,qE0,rfl,rfl,(by show 0<=sizeLine;decide),.nil⟩,⟨_,_,_,qE1,rfl,rfl,(by show 1<=sizeLine;decide),(.cons ⟨_,rfl⟩ .nil)⟩,⟨_,_,_,qE2,rfl,rfl,(by show 4<=sizeLine;decide),(.cons ⟨_,rfl⟩ (.cons ⟨_,rfl⟩ (.cons ⟨_,rfl⟩ (.cons ⟨_,rfl⟩ .nil))))⟩,⟨_,_,_,qE3,rfl,rfl,(by show 4<=sizeLine;decide),(.cons ⟨_,rfl⟩ (.cons ⟨_,rfl⟩ (.cons ⟨_,rfl⟩ (.cons ⟨_,rfl⟩ .nil))))⟩⟩
 have GD:o9 K mg aD d0 d1 d2 d3 d4:=⟨⟨PySem.W.mg_of X G gD,_,_,lD,(.cons rfl rfl (.cons rfl rfl (.cons rfl rfl (.cons rfl rfl (.cons rfl rfl .nil)))))⟩,⟨_,_,_,qD0,rfl,rfl,(by show 2<=sizeLine;decide),(.cons ⟨_,rfl⟩ (.cons ⟨_,rfl⟩ .nil))⟩,⟨_,_,_,qD1,rfl,rfl,(by show 2<=sizeLine;decide),(.cons ⟨_,rfl⟩ (.cons ⟨_,rfl⟩ .nil))⟩,⟨_,_,_,qD2,rfl,rfl,(by show 2<=sizeLine;decide),(.cons ⟨_,rfl⟩ (.cons ⟨_,rfl⟩ .nil))⟩,⟨_,_,_,qD3,rfl,rfl,(by show 1<=sizeLine;decide),(.cons ⟨_,rfl⟩ .nil)⟩,⟨_,_,_,qD4,rfl,rfl,(by show 1<=sizeLine;decide),(.cons ⟨_,rfl⟩ .nil)⟩⟩
 have F0:=bc (st:=df) l0 c0 k0
 have b0:=F0.binds (ps:=["thing", "kinds", "wanted"]) fun _ _ _ _ _ _ us hl=>match us,hl with | [_,_,_],_=>rfl
 have F1:=bc (st:=gG) l1 c1 k1
 have b1:=F1.binds (ps:=["end"]) fun _ _ _ _ _ _ us hl=>match us,hl with | [_],_=>rfl
 have F2:=bc (st:=fK) l2 c2 k2
 have b2:=F2.binds (ps:=["plan"]) fun _ _ _ _ _ _ us hl=>match us,hl with | [_],_=>rfl
 have F3:=bc (st:=gH) l3 c3 k3
 have b3:=F3.binds (ps:=["number", "stretch"]) fun _ _ _ _ _ _ us hl=>match us,hl with | [_,_],_=>rfl
 have F4:=bc (st:=eI) l4 c4 k4
 have b4:=F4.binds (ps:=["stretch", "number"]) fun _ _ _ _ _ _ us hl=>match us,hl with | [_,_],_=>rfl
 have F5:=bc (st:=fh) l5 c5 k5
 have b5:=F5.binds (ps:=["stretch", "number"]) fun _ _ _ _ _ _ us hl=>match us,hl with | [_,_],_=>rfl
 have F6:=bc (st:=gI) l6 c6 k6
 have b6:=F6.binds (ps:=["stretch", "number"]) fun _ _ _ _ _ _ us hl=>match us,hl with | [_,_],_=>rfl
 have F7:=bc (st:=dQ) l7 c7 k7
 have b7:=F7.binds (ps:=["stretch", "number"]) fun _ _ _ _ _ _ us hl=>match us,hl with | [_,_],_=>rfl
 have F8:=bc (st:=gJ) l8 c8 k8
 have b8:=F8.binds (ps:=["stretch", "word", "number", "side"]) fun _ _ _ _ _ _ us hl=>match us,hl with | [_,_,_,_],_=>rfl
 have F9:=bc (st:=fi) l9 c9 k9
 have b9:=F9.binds (ps:=["one", "other"]) fun _ _ _ _ _ _ us hl=>match us,hl with | [_,_],_=>rfl
 have F10:=bc (st:=fL) l10 c10 k10
 have b10:=F10.binds (ps:=["stretches"]) fun _ _ _ _ _ _ us hl=>match us,hl with | [_],_=>rfl
 have F11:=bc (st:=iT) l11 c11 k11
 have b11:=F11.binds (ps:=["facts", "name"]) fun _ _ _ _ _ _ us hl=>match us,hl with | [_,_],_=>rfl
 have F12:=bc (st:=eJ) l12 c12 k12
 have b12:=F12.binds (ps:=["facts", "name", "stretch"]) fun _ _ _ _ _ _ us hl=>match us,hl with | [_,_,_],_=>rfl
 have F13:=bc (st:=ib) l13 c13 k13
 have b13:=F13.binds (ps:=["facts", "others"]) fun _ _ _ _ _ _ us hl=>match us,hl with | [_,_],_=>rfl
 have F14:=bc (st:=iU) l14 c14 k14
 have b14:=F14.binds (ps:=["stretch", "number"]) fun _ _ _ _ _ _ us hl=>match us,hl with | [_,_],_=>rfl
 have F15:=bc (st:=cS) l15 c15 k15
 have b15:=F15.binds (ps:=["stretches", "deed"]) fun _ _ _ _ _ _ us hl=>match us,hl with | [_,_],_=>rfl
 have F16:=bc (st:=ic) l16 c16 k16
 have b16:=F16.binds (ps:=["facts", "deeds"]) fun _ _ _ _ _ _ us hl=>match us,hl with | [_,_],_=>rfl
 have F17:=bc (st:=dE) l17 c17 k17
 have b17:=F17.binds (ps:=["facts", "end"]) fun _ _ _ _ _ _ us hl=>match us,hl with | [_,_],_=>rfl
 have F18:=bc (st:=iV) l18 c18 k18
 have b18:=F18.binds (ps:=["facts", "end"]) fun _ _ _ _ _ _ us hl=>match us,hl with | [_,_],_=>rfl
 have F19:=bc (st:=iW) l19 c19 k19
 have b19:=F19.binds (ps:=["plan"]) fun _ _ _ _ _ _ us hl=>match us,hl with | [_],_=>rfl
 have F20:=bc (st:=ie) l20 c20 k20
 have b20:=F20.binds (ps:=["lead", "table"]) fun _ _ _ _ _ _ us hl=>match us,hl with | [_,_],_=>rfl
 have F21:=bc (st:=eM) l21 c21 k21
 have b21:=F21.binds (ps:=["entry", "piece"]) fun _ _ _ _ _ _ us hl=>match us,hl with | [_,_],_=>rfl
 have F22:=bc (st:=ig) l22 c22 k22
 have b22:=F22.binds (ps:=["stretch", "other"]) fun _ _ _ _ _ _ us hl=>match us,hl with | [_,_],_=>rfl
 have F23:=bc (st:=gK) l23 c23 k23
 have b23:=F23.binds (ps:=["entry", "facts"]) fun _ _ _ _ _ _ us hl=>match us,hl with | [_,_],_=>rfl
 have F24:=bc (st:=fM) l24 c24 k24
 have b24:=F24.binds (ps:=["plan"]) fun _ _ _ _ _ _ us hl=>match us,hl with | [_],_=>rfl
 have F25:=bc (st:=gM) l25 c25 k25
 have b25:=F25.binds (ps:=["script", "k"]) fun _ _ _ _ _ _ us hl=>match us,hl with | [_,_],_=>rfl
 have F26:=bc (st:=fN) l26 c26 k26
 have b26:=F26.binds (ps:=["bag", "many"]) fun _ _ _ _ _ _ us hl=>match us,hl with | [_,_],_=>rfl
 have F27:=bc (st:=fk) l27 c27 k27
 have b27:=F27.binds (ps:=["bag"]) fun _ _ _ _ _ _ us hl=>match us,hl with | [_],_=>rfl
 have F28:=bc (st:=eN) l28 c28 k28
 have b28:=F28.binds (ps:=["bag"]) fun _ _ _ _ _ _ us hl=>match us,hl with | [_],_=>rfl
 have F29:=bc (st:=fO) l29 c29 k29
 have b29:=F29.binds (ps:=["bag", "names"]) fun _ _ _ _ _ _ us hl=>match us,hl with | [_,_],_=>rfl
 have F30:=bc (st:=gN) l30 c30 k30
 have b30:=F30.binds (ps:=["bag", "names", "count"]) fun _ _ _ _ _ _ us hl=>match us,hl with | [_,_,_],_=>rfl
 have F31:=bc (st:=fP) l31 c31 k31
 have b31:=F31.binds (ps:=["bag", "count", "most"]) fun _ _ _ _ _ _ us hl=>match us,hl with | [_,_,_],_=>rfl
 have F32:=bc (st:=fq) l32 c32 k32
 have b32:=F32.binds (ps:=["bag", "most"]) fun _ _ _ _ _ _ us hl=>match us,hl with | [_,_],_=>rfl
 have F33:=bc (st:=dh) l33 c33 k33
 have b33:=F33.binds (ps:=["plan"]) fun _ _ _ _ _ _ us hl=>match us,hl with | [_],_=>rfl
 have F34:=bc (st:=fQ) l34 c34 k34
 have b34:=F34.binds (ps:=["stretch", "word", "number", "side"]) fun _ _ _ _ _ _ us hl=>match us,hl with | [_,_,_,_],_=>rfl
 have F35:=bc (st:=fR) l35 c35 k35
 have b35:=F35.binds (ps:=["facts", "name", "stretch"]) fun _ _ _ _ _ _ us hl=>match us,hl with | [_,_,_],_=>rfl
 have F36:=bc (st:=fS) l36 c36 k36
 have b36:=F36.binds (ps:=["facts"]) fun _ _ _ _ _ _ us hl=>match us,hl with | [_],_=>rfl
 have F37:=bc (st:=eQ) l37 c37 k37
 have b37:=F37.binds (ps:=["facts", "deeds"]) fun _ _ _ _ _ _ us hl=>match us,hl with | [_,_],_=>rfl
 have F38:=bc (st:=ft) l38 c38 k38
 have b38:=F38.binds (ps:=["facts", "end"]) fun _ _ _ _ _ _ us hl=>match us,hl with | [_,_],_=>rfl
 have F39:=bc (st:=eR) l39 c39 k39
 have b39:=F39.binds (ps:=["one", "other"]) fun _ _ _ _ _ _ us hl=>match us,hl with | [_,_],_=>rfl
 have F40:=bc (st:=eV) l40 c40 k40
 have b40:=F40.binds (ps:=["one", "other"]) fun _ _ _ _ _ _ us hl=>match us,hl with | [_,_],_=>rfl
 have F41:=bc (st:=fT) l41 c41 k41
 have b41:=F41.binds (ps:=["plan"]) fun _ _ _ _ _ _ us hl=>match us,hl with | [_],_=>rfl
 have F42:=bc (st:=di) l42 c42 k42
 have b42:=F42.binds (ps:=["bag", "count"]) fun _ _ _ _ _ _ us hl=>match us,hl with | [_,_],_=>rfl
 have F43:=bc (st:=iQ) l43 c43 k43
 refine⟨PySem.W.fnOf "law" "law" (aO iQ) (aN iQ) (av iQ) .none kV43 dc43 pm43 an43 cd43 ct43,fun s v=>.of_eq rfl,fun base _ _=>?_⟩
 have O_parts_of_kind:Own l.prog w K mg base "parts_of_kind" 1 ["thing", "kinds", "wanted"] (lB K):=⟨⟨_,_,mL F0 Z ,PySem.W.mg_of X G a0,k0,b0⟩⟩
 have O_ways_on:Own l.prog w K mg base "ways_on" 3 ["end"] m7:=⟨⟨_,_,tE F1 Z GE O_parts_of_kind,PySem.W.mg_of X G a1,k1,b1⟩⟩
 have O_names_of:Own l.prog w K mg base "names_of" 3 ["plan"] kG:=⟨⟨_,_,qW F2 Z GD GE O_parts_of_kind,PySem.W.mg_of X G a2,k2,b2⟩⟩
 have O_lies_in:Own l.prog w K mg base "lies_in" 1 ["number", "stretch"] (nR K):=⟨⟨_,_,tF F3 Z ,PySem.W.mg_of X G a3,k3,b3⟩⟩
 have O_part_below:Own l.prog w K mg base "part_below" 1 ["stretch", "number"] (iI K gf):=⟨⟨_,_,oW F4 Z ,PySem.W.mg_of X G a4,k4,b4⟩⟩
 have O_part_from:Own l.prog w K mg base "part_from" 1 ["stretch", "number"] (iI K iq):=⟨⟨_,_,qF F5 Z ,PySem.W.mg_of X G a5,k5,b5⟩⟩
 have O_part_at:Own l.prog w K mg base "part_at" 2 ["stretch", "number"] (iI K j7):=⟨⟨_,_,tG F6 Z O_lies_in,PySem.W.mg_of X G a6,k6,b6⟩⟩
 have O_part_beside:Own l.prog w K mg base "part_beside" 1 ["stretch", "number"] (iI K i9):=⟨⟨_,_,n4 F7 Z ,PySem.W.mg_of X G a7,k7,b7⟩⟩
 have O_part_of:Own l.prog w K mg base "part_of" 3 ["stretch", "word", "number", "side"] (nS K):=⟨⟨_,_,tH F8 Z O_part_below O_part_from O_part_at O_part_beside,PySem.W.mg_of X G a8,k8,b8⟩⟩
 have O_is_within:Own l.prog w K mg base "is_within" 1 ["one", "other"] (jr K):=⟨⟨_,_,qG F9 Z ,PySem.W.mg_of X G a9,k9,b9⟩⟩
 have O_facts_of:Own l.prog w K mg base "facts_of" 1 ["stretches"] (iE aA):=⟨⟨_,_,qX F10 Z GA ,PySem.W.mg_of X G a10,k10,b10⟩⟩
 have O_known:Own l.prog w K mg base "known" 1 ["facts", "name"] (nP aA):=⟨⟨_,_,wx F11 Z GA ,PySem.W.mg_of X G a11,k11,b11⟩⟩
 have O_with_known:Own l.prog w K mg base "with_known" 2 ["facts", "name", "stretch"] (jA aA):=⟨⟨_,_,oX F12 Z GA O_facts_of,PySem.W.mg_of X G a12,k12,b12⟩⟩
 have O_covers:Own l.prog w K mg base "covers" 2 ["facts", "others"] mz:=⟨⟨_,_,uT F13 Z GA O_is_within,PySem.W.mg_of X G a13,k13,b13⟩⟩
 have O_moved:Own l.prog w K mg base "moved" 1 ["stretch", "number"] (nM K):=⟨⟨_,_,wy F14 Z ,PySem.W.mg_of X G a14,k14,b14⟩⟩
 have O_stretch_behind:Own l.prog w K mg base "stretch_behind" 2 ["stretches", "deed"] (j1 aA):=⟨⟨_,_,lM F15 Z GA O_moved,PySem.W.mg_of X G a15,k15,b15⟩⟩
 have O_behind:Own l.prog w K mg base "behind" 3 ["facts", "deeds"] kL:=⟨⟨_,_,uU F16 Z GA O_stretch_behind O_facts_of,PySem.W.mg_of X G a16,k16,b16⟩⟩
 have O_known_beyond:Own l.prog w K mg base "known_beyond" 4 ["facts", "end"] (mB aA):=⟨⟨_,_,nz F17 Z GA O_ways_on O_known O_part_of O_with_known,PySem.W.mg_of X G a17,k17,b17⟩⟩
 have O_leads:Own l.prog w K mg base "leads" 5 ["facts", "end"] (nT aA):=⟨⟨_,_,wz F18 Z O_known_beyond O_ways_on,PySem.W.mg_of X G a18,k18,b18⟩⟩
 have O_start:Own l.prog w K mg base "start" 4 ["plan"] nU:=⟨⟨_,_,wA F19 Z O_names_of,PySem.W.mg_of X G a19,k19,b19⟩⟩
 have O_is_met:Own l.prog w K mg base "is_met" 3 ["lead", "table"] nW:=⟨⟨_,_,uV F20 Z O_covers,PySem.W.mg_of X G a20,k20,b20⟩⟩
 have O_leads_from:Own l.prog w K mg base "leads_from" 6 ["entry", "piece"] jB:=⟨⟨_,_,oY F21 Z O_leads O_behind,PySem.W.mg_of X G a21,k21,b21⟩⟩
 have O_opened:Own l.prog w K mg base "opened" 2 ["stretch", "other"] (mG K):=⟨⟨_,_,uW F22 Z O_is_within,PySem.W.mg_of X G a22,k22,b22⟩⟩
 have O_widened:Own l.prog w K mg base "widened" 3 ["entry", "facts"] kM:=⟨⟨_,_,tI F23 Z GA O_facts_of O_opened,PySem.W.mg_of X G a23,k23,b23⟩⟩
 have O_table_of:Own l.prog w K mg base "table_of" 8 ["plan"] mH:=⟨⟨_,_,qY F24 Z O_start O_leads_from O_is_met O_widened,PySem.W.mg_of X G a24,k24,b24⟩⟩
 have O_law_bag:Own l.prog w K mg base "_law_bag" 1 ["script", "k"] (sH K):=⟨⟨_,_,tJ F25 Z ,PySem.W.mg_of X G a25,k25,b25⟩⟩
 have O_law_take:Own l.prog w K mg base "_law_take" 1 ["bag", "many"] gc:=⟨⟨_,_,qZ F26 Z ,PySem.W.mg_of X G a26,k26,b26⟩⟩
 have O_law_names:Own l.prog w K mg base "_law_names" 2 ["bag"] nI:=⟨⟨_,_,qH F27 Z O_law_take,PySem.W.mg_of X G a27,k27,b27⟩⟩
 have O_law_number:Own l.prog w K mg base "_law_number" 2 ["bag"] jV:=⟨⟨_,_,oZ F28 Z O_law_take,PySem.W.mg_of X G a28,k28,b28⟩⟩
 have O_law_deed:Own l.prog w K mg base "_law_deed" 3 ["bag", "names"] mW:=⟨⟨_,_,q9 F29 Z O_law_take O_law_number,PySem.W.mg_of X G a29,k29,b29⟩⟩
 have O_law_end:Own l.prog w K mg base "_law_end" 3 ["bag", "names", "count"] mX:=⟨⟨_,_,tK F30 Z O_law_take O_law_number,PySem.W.mg_of X G a30,k30,b30⟩⟩
 have O_law_plan:Own l.prog w K mg base "_law_plan" 4 ["bag", "count", "most"] pY:=⟨⟨_,_,rh F31 Z O_law_take O_law_names O_law_deed O_law_end,PySem.W.mg_of X G a31,k31,b31⟩⟩
 have O_law_count:Own l.prog w K mg base "_law_count" 2 ["bag", "most"] nJ:=⟨⟨_,_,qI F32 Z O_law_take,PySem.W.mg_of X G a32,k32,b32⟩⟩
 have O_law_all_names:Own l.prog w K mg base "_law_all_names" 1 ["plan"] qq:=⟨⟨_,_,mM F33 Z ,PySem.W.mg_of X G a33,k33,b33⟩⟩
 have O_law_part:Own l.prog w K mg base "_law_part" 1 ["stretch", "word", "number", "side"] nV:=⟨⟨_,_,rl F34 Z ,PySem.W.mg_of X G a34,k34,b34⟩⟩
 have O_law_with:Own l.prog w K mg base "_law_with" 1 ["facts", "name", "stretch"] lJ:=⟨⟨_,_,rm F35 Z ,PySem.W.mg_of X G a35,k35,b35⟩⟩
 have O_law_told:Own l.prog w K mg base "_law_told" 1 ["facts"] nO:=⟨⟨_,_,rn F36 Z ,PySem.W.mg_of X G a36,k36,b36⟩⟩
 have O_law_behind:Own l.prog w K mg base "_law_behind" 2 ["facts", "deeds"] nY:=⟨⟨_,_,o1 F37 Z O_law_with,PySem.W.mg_of X G a37,k37,b37⟩⟩
 have O_law_leads:Own l.prog w K mg base "_law_leads" 3 ["facts", "end"] kQ:=⟨⟨_,_,qJ F38 Z O_law_part O_law_with,PySem.W.mg_of X G a38,k38,b38⟩⟩
 have O_law_covers:Own l.prog w K mg base "_law_covers" 1 ["one", "other"] kO:=⟨⟨_,_,o2 F39 Z ,PySem.W.mg_of X G a39,k39,b39⟩⟩
 have O_law_opened:Own l.prog w K mg base "_law_opened" 1 ["one", "other"] kP:=⟨⟨_,_,o3 F40 Z ,PySem.W.mg_of X G a40,k40,b40⟩⟩
 have O_law_made:Own l.prog w K mg base "_law_made" 6 ["plan"] nZ:=⟨⟨_,_,rp F41 Z O_law_all_names O_law_leads O_law_behind O_law_covers O_law_opened O_law_told,PySem.W.mg_of X G a41,k41,b41⟩⟩
 have O_law_wide_plan:Own l.prog w K mg base "_law_wide_plan" 4 ["bag", "count"] mI:=⟨⟨_,_,mN F42 Z O_law_take O_law_deed O_law_end,PySem.W.mg_of X G a42,k42,b42⟩⟩
 exact yY F43 Z O_law_bag O_law_take O_law_plan O_law_count O_law_wide_plan O_law_made O_table_of
theorem walk {l:PySem.W.OpenLaw} {q:Program} {loose:List Str} {XP:(Str->Option Value)->Heap->Prop} {YP:World->Heap->Prop} {d:DefRec} {K:Params->PySem.W.Frag} (hn:l.most=some 63) (hdf:d.params.defaults = [])
  (hY:∀ (w:World) (h:Heap),YP w h->(K w.params).In h)
  (F:∀ (w:World) (mg:Str->Option Value) (fa:Addr) (h:Heap),(K w.params).In h->h.Ns mainGlobals mg->mg d.name=some (.ref fa) ->
   ∃ fd:FuncData,(∀ (s:Shared) (u:Value),BindsTo s fd ⟨[u],[]⟩ [("script",u)])/\∀ base:Heap,(K w.params).In base->base.Ns mainGlobals mg->bD l.prog w (K w.params) mg base bX 10 fa fd ["script"] (o7 (K w.params))) :
  PySem.W.WalkO q loose XP YP l.row.toRowW d [] (fun f vs=>PySem.call f vs) :=
 L2.xk (n:=63) (k:=10) (x := "script") (CX:=fun _=>bX) (sp:=fun w=>o7 (K w.params)) hn (by decide) hdf ⟨rfl,by decide,by decide⟩ hY F (fun _ _ a ns hl _ hS=>⟨a,ns,rfl,hS,hl,fun _=>rfl⟩) fun _ _ _ _ _ z=>z
end My
theorem PySem.W.Fast.tw7134357541240868625:True:=trivial
theorem PySem.W.Fast.tw2384665837366257410:True:=trivial
theorem PySem.W.Fast.tw16915709312127378540:True:=trivial
theorem PySem.W.Fast.tw16321955967082513581:True:=trivial
theorem PySem.W.Fast.tw11284191908879588026:True:=trivial
theorem PySem.W.Fast.tw707950382830435136:True:=trivial
theorem PySem.W.Fast.tw2649938597763543470:True:=trivial
theorem PySem.W.Fast.tw16440577801806861811:True:=trivial
theorem PySem.W.Fast.tw12903149395341763212:True:=trivial
theorem PySem.W.Fast.tw16040403520201993046:True:=trivial
theorem PySem.W.Fast.tw11239579479762957541:True:=trivial
theorem PySem.W.Fast.tw18094726729421881384:True:=trivial
theorem PySem.W.Fast.tw1533503461819830647:True:=trivial
theorem PySem.W.Fast.tw9902035600946673499:True:=trivial
theorem PySem.W.Fast.tw6175489594550798588:True:=trivial
theorem PySem.W.Fast.tw7278362430702078469:True:=trivial
theorem PySem.W.Fast.tw8445050878186273710:True:=trivial
theorem PySem.W.Fast.tw12983093902888264140:True:=trivial
theorem PySem.W.Fast.tw8377919672928527565:True:=trivial
theorem PySem.W.Fast.tw12316609159270500584:True:=trivial
theorem PySem.W.Fast.tw985123542211708584:True:=trivial
theorem PySem.W.Fast.tw13742982540516644476:True:=trivial
theorem PySem.W.Fast.tw9501986698971173411:True:=trivial
theorem PySem.W.Fast.tw15113175188463400067:True:=trivial
theorem PySem.W.Fast.tw18408561357422685406:True:=trivial
theorem PySem.W.Fast.tw13485819480761290588:True:=trivial
theorem PySem.W.Fast.tw4225185084408167029:True:=trivial
theorem PySem.W.Fast.tw2893896766228364046:True:=trivial
theorem PySem.W.Fast.tw11801874168505516961:True:=trivial
theorem PySem.W.Fast.tw3036456739781489206:True:=trivial
theorem PySem.W.Fast.tw4922045527310998919:True:=trivial
theorem PySem.W.Fast.tw13447929421684956739:True:=trivial
theorem PySem.W.Fast.tw3723728294449247158:True:=trivial
theorem PySem.W.Fast.tw15785551451784408881:True:=trivial
theorem PySem.W.Fast.tw11690780565310470268:True:=trivial
theorem PySem.W.Fast.tw5681574685755251567:True:=trivial
theorem PySem.W.Fast.tw13681478965123531372:True:=trivial
theorem PySem.W.Fast.tw13626944077770522250:True:=trivial
theorem PySem.W.Fast.tw11618131757587548966:True:=trivial
theorem PySem.W.Fast.tw7171744288165913893:True:=trivial
theorem PySem.W.Fast.tw16737548899117746131:True:=trivial
theorem PySem.W.Fast.tw18118986756352686887:True:=trivial
theorem PySem.W.Fast.tw3928830676314918975:True:=trivial
theorem PySem.W.Fast.tw7456597781862829310:True:=trivial
theorem PySem.W.Fast.tw9236335603862659952:True:=trivial
theorem PySem.W.Fast.tw16934193934644563580:True:=trivial
theorem PySem.W.Fast.tw1240073002090026883:True:=trivial
theorem PySem.W.Fast.tw4439463844306445620:True:=trivial
theorem PySem.W.Fast.tw7634908044698069352:True:=trivial
theorem PySem.W.Fast.tw10632092341766457783:True:=trivial
theorem PySem.W.Fast.tw1826836935219647374:True:=trivial
theorem PySem.W.Fast.tw14215481185792463399:True:=trivial
theorem PySem.W.Fast.tw17528575074450092173:True:=trivial
theorem PySem.W.Fast.tw4789971872463248580:True:=trivial
theorem PySem.W.Fast.tw4966375523981984417:True:=trivial
theorem PySem.W.Fast.tw865979143529305714:True:=trivial
theorem PySem.W.Fast.tw10222858310931875927:True:=trivial
theorem PySem.W.Fast.tw10480381280830679615:True:=trivial
theorem PySem.W.Fast.tw10679707802731754180:True:=trivial
theorem PySem.W.Fast.tw17751581423448214238:True:=trivial
theorem PySem.W.Fast.tw12042004937720483005:True:=trivial
theorem PySem.W.Fast.tw17636822655799791308:True:=trivial
theorem PySem.W.Fast.tw15629480621117263700:True:=trivial
theorem PySem.W.Fast.tw1739515952117587431:True:=trivial
theorem PySem.W.Fast.tw14008397911829876351:True:=trivial
theorem PySem.W.Fast.tw9460084820416979807:True:=trivial
theorem PySem.W.Fast.tw17667823278756725602:True:=trivial
theorem PySem.W.Fast.tw10776021571540047722:True:=trivial
theorem PySem.W.Fast.tw17562144210747174259:True:=trivial
theorem PySem.W.Fast.tw14150144310982610146:True:=trivial
theorem PySem.W.Fast.tw4825466039316456136:True:=trivial
theorem PySem.W.Fast.tw4428493492989831239:True:=trivial
theorem PySem.W.Fast.tw14394609521666127786:True:=trivial
theorem PySem.W.Fast.tw15145567927029267751:True:=trivial
theorem PySem.W.Fast.tw2301891475035229505:True:=trivial
theorem PySem.W.Fast.tw8917331500448135711:True:=trivial
theorem PySem.W.Fast.tw8194482394223842942:True:=trivial
theorem PySem.W.Fast.tw17681346820127431213:True:=trivial
theorem PySem.W.Fast.tw2746333788811582885:True:=trivial
theorem PySem.W.Fast.tw6793202388270575297:True:=trivial
theorem PySem.W.Fast.tw10803756182410189474:True:=trivial
theorem PySem.W.Fast.tw1612135166500573825:True:=trivial
theorem PySem.W.Fast.tw404458380744129716:True:=trivial
theorem PySem.W.Fast.tw7999073682346765972:True:=trivial
theorem PySem.W.Fast.tw8876294326585035506:True:=trivial
theorem PySem.W.Fast.tw10393274740160441636:True:=trivial
theorem PySem.W.Fast.tw17194045072911842147:True:=trivial
theorem PySem.W.Fast.tw12813735133818212676:True:=trivial
theorem PySem.W.Fast.tw1533497212050609195:True:=trivial
theorem PySem.W.Fast.tw1298353112528888348:True:=trivial
theorem PySem.W.Fast.tw6929057436078573117:True:=trivial
theorem PySem.W.Fast.tw15163774860303021525:True:=trivial
theorem PySem.W.Fast.tw5112436837315908997:True:=trivial
theorem PySem.W.Fast.tw14257218316170092934:True:=trivial
theorem PySem.W.Fast.tw374563287882225841:True:=trivial
theorem PySem.W.Fast.tw13363873316308885612:True:=trivial
theorem PySem.W.Fast.tw11080663465138442762:True:=trivial
theorem PySem.W.Fast.tw12240917349676667361:True:=trivial
theorem PySem.W.Fast.tw2050291918221656329:True:=trivial
theorem PySem.W.Fast.tw7501148915240156817:True:=trivial
theorem PySem.W.Fast.tw7164527490857469687:True:=trivial
theorem PySem.W.Fast.tw2473426982059470456:True:=trivial
theorem PySem.W.Fast.tw13455051575687867940:True:=trivial
theorem PySem.W.Fast.tw14302631739027319924:True:=trivial
theorem PySem.W.Fast.tw10828714452449985703:True:=trivial
theorem PySem.W.Fast.tw10805725133794586414:True:=trivial
open PySem PySem.W PyProof.Rows
set_option maxRecDepth 100000 in
set_option maxHeartbeats 0 in
theorem PySem.Challenge.cw_ledpast_k33_tables_by_hand_holds : PySem.Challenge.rw_ledpast_k33_tables_by_hand.Holds := by
 w_on; o_law; k_head; (case hw => w_witness2)
 k_fill
 refine My.walk (l := PySem.Challenge.rw_ledpast_k33_tables_by_hand) rfl rfl (fun w h Y => PySem.W.kIn_of Y) ?F
 case F =>
  intro w mg fa h KX G hmg
  refine' My.all_mk KX G hmg ?a0 ?l0 ?c0 ?k0 ?a1 ?l1 ?c1 ?k1 ?a2 ?l2 ?c2 ?k2 ?a3 ?l3 ?c3 ?k3 ?a4 ?l4 ?c4 ?k4 ?a5 ?l5 ?c5 ?k5 ?a6 ?l6 ?c6 ?k6 ?a7 ?l7 ?c7 ?k7 ?a8 ?l8 ?c8 ?k8 ?a9 ?l9 ?c9 ?k9 ?a10 ?l10 ?c10 ?k10 ?a11 ?l11 ?c11 ?k11 ?a12 ?l12 ?c12 ?k12 ?a13 ?l13 ?c13 ?k13 ?a14 ?l14 ?c14 ?k14 ?a15 ?l15 ?c15 ?k15 ?a16 ?l16 ?c16 ?k16 ?a17 ?l17 ?c17 ?k17 ?a18 ?l18 ?c18 ?k18 ?a19 ?l19 ?c19 ?k19 ?a20 ?l20 ?c20 ?k20 ?a21 ?l21 ?c21 ?k21 ?a22 ?l22 ?c22 ?k22 ?a23 ?l23 ?c23 ?k23 ?a24 ?l24 ?c24 ?k24 ?a25 ?l25 ?c25 ?k25 ?a26 ?l26 ?c26 ?k26 ?a27 ?l27 ?c27 ?k27 ?a28 ?l28 ?c28 ?k28 ?a29 ?l29 ?c29 ?k29 ?a30 ?l30 ?c30 ?k30 ?a31 ?l31 ?c31 ?k31 ?a32 ?l32 ?c32 ?k32 ?a33 ?l33 ?c33 ?k33 ?a34 ?l34 ?c34 ?k34 ?a35 ?l35 ?c35 ?k35 ?a36 ?l36 ?c36 ?k36 ?a37 ?l37 ?c37 ?k37 ?a38 ?l38 ?c38 ?k38 ?a39 ?l39 ?c39 ?k39 ?a40 ?l40 ?c40 ?k40 ?a41 ?l41 ?c41 ?k41 ?a42 ?l42 ?c42 ?k42 ?a43 ?l43 ?c43 ?k43 ?z_len ?z_zip ?z_tuple ?z_sorted ?z_set ?z_dict ?z_min ?z_max ?z_range ?z_list ?z_int ?z_all ?gA ?lA ?gE ?lE ?qE0 ?qE1 ?qE2 ?qE3 ?gD ?lD ?qD0 ?qD1 ?qD2 ?qD3 ?qD4
  (case gA => k_is)
  (case lA => k_is)
  (case gE => k_is)
  (case lE => k_is)
  (case qE0 => k_is)
  (case qE1 => k_is)
  (case qE2 => k_is)
  (case qE3 => k_is)
  (case gD => k_is)
  (case lD => k_is)
  (case qD0 => k_is)
  (case qD1 => k_is)
  (case qD2 => k_is)
  (case qD3 => k_is)
  (case qD4 => k_is)
  (case a0 => k_is)
  (case l0 => k_is)
  (case c0 => k_is)
  (case k0 => k_is)
  (case a1 => k_is)
  (case l1 => k_is)
  (case c1 => k_is)
  (case k1 => k_is)
  (case a2 => k_is)
  (case l2 => k_is)
  (case c2 => k_is)
  (case k2 => k_is)
  (case a3 => k_is)
  (case l3 => k_is)
  (case c3 => k_is)
  (case k3 => k_is)
  (case a4 => k_is)
  (case l4 => k_is)
  (case c4 => k_is)
  (case k4 => k_is)
  (case a5 => k_is)
  (case l5 => k_is)
  (case c5 => k_is)
  (case k5 => k_is)
  (case a6 => k_is)
  (case l6 => k_is)
  (case c6 => k_is)
  (case k6 => k_is)
  (case a7 => k_is)
  (case l7 => k_is)
  (case c7 => k_is)
  (case k7 => k_is)
  (case a8 => k_is)
  (case l8 => k_is)
  (case c8 => k_is)
  (case k8 => k_is)
  (case a9 => k_is)
  (case l9 => k_is)
  (case c9 => k_is)
  (case k9 => k_is)
  (case a10 => k_is)
  (case l10 => k_is)
  (case c10 => k_is)
  (case k10 => k_is)
  (case a11 => k_is)
  (case l11 => k_is)
  (case c11 => k_is)
  (case k11 => k_is)
  (case a12 => k_is)
  (case l12 => k_is)
  (case c12 => k_is)
  (case k12 => k_is)
  (case a13 => k_is)
  (case l13 => k_is)
  (case c13 => k_is)
  (case k13 => k_is)
  (case a14 => k_is)
  (case l14 => k_is)
  (case c14 => k_is)
  (case k14 => k_is)
  (case a15 => k_is)
  (case l15 => k_is)
  (case c15 => k_is)
  (case k15 => k_is)
  (case a16 => k_is)
  (case l16 => k_is)
  (case c16 => k_is)
  (case k16 => k_is)
  (case a17 => k_is)
  (case l17 => k_is)
  (case c17 => k_is)
  (case k17 => k_is)
  (case a18 => k_is)
  (case l18 => k_is)
  (case c18 => k_is)
  (case k18 => k_is)
  (case a19 => k_is)
  (case l19 => k_is)
  (case c19 => k_is)
  (case k19 => k_is)
  (case a20 => k_is)
  (case l20 => k_is)
  (case c20 => k_is)
  (case k20 => k_is)
  (case a21 => k_is)
  (case l21 => k_is)
  (case c21 => k_is)
  (case k21 => k_is)
  (case a22 => k_is)
  (case l22 => k_is)
  (case c22 => k_is)
  (case k22 => k_is)
  (case a23 => k_is)
  (case l23 => k_is)
  (case c23 => k_is)
  (case k23 => k_is)
  (case a24 => k_is)
  (case l24 => k_is)
  (case c24 => k_is)
  (case k24 => k_is)
  (case a25 => k_is)
  (case l25 => k_is)
  (case c25 => k_is)
  (case k25 => k_is)
  (case a26 => k_is)
  (case l26 => k_is)
  (case c26 => k_is)
  (case k26 => k_is)
  (case a27 => k_is)
  (case l27 => k_is)
  (case c27 => k_is)
  (case k27 => k_is)
  (case a28 => k_is)
  (case l28 => k_is)
  (case c28 => k_is)
  (case k28 => k_is)
  (case a29 => k_is)
  (case l29 => k_is)
  (case c29 => k_is)
  (case k29 => k_is)
  (case a30 => k_is)
  (case l30 => k_is)
  (case c30 => k_is)
  (case k30 => k_is)
  (case a31 => k_is)
  (case l31 => k_is)
  (case c31 => k_is)
  (case k31 => k_is)
  (case a32 => k_is)
  (case l32 => k_is)
  (case c32 => k_is)
  (case k32 => k_is)
  (case a33 => k_is)
  (case l33 => k_is)
  (case c33 => k_is)
  (case k33 => k_is)
  (case a34 => k_is)
  (case l34 => k_is)
  (case c34 => k_is)
  (case k34 => k_is)
  (case a35 => k_is)
  (case l35 => k_is)
  (case c35 => k_is)
  (case k35 => k_is)
  (case a36 => k_is)
  (case l36 => k_is)
  (case c36 => k_is)
  (case k36 => k_is)
  (case a37 => k_is)
  (case l37 => k_is)
  (case c37 => k_is)
  (case k37 => k_is)
  (case a38 => k_is)
  (case l38 => k_is)
  (case c38 => k_is)
  (case k38 => k_is)
  (case a39 => k_is)
  (case l39 => k_is)
  (case c39 => k_is)
  (case k39 => k_is)
  (case a40 => k_is)
  (case l40 => k_is)
  (case c40 => k_is)
  (case k40 => k_is)
  (case a41 => k_is)
  (case l41 => k_is)
  (case c41 => k_is)
  (case k41 => k_is)
  (case a42 => k_is)
  (case l42 => k_is)
  (case c42 => k_is)
  (case k42 => k_is)
  (case a43 => k_is)
  (case l43 => k_is)
  (case c43 => k_is)
  (case k43 => k_is)
  (case z_len => k_is)
  (case z_zip => k_is)
  (case z_tuple => k_is)
  (case z_sorted => k_is)
  (case z_set => k_is)
  (case z_dict => k_is)
  (case z_min => k_is)
  (case z_max => k_is)
  (case z_range => k_is)
  (case z_list => k_is)
  (case z_int => k_is)
  (case z_all => k_is)
