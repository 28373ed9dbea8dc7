import PyProof.Rows.All
import Wide.All
import OpenK.AllK
import Wide.FinOn
import Lean
import PyProof.EqAt
import PyProof.EqKinds
import PyProof.TupleCall
import PyProof.NeData
import Wide.Seal
import Wide.OfPy
import KE.KSetDisp
import KE.KIntText
import PyProof.StrLawsIn
import PyProof.StrLawsIdx
import PyProof.ListMulRoad
import PyProof.DictCompW
import PyProof.EnumMake
import PyProof.Draws
import PyProof.Rows.CountFlat
import PySem.Challenge.RW_ledpast_k14_whole_rounds_and_growth
set_option maxHeartbeats 8000000
set_option Elab.async false
set_option linter.all false
set_option maxRecDepth 100000
namespace L2
open PySem PySem.Spec PyProof.Rows
abbrev Key:=Sum Int Str
def fQ:Key->Value->Bool
 | .inl k,v=>Value.isInt k v
 | .inr x,v=>Value.isStrOf x v
def Ct (w:World):Key->Int
 | .inl k=>hashInt k
 | .inr x=>hashStr w x
theorem b5:∀ {k:Key} {v:Value},fQ k v=true->(∃ i t,k=Sum.inl i/\v=Value.int i t)\/(∃ x t,k=Sum.inr x/\v=Value.str x t)
 | .inl i,v,h=>by
  obtain⟨t,e⟩:=Value.isInt_shape (k:=i) (v:=v) h
  exact .inl ⟨i,t,rfl,e⟩
 | .inr x,v,h=>by
  obtain⟨t,e⟩:=Value.isStrOf_shape (x:=x) (v:=v) h
  exact .inr ⟨x,t,rfl,e⟩
theorem vx (i:Int) (t:Tok):fQ (.inl i) (.int i t)=true:=by simp [fQ,Value.isInt]
theorem vy (x:Str) (t:Tok):fQ (.inr x) (.str x t)=true:=by simp [fQ,Value.isStrOf]
theorem Au (a b:Int):decide ((Sum.inl a:Key)=Sum.inl b)=(a == b):=by
 by_cases e:a=b
 ·subst e;simp
 ·have h:¬ (Sum.inl a:Key)=Sum.inl b:=fun q=>e (Sum.inl.inj q)
  rw [decide_eq_false h]
  exact (beq_eq_false_iff_ne.mpr e).symm
theorem Av (a b:Str):decide ((Sum.inr a:Key)=Sum.inr b)=decide (a=b):=by
 by_cases e:a=b
 ·subst e;simp
 ·have h:¬ (Sum.inr a:Key)=Sum.inr b:=fun q=>e (Sum.inr.inj q)
  rw [decide_eq_false h,decide_eq_false e]
theorem Aw (a:Int) (b:Str):decide ((Sum.inl a:Key)=Sum.inr b)=false:=decide_eq_false (fun q=>nomatch q)
theorem Ax (a:Str) (b:Int):decide ((Sum.inr a:Key)=Sum.inl b)=false:=decide_eq_false (fun q=>nomatch q)
def aG (prog:Program) (w:World):PySem.KeyKind prog w Key where
 is:=fQ
 hash:=Ct w
 inj:=fun v a b ha hb=>by
  rcases b5 ha with ⟨i,t,rfl,rfl⟩ | ⟨x,t,rfl,rfl⟩
  ·rcases b5 hb with ⟨j,u,rfl,e⟩ | ⟨y,u,rfl,e⟩
   ·injection e with e1 _;rw [e1]
   ·exact nomatch e
  ·rcases b5 hb with ⟨j,u,rfl,e⟩ | ⟨y,u,rfl,e⟩
   ·exact nomatch e
   ·injection e with e1 _;rw [e1]
 byValue:=fun k v h=>by
  rcases b5 h with ⟨i,t,rfl,rfl⟩ | ⟨x,t,rfl,rfl⟩ <;> rfl
 pyHash:=fun hv h=>by
  rcases b5 hv with ⟨i,t,rfl,rfl⟩ | ⟨x,t,rfl,rfl⟩
  ·exact wpAny_pyHash_int h
  ·exact wpAny_pyHash_str h
 eqBool:=fun hu hv h=>by
  rcases b5 hu with ⟨i,t,rfl,rfl⟩ | ⟨x,t,rfl,rfl⟩
  ·rcases b5 hv with ⟨j,u,rfl,rfl⟩ | ⟨y,u,rfl,rfl⟩
   ·rw [Au] at h;exact wpAny_eqBool_int h
   ·rw [Aw] at h;exact SeqAt.EqAt.int_str i t y u _ _ _ _ h
  ·rcases b5 hv with ⟨j,u,rfl,rfl⟩ | ⟨y,u,rfl,rfl⟩
   ·rw [Ax] at h;exact SeqAt.EqAt.str_int x t j u _ _ _ _ h
   ·rw [Av] at h;exact wpAny_eqBool_str h
 «strs»:=fun k x t v h=>by
  rcases b5 h with ⟨i,u,rfl,e⟩ | ⟨y,u,rfl,e⟩
  ·exact nomatch e
  ·injection e with e1 _
   subst e1
   cases v <;> rfl
theorem kU (prog:Program) (w:World) (i:Int) (t:Tok):(aG prog w).is (.inl i) (.int i t)=true:=vx i t
theorem kW (prog:Program) (w:World) (x:Str) (t:Tok):(aG prog w).is (.inr x) (.str x t)=true:=vy x t
inductive V where
 | bg | bl (b:Bool) | int (i:Int) | str (x:Str) | gN (b:Array UInt8) | vz (b:UInt64) | ref (a:Addr) | ty (n:String)
 deriving DecidableEq
def RelV:V->Value->Prop
 | .bg,u=>u=Value.none
 | .bl b,u=>u=Value.bool b
 | .int i,u=>∃ t,u=Value.int i t
 | .str x,u=>∃ t,u=Value.str x t
 | .gN b,u=>∃ t,u=Value.bytes b t
 | .vz b,u=>∃ t,u=Value.float b t
 | .ref a,u=>u=Value.ref a
 | .ty n,u=>u=Value.type n
abbrev Vals:List V->List Value->Prop:=Paired RelV
theorem Vals.length {xs:List V} {us:List Value} (r:Vals xs us):xs.length=us.length:=Paired.length r
theorem Vals.get:∀ {xs:List V} {us:List Value} {i:Nat} {x:V},Vals xs us->xs[i]? = some x->∃ u,us[i]? = some u/\RelV x u
 | _,_,_,_,.nil,e=>by simp at e
 | _,_,0,_,.cons r _,e=>by simp at e;subst e;exact⟨_,rfl,r⟩
 | _,_,i+1,x,.cons _ t,e=>by
  obtain⟨u,h1,h2⟩:=Vals.get (i:=i) (x:=x) t (by simpa using e)
  exact⟨u,by simpa using h1,h2⟩
theorem Vals.set {x:V} {u:Value} (r:RelV x u):∀ {xs:List V} {us:List Value} (i:Nat),Vals xs us->Vals (xs.set i x) (us.set i u)
 | _,_,_,.nil=>.nil
 | _,_,0,.cons _ t=>.cons r t
 | _,_,i+1,.cons q t=>.cons q (Vals.set r i t)
theorem Vals.append:∀ {xs ys:List V} {us ws:List Value},Vals xs us->Vals ys ws->Vals (xs++ys) (us++ws)
 | _,_,_,_,.nil,s=>s
 | _,_,_,_,.cons r t,s=>.cons r (Vals.append t s)
theorem Vals.take:∀ {xs:List V} {us:List Value} (n:Nat),Vals xs us->Vals (xs.take n) (us.take n)
 | _,_,0,_=>.nil
 | _,_,_+1,.nil=>.nil
 | _,_,n+1,.cons r t=>.cons r (Vals.take n t)
theorem Vals.drop:∀ {xs:List V} {us:List Value} (n:Nat),Vals xs us->Vals (xs.drop n) (us.drop n)
 | _,_,0,r=>r
 | _,_,_+1,.nil=>.nil
 | _,_,n+1,.cons _ t=>Vals.drop n t
def dX:Option V->Option Value->Prop
 | some v,some u=>RelV v u
 | none,none=>True
 | _,_=>False
def KV {κ : Type}:List (κ × V)->List (κ × Value)->Prop:=Paired fun (p:κ × V) (q:κ × Value)=>p.1=q.1/\RelV p.2 q.2
def kV:Key->V
 | .inl i=>.int i
 | .inr x=>.str x
inductive HO where
 | lst (xs:List V)
 | tup (xs:List V)
 | dK (kvs:List (Key × V)) | dT (kvs:List (List Key × V))
 | set (S:Int->Bool) (n:Nat)
 | ins (C dx:Addr) (fs:List (Str × V))
 | own (x:Addr)
 | xd (fs:List (Str × V))
 | met (f x:Addr)
 | Ay (lo hi:Int)
 | kX (o:Obj) (u:HO)
 | qd (ps:Array Value)
 | ext (φ : Heap->Prop)
abbrev Hp:=Addr->Option HO
def upd (H:Hp) (a:Addr) (o:HO):Hp:=fun b=>if b=a then some o else H b
theorem aa {H:Hp} {a:Addr} {o:HO}:upd H a o a=some o:=by unfold upd;rw [if_pos rfl]
theorem ao {H:Hp} {a b:Addr} {o:HO} (h:b ≠ a):upd H a o b=H b:=by unfold upd;rw [if_neg h]
theorem zt {H:Hp} {a:Addr} {o u:HO}:upd (upd H a o) a u=upd H a u:=by
 funext b;unfold upd;split <;> rfl
theorem bH {H:Hp} {a b:Addr} {o u:HO} (h:H a=some o) (h':H b=some u) (d:o ≠ u):a ≠ b:=by
 intro e;subst e;rw [h] at h';exact d (Option.some.inj h')
theorem aw {H:Hp} {a b:Addr} {o:HO} (h:H a=some o) (h':H b=none):a ≠ b:=by
 intro e;subst e;rw [h] at h';cases h'
section
variable (P:Program) (w:World)
def bC (H:Hp) (h:Heap) (a:Addr):HO->Prop
 | .lst xs=>xs.length<=sizeLine/\∃ (its:List Value) (n:Nat),Vals xs its/\h.get? a=some { cls:=.type "list",data:=.seq its.toArray n }
 | .tup xs=>xs.length<=sizeLine/\∃ its:List Value,Vals xs its/\∃ o,h.get? a=some o/\o.cls=.type "tuple" /\ ∃ n,o.data=.seq its.toArray n/\o.dict=none
 | .dK kvs=>kvs.length<=sizeLine/\(a == sysModules)=false/\∃ vs,KV kvs vs/\h.DictOf (aG P w) a vs
 | .dT kvs=>kvs.length<=sizeLine/\(a == sysModules)=false/\∃ xs:List (List Key × Addr × Value),
   Paired (fun (p:List Key × V) (q:List Key × Addr × Value)=>p.1=q.1/\H q.2.1=some (.tup (p.1.map kV))/\RelV p.2 q.2.2) kvs xs /\
   ∃ o es ep,h.get? a=some o/\o.ExactDict/\o.data=.dict es ep/\es.toList=xs.map (entryOfKey (tupleKind (aG P w)))/\(xs.map (·.1)).Nodup
 | .set S n=>h.SetOf (intKind P w) a S n
 | .ins C dx fs=>H dx=some (.own a)/\fs.length<=1000/\dx ≠ a/\h.get? a=some (PySem.W.instObj C dx) /\
   ∃ mA,h.Ns1 dx mA/\(∀ f,dX (fs.lookup f) (mA f))/\PySem.Within mA (fs.map (·.1))
 | .own _=>∃ o,h.get? a=some o
 | .xd fs=>∃ mA,h.Ns1 a mA/\∀ f,dX (fs.lookup f) (mA f)
 | .Ay lo hi=>∃ t u v,h.get? a=some { cls:=.type "range",data:=.fields #[.int lo t,.int hi u,.int 1 v] }
 | .kX o u=>h.get? a=some o/\bC H h a u
 | .qd ps=>h.get? a=some { cls:=.none,data:=.fields ps }
 | .met f x=>h.get? a=some (PySem.W.methodObj (.ref f) (.ref x))
 | .ext φ=>φ h/\(∃ o,h.get? a=some o)/\∀ h1 h2:Heap,φ h1->(∀ o,h1.get? a=some o->h2.get? a=some o)->φ h2
def cR (H:Hp) (h:Heap):Prop:=∀ a o,H a=some o->bC P w H h a o
end
section
variable {P:Program} {w:World} {H H':Hp} {h h':Heap} {a:Addr} {o:HO}
theorem bC.lt (x:bC P w H h a o):a < h.objs.size:=by
 cases o with
 | lst xs=>obtain⟨_,_,_,_,e⟩:=x;exact Heap.lt_size e
 | tup xs=>obtain⟨_,_,_,p⟩:=x;exact (let ⟨o,e,_⟩:=p;Heap.lt_size e)
 | dK kvs=>obtain⟨_,_,_,_,o,_,_,e,_⟩:=x;exact Heap.lt_size e
 | dT kvs=>obtain⟨_,_,_,_,o,_,_,e,_⟩:=x;exact Heap.lt_size e
 | set S n=>obtain⟨o,_,_,_,e,_⟩:=x;exact Heap.lt_size e
 | ins C dx fs=>obtain⟨_,_,_,e,_⟩:=x;exact Heap.lt_size e
 | own y=>obtain⟨_,e⟩:=x;exact Heap.lt_size e
 | xd fs=>obtain⟨_,⟨_,_,_,e,_⟩,_⟩:=x;exact Heap.lt_size e
 | Ay lo hi=>obtain⟨_,_,_,e⟩:=x;exact Heap.lt_size e
 | kX ob u=>obtain⟨e,_⟩:=x;exact Heap.lt_size e
 | qd ps=>exact Heap.lt_size (show h.get? a=some _ from x)
 | met f y=>exact Heap.lt_size (show h.get? a=some _ from x)
 | ext φ=>obtain⟨_,⟨_,e⟩,_⟩:=x;exact Heap.lt_size e
theorem Paired.xl {α β : Type} {F G:α->β->Prop}:∀ {l₁ : List α} {l₂ : List β},Paired F l₁ l₂->(∀ a b,F a b->G a b)->Paired G l₁ l₂
 | _,_,.nil,_=>.nil
 | _,_,.cons r t,f=>.cons (f _ _ r) (Paired.xl t f)
theorem bC.nB (x:bC P w H h a o) (k:∀ b u,(b=a\/H b=some (.own a))->h.get? b=some u->h'.get? b=some u)
  (ho:∀ b,H b=some (.own a)->H' b=some (.own a)) (ht:∀ b xs,H b=some (.tup xs)->H' b=some (.tup xs)):bC P w H' h' a o:=by
 induction o with
 | lst xs=>obtain⟨z,its,n,r,e⟩:=x;exact⟨z,its,n,r,k _ _ (.inl rfl) e⟩
 | tup xs=>obtain⟨z,its,r,ob,e,c⟩:=x;exact⟨z,its,r,ob,k _ _ (.inl rfl) e,c⟩
 | dK kvs=>obtain⟨z,y,vs,r,ob,es,ep,e,c⟩:=x;exact⟨z,y,vs,r,ob,es,ep,k _ _ (.inl rfl) e,c⟩
 | dT kvs =>
  obtain⟨z,y,xs,r,ob,es,ep,e,c⟩:=x
  exact⟨z,y,xs,Paired.xl r fun p q z=>⟨z.1,ht _ _ z.2.1,z.2.2⟩,ob,es,ep,k _ _ (.inl rfl) e,c⟩
 | set S n=>obtain⟨ob,es,ep,t,e,c⟩:=x;exact⟨ob,es,ep,t,k _ _ (.inl rfl) e,c⟩
 | ins C dx fs =>
  obtain⟨d,z,ne,e,mA,⟨od,es,ep,e2,c⟩,r⟩:=x
  exact⟨ho _ d,z,ne,k _ _ (.inl rfl) e,mA,⟨od,es,ep,k _ _ (.inr d) e2,c⟩,r⟩
 | own y=>obtain⟨ob,e⟩:=x;exact⟨ob,k _ _ (.inl rfl) e⟩
 | xd fs=>obtain⟨mA,⟨od,es,ep,e,c⟩,r⟩:=x;exact⟨mA,⟨od,es,ep,k _ _ (.inl rfl) e,c⟩,r⟩
 | Ay lo hi=>obtain⟨t,u,v,e⟩:=x;exact⟨t,u,v,k _ _ (.inl rfl) e⟩
 | kX ob u ih=>obtain⟨e,q⟩:=x;exact⟨k _ _ (.inl rfl) e,ih q⟩
 | qd ps =>
  have e:h.get? a=some { cls:=.none,data:=.fields ps }:=x
  show h'.get? a=some { cls:=.none,data:=.fields ps }
  exact k a _ (.inl rfl) e
 | met f y =>
  have e:h.get? a=some (PySem.W.methodObj (.ref f) (.ref y)):=x
  show h'.get? a=some (PySem.W.methodObj (.ref f) (.ref y))
  exact k a _ (.inl rfl) e
 | ext φ=>obtain⟨p,⟨o,e⟩,st⟩:=x;exact⟨st _ _ p fun o q=>k _ _ (.inl rfl) q,⟨o,k _ _ (.inl rfl) e⟩,st⟩
theorem cR.lt (x:cR P w H h) (e:H a=some o):a < h.objs.size:=(x a o e).lt
theorem cR.fresh (x:cR P w H h) (e:h.objs.size<=a):H a=none:=by
 cases q:H a with
 | none=>rfl
 | some u=>exact absurd (Nat.lt_of_lt_of_le (x.lt q) e) (Nat.lt_irrefl _)
theorem cR.kept (x:cR P w H h) (k:∀ b u,h.get? b=some u->h'.get? b=some u):cR P w H h':=fun a o e =>
 (x a o e).nB (fun b u _ q=>k b u q) (fun _ q=>q) fun _ _ q=>q
theorem cR.laid (x:cR P w H h) (k:∀ b u,h.get? b=some u->h'.get? b=some u) (hp:h.objs.size<=a) (new:bC P w (upd H a o) h' a o):cR P w (upd H a o) h':=fun b u e=>by
 have hn:=x.fresh hp
 by_cases hb:b=a
 ·subst hb;rw [aa] at e;cases e;exact new
 ·rw [ao hb] at e
  exact (x b u e).nB (fun c v _ q=>k c v q) (fun c q=>by rw [ao (aw q hn)];exact q) fun c xs q=>by rw [ao (aw q hn)];exact q
end
def Rd (H:Hp) (a:Addr) (u:HO):Prop:=H a=some u\/∃ o,H a=some (.kX o u)
theorem Rd.ok {P:Program} {w:World} {H:Hp} {h:Heap} {a:Addr} {u:HO} (r:Rd H a u) (x:cR P w H h):bC P w H h a u:=by
 rcases r with r | ⟨o,r⟩
 ·exact x a u r
 ·obtain⟨_,q⟩:=x a _ r
  exact q
def vA:Option HO->Prop
 | some (.lst _)=>True
 | some (.dK _)=>True
 | some (.dT _)=>True
 | some (.set _ _)=>True
 | some (.ins _ _ _)=>True
 | some (.ext _)=>True
 | _=>False
section
variable {P:Program} {w:World} {H:Hp} {h h':Heap} {x e:Addr} {o':HO}
theorem cR.write (ok:cR P w H h) (mu:vA (H x)) (he:e=x\/H e=some (.own x)) (k:∀ b u,b ≠ e->h.get? b=some u->h'.get? b=some u) (heo:∃ u,h'.get? e=some u)
  (new:bC P w (upd H x o') h' x o'):cR P w (upd H x o') h':=fun b u q=>by
 have nown:∀ c y,H c=some (.own y)->c ≠ x:=fun c y r z=>by subst z;rw [r] at mu;exact mu
 have ntup:∀ c xs,H c=some (.tup xs)->c ≠ x:=fun c xs r z=>by subst z;rw [r] at mu;exact mu
 by_cases hb:b=x
 ·subst hb;rw [aa] at q;cases q;exact new
 ·rw [ao hb] at q
  by_cases hbe:b=e
  ·have q':H b=some (.own x):=by
    rcases he with z | z
    ·exact absurd (hbe.trans z) hb
    ·rw [hbe];exact z
   rw [q] at q';cases q'
   obtain⟨v,hv⟩:=heo
   exact⟨v,by rw [hbe];exact hv⟩
  ·refine (ok b u q).nB (fun c v hc r=>k c v ?_ r) (fun c r=>by rw [ao (nown c b r)];exact r) fun c xs r=>by rw [ao (ntup c xs r)];exact r
   rcases hc with rfl | hc
   ·exact hbe
   ·rintro rfl
    rcases he with z | z
    ·exact nown c b hc z
    ·rw [hc] at z;cases z;exact hb rfl
end
structure Un (fs ex:List Addr) (H H':Hp) (h h':Heap):Prop where
 keep:∀ b o,h.get? b=some o->H b=none->b ∉ fs->b ∉ ex->h'.get? b=some o
 slot:∀ b o,h.get? b=some o->H b=none->b ∈ fs->b ∉ ex->∃ sl,h'.get? b=some { o with slots:=sl }
 free:∀ b o,h.get? b=some o->H b=none->b ∉ ex->H' b=none
 there:∀ b o,h.get? b=some o->b ∉ ex->∃ o',h'.get? b=some o'
 aW:∀ b xs,H b=some (.tup xs)->H' b=some (.tup xs)
 iQ:∀ b o u,H b=some (.kX o u)->H' b=some (.kX o u)
 jF:∀ b ps,H b=some (.qd ps)->∃ more,H' b=some (.qd (ps++more))
section
variable {fs fs' ex ex':List Addr} {H H1 H2:Hp} {h h1 h2 h':Heap} {a x e:Addr} {o:HO}
theorem Un.any (u:Un fs ex H H1 h h1) {b:Addr} {ob:Obj} (q:h.get? b=some ob) (n:H b=none) (hx:b ∉ ex):∃ sl,h1.get? b=some { ob with slots:=sl }:=by
 by_cases hb:b ∈ fs
 ·exact u.slot b ob q n hb hx
 ·exact⟨ob.slots,u.keep b ob q n hb hx⟩
theorem Un.kept (k:∀ b u,h.get? b=some u->h'.get? b=some u):Un fs ex H H h h' :=
 ⟨fun b ob q _ _ _=>k b ob q,fun b ob q _ _ _=>⟨ob.slots,k b ob q⟩,fun _ _ _ n _=>n,fun b ob q _=>⟨ob,k b ob q⟩,fun _ _ q=>q,fun _ _ _ q=>q,fun _ ps q=>⟨#[],by rw [q];simp⟩⟩
theorem Un.refl:Un fs ex H H h h:=Un.kept fun _ _ q=>q
theorem Un.laid (k:∀ b u,h.get? b=some u->h'.get? b=some u) (hp:h.objs.size<=a) (hn:H a=none):Un fs ex H (upd H a o) h h' where
 keep:=fun b u q _ _ _=>k b u q
 slot:=fun b u q _ _ _=>⟨u.slots,k b u q⟩
 free:=fun b u q n _=>by rw [ao (Nat.ne_of_lt (Nat.lt_of_lt_of_le (Heap.lt_size q) hp))];exact n
 there:=fun b u q _=>⟨u,k b u q⟩
 aW:=fun b xs q=>by rw [ao (aw q hn)];exact q
 iQ:=fun b u xs q=>by rw [ao (aw q hn)];exact q
 jF:=fun b ps q=>⟨#[],by rw [ao (aw q hn),q];simp⟩
theorem Un.write (mu:vA (H x)) (he:e=x\/H e=some (.own x)) (k:∀ b u,b ≠ e->h.get? b=some u->h'.get? b=some u) (heo:∃ u,h'.get? e=some u):Un fs ex H (upd H x o) h h':=by
  have hx:∀ b,H b=none->b ≠ x:=fun b n z=>by subst z;rw [n] at mu;exact mu
  have hb:∀ b,H b=none->b ≠ e:=fun b n z=>by
    subst z
    rcases he with r | r
    · exact hx b n r
    · rw [n] at r;cases r
  have hm:∀ b u,H b=some u->¬ vA (some u)->b ≠ x:=fun b u q nm z=>by subst z;rw [q] at mu;exact nm mu
  refine⟨fun b u q n _ _=>k b u (hb b n) q,fun b u q n _ _=>⟨u.slots,k b u (hb b n) q⟩,fun b u q n _=>by rw [ao (hx b n)];exact n,fun b u q _=>?_,
    fun b xs q=>by rw [ao (hm b _ q fun z=>z)];exact q,fun b u xs q=>by rw [ao (hm b _ q fun z=>z)];exact q,fun b ps q=>⟨#[],by rw [ao (hm b _ q fun z=>z),q];simp⟩⟩
  by_cases hbe:b=e
  · subst hbe;exact heo
  · exact⟨u,k b u hbe q⟩
end
def y0 (h:Heap) (H:Hp):List Addr:=(List.range h.objs.size).filter fun a=>(H a).isSome
def iR (h:Heap) (H:Hp):Heap:=PySem.W.hideAll h (y0 h H)
theorem vB (h:Heap) (H:Hp):(iR h H).objs.size=h.objs.size:=PySem.W.hideAll_size _ _
theorem xm {h:Heap} {H:Hp} {b:Addr} {o:Obj} (e:h.get? b=some o) (n:H b=none):(iR h H).get? b=some o :=
 PySem.W.hideAll_get _ e fun hm=>by
  have q:(H b).isSome=true:=(List.mem_filter.mp hm).2
  rw [n] at q;simp at q
theorem zu {h:Heap} {H:Hp} {b:Addr} {o:Obj} (e:(iR h H).get? b=some o):h.get? b=some o/\H b=none:=by
 have e':h.get? b=some o:=PySem.W.of_hideAll (y0 h H) e
 refine⟨e',?_⟩
 cases q:H b with
 | none=>rfl
 | some x =>
  have hm:b ∈ y0 h H:=List.mem_filter.mpr ⟨List.mem_range.mpr (Heap.lt_size e'),by simp [q]⟩
  have z:(iR h H).get? b=none:=PySem.W.hideAll_none (y0 h H) hm
  rw [z] at e;cases e
def zv (g h:Heap) (L:Addr):List (Addr × Obj):=(List.range h.objs.size).filterMap fun a=>if a=L\/(g.get? a).isSome=true then none else (h.get? a).map fun o=>(a,o)
def rest (g h:Heap) (L d:Addr):List (Addr × Obj):=(zv g h L).filter fun p=>decide (p.1 ≠ d)
structure Mod (K:PySem.W.Frag) (mg:Str->Option Value) (base:Heap):Prop where
 iC:K.In base
 glob:base.Ns mainGlobals mg
 blt:∃ mb,base.Ns builtinsNs mb/\∀ x:Str,x ≠ "__name__" -> mb x=bootBuiltins x
 nolimit:base.NoLimit
structure Cx where
 prog:Program
 w:World
 K:PySem.W.Frag
 mg:Str->Option Value
 base:Heap
 A:Around
 N:List Str
 cX:Shared
 qe:Hp
 env:Env
 outer:List Env
 stack:List Env
 ex:List Addr
 fn:Str->Bool
 calm:Bool
 pn:List (Addr × Obj)
 xe:Value->Shared->Prop
def jG (l:List Env):List Addr:=l.filterMap (·.frame)
abbrev Cx.fs (X:Cx):List Addr:=jG X.outer
def Az (sc:Scope) (x:Str):Prop:=sc.names.lookup x=some .local\/sc.names.lookup x=some .cell\/sc.names.lookup x=some .free
def Loc (sc:Scope) (x:Str):Prop:=sc.names.lookup x=some .local\/sc.names.lookup x=some .cell
def Look (env:Env) (h:Heap) (m:Str->Option Value) (x:Str) (u:Value):Prop :=
 (env.kindOf x=some .local/\m x=some u)\/((env.kindOf x=some .cell\/env.kindOf x=some .free)/\∃ c,env.cells.lookup x=some c/\h.IsCell c (some u))
structure Cx.Ok (X:Cx):Prop where
 mod:Mod X.K X.mg X.base
 kind:X.env.scope.kind=.function
 glob:X.env.globals=mainGlobals
 blt:X.env.builtins=builtinsNs
 above:X.cX.heap.objs.size<=X.env.locals
 inj:∀ x y c,X.env.cells.lookup x=some c->X.env.cells.lookup y=some c->x=y
 has:∀ x,(X.env.kindOf x=some .cell\/X.env.kindOf x=some .free)->∃ c,X.env.cells.lookup x=some c
 vC:∀ x c,X.fn x=true->X.env.cells.lookup x=some c->X.cX.heap.objs.size<=c
 hd:X.calm=true->X.A.handled=none
 frames:X.A.frames=some X.stack
 y3:X.stack=X.outer\/(X.stack=X.env :: X.outer/\X.env.frame=some X.env.locals)
 Ci:∀ b ∈ X.ex,b ≠ X.env.locals/\∀ x c,X.env.cells.lookup x=some c->c ≠ b
 bs:∀ b o,X.base.get? b=some o->X.cX.heap.get? b=some o/\X.qe b=none
 mn:X.base.objs.size<=X.cX.heap.objs.size
 qf:∀ b o,X.base.get? b=some o->b ∉ X.ex
 uf:∀ b ∈ X.ex,b ∉ X.fs
 gg:X.cX.heap.FunFrames X.base X.outer
 qg:∀ b ∈ X.fs,X.qe b=none
structure Inv (X:Cx) (pins:List (Addr × Obj)) (σ : List (Option V)) (H:Hp) (s:Shared):Prop where
 ok:X.Ok
 os:s.os=X.cX.os
 bare:AllBare s.gens
 base:Un X.fs X.ex X.qe H X.cX.heap s.heap
 loc:∃ m,s.heap.Ns X.env.locals m/\∀ (i:Nat) (x:Str) (v:V),X.N[i]? = some x->σ[i]? = some (some v)->Az X.env.scope x->∃ u,RelV v u/\Look X.env s.heap m x u
 cell:∀ x c,X.env.cells.lookup x=some c->∃ v,s.heap.IsCell c v
 free:H X.env.locals=none
 eI:∀ x c,X.env.cells.lookup x=some c->H c=none
 pin:∀ p ∈ X.pn++pins,s.heap.get? p.1=some p.2/\H p.1=none/\p.1 ≠ X.env.locals/\p.1 ∉ X.fs/\∀ v,p.2.data ≠ .cell v
 aJ:cR X.prog X.w H s.heap
 len:σ.length=X.N.length
section
variable {X:Cx} {pins:List (Addr × Obj)} {σ : List (Option V)} {H H':Hp} {s:Shared} {h':Heap}
theorem Cx.Ok.Cu (ok:X.Ok) {b:Addr} {o:Obj} (e:X.base.get? b=some o):b ∉ X.fs:=fun hb=>by
 have:=(ok.gg.mem hb).1
 rw [e] at this;cases this
theorem Inv.bs (I:Inv X pins σ H s):∀ b o,X.base.get? b=some o->s.heap.get? b=some o/\H b=none:=fun b o e =>
 ⟨I.base.keep b o (I.ok.bs b o e).1 (I.ok.bs b o e).2 (I.ok.Cu e) (I.ok.qf b o e),I.base.free b o (I.ok.bs b o e).1 (I.ok.bs b o e).2 (I.ok.qf b o e)⟩
theorem Inv.bk (I:Inv X pins σ H s):∀ b o,X.base.get? b=some o->s.heap.get? b=some o:=fun b o e=>(I.bs b o e).1
theorem Inv.mod (I:Inv X pins σ H s):Mod X.K X.mg X.base:=I.ok.mod
theorem Inv.gu (I:Inv X pins σ H s):X.K.In s.heap:=I.ok.mod.iC.keeps I.bk
theorem Inv.lt (I:Inv X pins σ H s):X.env.locals < s.heap.objs.size:=let ⟨_,hn,_⟩:=I.loc;hn.lt
theorem Inv.sz (I:Inv X pins σ H s):X.cX.heap.objs.size<=s.heap.objs.size:=Nat.le_trans I.ok.above (Nat.le_of_lt I.lt)
theorem Inv.Cv (I:Inv X pins σ H s) {a:Addr} (h:s.heap.objs.size<=a):a ∉ X.fs:=fun hb=>by
 obtain⟨_,o,ho,_⟩:=I.ok.gg.mem hb
 exact absurd (Nat.lt_of_lt_of_le (Heap.lt_size ho) (Nat.le_trans I.sz h)) (Nat.lt_irrefl _)
theorem Inv.qh (I:Inv X pins σ H s):∀ x c,X.env.cells.lookup x=some c->c ≠ X.env.locals:=fun x c e z=>by
 obtain⟨v,o,ho,hd⟩:=I.cell x c e
 obtain⟨m,⟨o',es,ep,ho',hd',_⟩,_⟩:=I.loc
 rw [z,ho'] at ho;cases ho;rw [hd'] at hd;cases hd
theorem Inv.gg (I:Inv X pins σ H s):s.heap.FunFrames X.base X.outer:=by
 have all:∀ (l:List Env),(∀ b ∈ jG l,b ∈ X.fs)->X.cX.heap.FunFrames X.base l->s.heap.FunFrames X.base l:=by
  intro l
  induction l with
  | nil=>intro _ _;trivial
  | cons env r ih =>
   intro hs hl
   obtain⟨hk,⟨L,o,hf,hn,ho,hd⟩,hr⟩:=hl
   have hL:L ∈ X.fs:=hs L (by unfold jG;rw [List.filterMap_cons,hf];exact List.mem_cons_self)
   obtain⟨sl,e⟩:=I.base.slot L o ho (I.ok.qg L hL) hL fun z=>I.ok.uf L z hL
   exact⟨hk,⟨L,_,hf,hn,e,hd⟩,ih (fun b hb=>hs b (by unfold jG;rw [List.filterMap_cons,hf];exact List.mem_cons_of_mem _ hb)) hr⟩
 exact all X.outer (fun _ hb=>hb) I.ok.gg
theorem Inv.stack (I:Inv X pins σ H s):s.heap.FunFrames X.base X.stack:=by
 rcases I.ok.y3 with e | ⟨e,hf⟩
 ·rw [e];exact I.gg
 ·rw [e]
  obtain⟨m,hn,_⟩:=I.loc
  refine .cons (by rw [I.ok.kind];decide) hf hn ?_ I.gg
  exact Heap.get?_none_of_le (Nat.le_trans I.ok.mn I.ok.above)
theorem Inv.mq (I:Inv X pins σ H s):∀ b ∈ jG X.stack,b ∈ X.env.locals :: X.fs:=fun b hb=>by
 rcases I.ok.y3 with e | ⟨e,hf⟩
 ·rw [e] at hb;exact List.mem_cons_of_mem _ hb
 ·rw [e] at hb
  unfold jG at hb
  rw [List.filterMap_cons,hf] at hb
  exact hb
theorem Inv.sE (I:Inv X pins σ H s):∀ b ∈ jG X.stack,H b=none:=fun b hb=>by
 rcases List.mem_cons.mp (I.mq b hb) with e | hb
 ·rw [e];exact I.free
 ·obtain⟨_,o,ho,_⟩:=I.ok.gg.mem hb
  exact I.base.free b o ho (I.ok.qg b hb) fun z=>I.ok.uf b z hb
theorem Inv.step {g':Array GenState} {t':Nat} {d':Drawn} {ch:List Addr} (I:Inv X pins σ H s)
  (hch:∀ b ∈ ch,(b ∈ X.ex\/X.cX.heap.objs.size<=b)/\b ≠ X.env.locals/\(∀ x c,X.env.cells.lookup x=some c->c ≠ b)/\∀ p ∈ X.pn++pins,p.1 ≠ b)
  (keep:∀ b o,b ≠ X.env.locals->b ∉ X.fs->b ∉ ch->s.heap.get? b=some o->H b=none->h'.get? b=some o)
  (slot:∀ b o,b ≠ X.env.locals->b ∈ X.fs->b ∉ ch->s.heap.get? b=some o->H b=none->∃ sl,h'.get? b=some { o with slots:=sl }) (free:∀ b o,b ∉ ch->s.heap.get? b=some o->H b=none->H' b=none)
  (there:∀ b o,b ∉ ch->s.heap.get? b=some o->∃ o',h'.get? b=some o')
  (aW:∀ b xs,H b=some (.tup xs)->H' b=some (.tup xs)) (iQ:∀ b o u,H b=some (.kX o u)->H' b=some (.kX o u)) (jF:∀ b ps,H b=some (.qd ps)->∃ more,H' b=some (.qd (ps++more)))
  (ns:∀ m,s.heap.Ns X.env.locals m->h'.Ns X.env.locals m) (aJ:cR X.prog X.w H' h') (hg:AllBare g') :
  Inv X pins σ H' { s with heap:=h',gens:=g',drawn:=d',toks:=t' }:=by
 have neL:∀ b o,X.cX.heap.get? b=some o->b ≠ X.env.locals:=fun b o e=>Nat.ne_of_lt (Nat.lt_of_lt_of_le (Heap.lt_size e) I.ok.above)
 have neC:∀ b o,X.cX.heap.get? b=some o->b ∉ X.ex->b ∉ ch:=fun b o e hx hb=>by
  rcases (hch b hb).1 with z | z
  ·exact hx z
  ·exact absurd (Nat.lt_of_lt_of_le (Heap.lt_size e) z) (Nat.lt_irrefl _)
 have cellK:∀ x c,X.env.cells.lookup x=some c->∀ v,s.heap.IsCell c v->h'.IsCell c v:=fun x c e v ⟨o,ho,hd⟩=>by
  have nch:c ∉ ch:=fun z=>(hch c z).2.2.1 x c e rfl
  by_cases hc:c ∈ X.fs
  ·obtain⟨sl,q⟩:=slot c o (I.qh x c e) hc nch ho (I.eI x c e)
   exact⟨_,q,hd⟩
  ·exact⟨o,keep c o (I.qh x c e) hc nch ho (I.eI x c e),hd⟩
 refine⟨I.ok,I.os,hg,⟨fun b o e n hb hx=>?_,fun b o e n hb hx=>?_,fun b o e n hx=>?_,fun b o e hx=>?_,fun b xs e=>aW b xs (I.base.aW b xs e),fun b o xs e=>iQ b o xs (I.base.iQ b o xs e),fun b ps e=>?_⟩,?_,fun x c e=>?_,?_,fun x c e=>?_,fun p hp=>?_,aJ,I.len⟩
 ·exact keep b o (neL b o e) hb (neC b o e hx) (I.base.keep b o e n hb hx) (I.base.free b o e n hx)
 ·obtain⟨sl,e1⟩:=I.base.slot b o e n hb hx
  obtain⟨sl',e2⟩:=slot b _ (neL b o e) hb (neC b o e hx) e1 (I.base.free b o e n hx)
  exact⟨sl',e2⟩
 ·obtain⟨o',e1⟩:=I.base.there b o e hx
  exact free b o' (neC b o e hx) e1 (I.base.free b o e n hx)
 ·obtain⟨o',e1⟩:=I.base.there b o e hx
  exact there b o' (neC b o e hx) e1
 ·obtain⟨m1,e1⟩:=I.base.jF b ps e
  obtain⟨m2,e2⟩:=jF b _ e1
  exact⟨m1++m2,by rw [e2,Array.append_assoc]⟩
 ·obtain⟨m,hn,hl⟩:=I.loc
  refine⟨m,ns m hn,fun i x v e1 e2 e3=>?_⟩
  obtain⟨u,r,l⟩:=hl i x v e1 e2 e3
  refine⟨u,r,?_⟩
  rcases l with l | ⟨k,c,e,z⟩
  ·exact .inl l
  ·exact .inr ⟨k,c,e,cellK x c e _ z⟩
 ·obtain⟨v,z⟩:=I.cell x c e
  exact⟨v,cellK x c e v z⟩
 ·obtain⟨m,⟨o,_,_,ho,_⟩,_⟩:=I.loc
  exact free _ o (fun z=>(hch _ z).2.1 rfl) ho I.free
 ·obtain⟨v,o,ho,hd⟩:=I.cell x c e
  exact free c o (fun z=>(hch c z).2.2.1 x c e rfl) ho (I.eI x c e)
 ·obtain⟨e,n,ne,nf,d⟩:=I.pin p hp
  have nch:p.1 ∉ ch:=fun z=>(hch p.1 z).2.2.2 p hp rfl
  exact⟨keep p.1 p.2 ne nf nch e n,free p.1 p.2 nch e n,ne,nf,d⟩
theorem Inv.un {t':Nat} (I:Inv X pins σ H s) (u:Un X.fs [] H H' s.heap h') (aJ:cR X.prog X.w H' h'):Inv X pins σ H' { s with heap:=h',toks:=t' }:=by
  obtain⟨m,⟨o,es,ep,ho,r⟩,_⟩:=id I.loc
  obtain⟨sl,hL⟩:=u.any ho I.free (by simp)
  exact I.step (g':=s.gens) (d':=s.drawn) (ch:=[]) (fun _ z=>nomatch z) (fun b o _ hb _ e n=>u.keep b o e n hb (by simp)) (fun b o _ hb _ e n=>u.slot b o e n hb (by simp)) (fun b o _ e n=>u.free b o e n (by simp)) (fun b o _ e=>u.there b o e (by simp)) u.aW u.iQ u.jF (fun m' hm=>by
    obtain⟨o',es',ep',ho',r'⟩:=hm
    rw [ho] at ho';cases ho'
    exact⟨_,es',ep',hL,r'⟩) aJ I.bare
theorem Inv.call {g':Array GenState} {t':Nat} {d':Drawn} {ch:List Addr} (I:Inv X pins σ H s) (u:Un (jG X.stack) ch H H' s.heap h') (aJ:cR X.prog X.w H' h') (hg:AllBare g')
  (hch:∀ b ∈ ch,(b ∈ X.ex\/X.cX.heap.objs.size<=b)/\b ≠ X.env.locals/\(∀ x c,X.env.cells.lookup x=some c->c ≠ b)/\∀ p ∈ X.pn++pins,p.1 ≠ b) :
  Inv X pins σ H' { s with heap:=h',gens:=g',drawn:=d',toks:=t' }:=by
 obtain⟨m,⟨o,es,ep,ho,r⟩,_⟩:=id I.loc
 obtain⟨sl,hL⟩:=u.any ho I.free fun z=>(hch _ z).2.1 rfl
 exact I.step (ch:=ch) hch (fun b o hL hb hc e n=>u.keep b o e n (fun z=>(List.mem_cons.mp (I.mq b z)).elim hL hb) hc) (fun b o _ _ hc e n=>u.any e n hc) (fun b o hc e n=>u.free b o e n hc) (fun b o hc e=>u.there b o e hc) u.aW u.iQ u.jF (fun m' hm=>by
  obtain⟨o',es',ep',ho',r'⟩:=hm
  rw [ho] at ho';cases ho'
  exact⟨_,es',ep',hL,r'⟩) aJ hg
theorem Inv.turned {t':Nat} {it:Addr} (I:Inv X pins σ H s) (k:∀ b o,b ≠ it->s.heap.get? b=some o->h'.get? b=some o) (hn:H it=none) (hL:it ≠ X.env.locals)
  (h1:it ∈ X.ex\/X.cX.heap.objs.size<=it) (h2:∀ x c,X.env.cells.lookup x=some c->c ≠ it) (h3:∀ p ∈ X.pn++pins,p.1 ≠ it):Inv X pins σ H { s with heap:=h',toks:=t' }:=by
 have nit:∀ b u,H b=some u->b ≠ it:=fun b u e z=>by rw [z,hn] at e;cases e
 refine I.step (g':=s.gens) (d':=s.drawn) (ch:=[it]) (fun b hb=>?_) (fun b o _ _ hc e _=>k b o (fun z=>hc (by simp [z])) e) (fun b o _ _ hc e _=>⟨o.slots,k b o (fun z=>hc (by simp [z])) e⟩) (fun _ _ _ _ n=>n)
  (fun b o hc e=>⟨o,k b o (fun z=>hc (by simp [z])) e⟩) (fun _ _ e=>e) (fun _ _ _ e=>e) (fun b ps e=>⟨#[],by rw [e];simp⟩) (fun m hm=>?_) (fun b u e=>?_) I.bare
 ·have e:b=it:=by simpa using hb
  subst e
  exact⟨h1,hL,h2,h3⟩
 ·obtain⟨o,es,ep,ho,r⟩:=hm
  exact⟨o,es,ep,k _ o (Ne.symm hL) ho,r⟩
 ·refine (I.aJ b u e).nB (fun c v hc q=>k c v ?_ q) (fun _ q=>q) fun _ _ q=>q
  rcases hc with z | z
  ·rw [z];exact nit b u e
  ·exact nit c _ z
theorem Inv.tok (I:Inv X pins σ H s) (t:Nat):Inv X pins σ H { s with toks:=t }:=I.un (h':=s.heap) (t':=t) Un.refl I.aJ
theorem Inv.kept {t':Nat} (I:Inv X pins σ H s) (k:∀ b u,s.heap.get? b=some u->h'.get? b=some u):Inv X pins σ H { s with heap:=h',toks:=t' }:=I.un (Un.kept k) (I.aJ.kept k)
theorem Inv.laid {a:Addr} {o:HO} {t':Nat} (I:Inv X pins σ H s) (k:∀ b u,s.heap.get? b=some u->h'.get? b=some u) (hp:s.heap.objs.size<=a) (new:bC X.prog X.w (upd H a o) h' a o) :
  Inv X pins σ (upd H a o) { s with heap:=h',toks:=t' }:=I.un (Un.laid k hp (I.aJ.fresh hp)) (I.aJ.laid k hp new)
theorem Inv.write {x e:Addr} {o:HO} {t':Nat} (I:Inv X pins σ H s) (mu:vA (H x)) (he:e=x\/H e=some (.own x)) (k:∀ b u,b ≠ e->s.heap.get? b=some u->h'.get? b=some u) (heo:∃ u,h'.get? e=some u)
  (new:bC X.prog X.w (upd H x o) h' x o):Inv X pins σ (upd H x o) { s with heap:=h',toks:=t' }:=I.un (Un.write mu he k heo) (I.aJ.write mu he k heo new)
theorem Inv.sF {pins':List (Addr × Obj)} (I:Inv X pins σ H s) (h:∀ p ∈ pins',s.heap.get? p.1=some p.2/\H p.1=none/\p.1 ≠ X.env.locals/\p.1 ∉ X.fs/\∀ v,p.2.data ≠ .cell v):Inv X pins' σ H s :=
 ⟨I.ok,I.os,I.bare,I.base,I.loc,I.cell,I.free,I.eI,fun p hp=>(List.mem_append.mp hp).elim (fun z=>I.pin p (List.mem_append_left _ z)) (h p),I.aJ,I.len⟩
theorem qi {N:List Str} (hN:N.Nodup) {i j:Nat} {x:Str} (a:N[i]? = some x) (b:N[j]? = some x):i=j:=by
 obtain⟨h1,e1⟩:=List.getElem?_eq_some_iff.mp a
 obtain⟨h2,e2⟩:=List.getElem?_eq_some_iff.mp b
 exact (List.getElem_inj hN).mp (e1.trans e2.symm)
theorem oy {M:Model} {A:Around} {E:Value->Shared->Prop} {i:Nat} {x:Str} {v:V} {u:Value} {Q:Unit->Shared->Prop} (I:Inv X pins σ H s) (hN:X.N.Nodup) (hi:X.N[i]? = some x) (hx:Loc X.env.scope x) (r:RelV v u)
  (h:∀ s',Inv X pins (σ.set i (some v)) H s'->(∃ a,Heap.SameBut a s.heap s'.heap/\(a=X.env.locals\/X.env.cells.lookup x=some a))->Q () s') (hf:X.fn x=true\/X.env.scope.names.lookup x=some .local:=by first | exact .inl rfl | exact .inr rfl | assumption):wpAny M A (storeName X.env x u) Q E s:=by
 obtain⟨m,hn,hl⟩:=id I.loc
 have hcls:(X.env.scope.kind == .class || (X.env.scope.kind == .module && X.env.locals != X.env.globals))=false:=by rw [I.ok.kind];rfl
 have hiσ : i < σ.length:=by rw [I.len];exact (List.getElem?_eq_some_iff.mp hi).1
 have qh:=I.qh
 have tracked:∀ {a:Addr} {h':Heap},(∃ o,s.heap.get? a=some o/\H a=none)->Heap.SameBut a s.heap h'->cR X.prog X.w H h':=fun {a h'} ha hs b ob e=>by
  obtain⟨_,_,hfree⟩:=ha
  refine (I.aJ b ob e).nB (fun c w' hc q=>(hs.2 c ?_).trans q) (fun _ q=>q) fun _ _ q=>q
  rintro rfl
  rcases hc with rfl | hc
  ·rw [hfree] at e;cases e
  ·rw [hfree] at hc;cases hc
 rcases hx with hk | hk
 ·refine wpAny_storeName_local hk hn (fun h' hn' hs=>?_) hcls
  obtain⟨oL,_,_,hoL,_⟩:=id hn
  refine h _ ⟨I.ok,I.os,I.bare,⟨fun b o e n hb hx=>?_,fun b o e n hb hx=>?_,I.base.free,fun b o e hx=>?_,I.base.aW,I.base.iQ,I.base.jF⟩,⟨_,hn',fun j y v' e1 e2 e3=>?_⟩,fun y c e=>?_,I.free,I.eI,fun p hp=>?_,tracked ⟨oL,hoL,I.free⟩ hs,by simpa using I.len⟩ ⟨_,hs,.inl rfl⟩
  ·exact (hs.2 b (Nat.ne_of_lt (Nat.lt_of_lt_of_le (Heap.lt_size e) I.ok.above))).trans (I.base.keep b o e n hb hx)
  ·obtain⟨sl,e1⟩:=I.base.slot b o e n hb hx
   exact⟨sl,(hs.2 b (Nat.ne_of_lt (Nat.lt_of_lt_of_le (Heap.lt_size e) I.ok.above))).trans e1⟩
  ·obtain⟨o',e1⟩:=I.base.there b o e hx
   exact⟨o',(hs.2 b (Nat.ne_of_lt (Nat.lt_of_lt_of_le (Heap.lt_size e) I.ok.above))).trans e1⟩
  ·by_cases hj:j=i
   ·subst hj
    rw [hi] at e1;cases e1
    rw [List.getElem?_set_self hiσ] at e2
    cases e2
    exact⟨u,r,.inl ⟨hk,by simp⟩⟩
   ·rw [List.getElem?_set_ne (Ne.symm hj)] at e2
    obtain⟨u',r',q⟩:=hl j y v' e1 e2 e3
    refine⟨u',r',?_⟩
    rcases q with ⟨k,e⟩ | ⟨k,c,e,z⟩
    ·refine .inl ⟨k,?_⟩
     have:y ≠ x:=fun e=>hj (qi hN e1 (e ▸ hi))
     simp [this,e]
    ·exact .inr ⟨k,c,e,z.sameBut hs (qh y c e)⟩
  ·obtain⟨w',z⟩:=I.cell y c e
   exact⟨w',z.sameBut hs (qh y c e)⟩
  ·obtain⟨e,n,ne,nf,d⟩:=I.pin p hp
   exact⟨(hs.2 p.1 ne).trans e,n,ne,nf,d⟩
 ·have hfn:X.fn x=true:=by
   rcases hf with z | z
   ·exact z
   ·rw [z] at hk;cases hk
  obtain⟨c,hc⟩:=I.ok.has x (.inl hk)
  obtain⟨w',z⟩:=I.cell x c hc
  refine wpAny_storeName_cell I.ok.kind hk hc z (fun h' hc' hs=>?_)
  obtain⟨oc,hoc,hocd⟩:=id z
  refine h { s with heap:=h' } ⟨I.ok,I.os,I.bare,⟨fun b o e n hb hx=>?_,fun b o e n hb hx=>?_,I.base.free,fun b o e hx=>?_,I.base.aW,I.base.iQ,I.base.jF⟩,⟨m,hn.sameBut hs (Ne.symm (qh x c hc)),fun j y v' e1 e2 e3=>?_⟩,fun y c' e=>?_,I.free,I.eI,fun p hp=>?_,tracked ⟨oc,hoc,I.eI x c hc⟩ hs,by simpa using I.len⟩ ⟨c,hs,.inr hc⟩
  ·exact (hs.2 b (Nat.ne_of_lt (Nat.lt_of_lt_of_le (Heap.lt_size e) (I.ok.vC x c hfn hc)))).trans (I.base.keep b o e n hb hx)
  ·obtain⟨sl,e1⟩:=I.base.slot b o e n hb hx
   exact⟨sl,(hs.2 b (Nat.ne_of_lt (Nat.lt_of_lt_of_le (Heap.lt_size e) (I.ok.vC x c hfn hc)))).trans e1⟩
  ·obtain⟨o',e1⟩:=I.base.there b o e hx
   exact⟨o',(hs.2 b (Nat.ne_of_lt (Nat.lt_of_lt_of_le (Heap.lt_size e) (I.ok.vC x c hfn hc)))).trans e1⟩
  ·by_cases hj:j=i
   ·subst hj
    rw [hi] at e1;cases e1
    rw [List.getElem?_set_self hiσ] at e2
    cases e2
    exact⟨u,r,.inr ⟨.inl hk,c,hc,hc'⟩⟩
   ·rw [List.getElem?_set_ne (Ne.symm hj)] at e2
    obtain⟨u',r',q⟩:=hl j y v' e1 e2 e3
    refine⟨u',r',?_⟩
    rcases q with q | ⟨k,c',e,z'⟩
    ·exact .inl q
    ·refine .inr ⟨k,c',e,z'.sameBut hs ?_⟩
     rintro rfl
     exact hj (qi hN e1 (I.ok.inj _ _ _ e hc ▸ hi))
  ·by_cases hcc:c' = c
   ·subst hcc;exact⟨_,hc'⟩
   ·obtain⟨w2,z2⟩:=I.cell y c' e
    exact⟨w2,z2.sameBut hs hcc⟩
  ·obtain⟨e,n,ne,nf,d⟩:=I.pin p hp
   refine⟨(hs.2 p.1 ?_).trans e,n,ne,nf,d⟩
   intro q
   rw [q,hoc] at e
   have q':oc=p.2:=Option.some.inj e
   exact d w' (by rw [<-q'];exact hocd)
theorem iS {M:Model} {A:Around} {E:Value->Shared->Prop} {i:Nat} {x:Str} {v:V} {u:Value} {Q:Unit->Shared->Prop} (I:Inv X pins σ H s) (hN:X.N.Nodup) (hi:X.N[i]? = some x) (hx:Loc X.env.scope x) (r:RelV v u)
  (h:∀ s',Inv X pins (σ.set i (some v)) H s'->Q () s') (hf:X.fn x=true\/X.env.scope.names.lookup x=some .local:=by first | exact .inl rfl | exact .inr rfl | assumption):wpAny M A (storeName X.env x u) Q E s :=
 oy I hN hi hx r (fun s' I' _=>h s' I') hf
theorem Inv.BE {s':Shared} {ch:List Addr} (I:Inv X pins σ H s) (ho:s'.os=s.os) (u:Un (jG X.stack) ch H H' s.heap s'.heap) (aJ:cR X.prog X.w H' s'.heap) (hg:AllBare s'.gens)
  (hch:∀ b ∈ ch,(b ∈ X.ex\/X.cX.heap.objs.size<=b)/\b ≠ X.env.locals/\(∀ x c,X.env.cells.lookup x=some c->c ≠ b)/\∀ p ∈ X.pn++pins,p.1 ≠ b):Inv X pins σ H' s':=by
 obtain⟨h',g',d',t',o'⟩:=s'
 have e:o' = s.os:=ho
 subst e
 exact I.call (g':=g') (t':=t') (d':=d') u aJ hg hch
end
abbrev XK:=Value->Option Addr->Hp->Prop
abbrev St:=List (Option V)
abbrev VK:=V->Hp->Prop
abbrev TE:=St->Hp->VK->Prop
abbrev TT:=St->Hp->(Bool->Hp->Prop)->Prop
abbrev TA:=St->Hp->(List V->Hp->Prop)->Prop
structure Ends where
 nx:St->Hp->Prop
 rt:VK
 bk:St->Hp->Prop:=fun _ _=>False
 ct:St->Hp->Prop:=fun _ _=>False
abbrev TS:=Ends->St->Hp->Prop
def EP (X:Cx) (pins:List (Addr × Obj)) (σ : St) (Q:VK) (u:Value) (s':Shared):Prop:=∃ v H',Inv X pins σ H' s'/\RelV v u/\Q v H'
def TP (X:Cx) (pins:List (Addr × Obj)) (σ : St) (Q:Bool->Hp->Prop) (b:Bool) (s':Shared):Prop:=∃ H',Inv X pins σ H' s'/\Q b H'
def AP (X:Cx) (pins:List (Addr × Obj)) (σ : St) (Q:List V->Hp->Prop) (us:List Value) (s':Shared):Prop:=∃ vs H',Inv X pins σ H' s'/\Vals vs us/\Q vs H'
def SP (X:Cx) (pins:List (Addr × Obj)) (D:Ends) (f:Flow) (s':Shared):Prop :=
 match f with
 | .next=>∃ σ' H',Inv X pins σ' H' s'/\D.nx σ' H'
 | .brk=>∃ σ' H',Inv X pins σ' H' s'/\D.bk σ' H'
 | .cont=>∃ σ' H',Inv X pins σ' H' s'/\D.ct σ' H'
 | .ret u=>∃ v σ' H',Inv X pins σ' H' s'/\RelV v u/\D.rt v H'
def PE (X:Cx) (e:Expr) (t:TE):Prop :=
 ∀ (pins:List (Addr × Obj)) (s:Shared) (σ : St) (H:Hp) (Q:VK),Inv X pins σ H s->t σ H Q->wpAny (model X.prog X.w) X.A (eval e X.env) (EP X pins σ Q) X.xe s
def PT (X:Cx) (e:Expr) (t:TT):Prop :=
 ∀ (pins:List (Addr × Obj)) (s:Shared) (σ : St) (H:Hp) (Q:Bool->Hp->Prop),Inv X pins σ H s->t σ H Q->wpAny (model X.prog X.w) X.A (isTrue e X.env (eval e X.env)) (TP X pins σ Q) X.xe s
def PW (X:Cx) (e:Expr) (t:TT):Prop :=
 ∀ (whole:Sem Value) (pins:List (Addr × Obj)) (s:Shared) (σ : St) (H:Hp) (Q:Bool->Hp->Prop),Inv X pins σ H s->t σ H Q->wpAny (model X.prog X.w) X.A (isTrue e X.env whole) (TP X pins σ Q) X.xe s
theorem PW.pt {X:Cx} {e:Expr} {t:TT} (h:PW X e t):PT X e t:=h _
def PA (X:Cx) (es:List Expr) (t:TA):Prop :=
 ∀ (pos:Pos) (pins:List (Addr × Obj)) (s:Shared) (σ : St) (H:Hp) (Q:List V->Hp->Prop),Inv X pins σ H s->t σ H Q->wpAny (model X.prog X.w) X.A (spliced (backTo pos (starEach es X.env))) (AP X pins σ Q) X.xe s
def PS (X:Cx) (st:Stmt) (t:TS):Prop :=
 ∀ (pins:List (Addr × Obj)) (s:Shared) (σ : St) (H:Hp) (D:Ends),Inv X pins σ H s->t D σ H->wpAny (model X.prog X.w) X.A (exec st X.env) (SP X pins D) X.xe s
def ib (X:Cx) (st:List Stmt) (t:TS):Prop :=
 ∀ (pins:List (Addr × Obj)) (s:Shared) (σ : St) (H:Hp) (D:Ends),Inv X pins σ H s->t D σ H->wpAny (model X.prog X.w) X.A (execs st X.env) (SP X pins D) X.xe s
theorem aT {α : Type} {t:Sem α} {Q Q':α->Shared->Prop} {M:Model} {A:Around} {E:Value->Shared->Prop} {s:Shared} (h:wpAny M A t Q E s) (hQ:∀ a s,Q a s->Q' a s):wpAny M A t Q' E s:=wpAny_mono h hQ fun _ _ x=>x
section
variable {X:Cx}
inductive AA (i:Nat) (σ : St) (H:Hp) (Q:VK):Prop
 | mk (v:_) (_:σ[i]? = some (some v)) (_:Q v H)
def tC (v:V):TE:=fun _ H Q=>Q v H
theorem AB {i:Nat} {x:Str} {pos:Pos} (hN:X.N[i]? = some x) (hv:Az X.env.scope x) (hd:(x == ("__debug__" : Str))=false:=by decide) (hcd:(x == ("__classdict__" : Str))=false:=by decide):PE X (.Name x pos) (AA i):=by
 intro pins s σ H Q I h
 obtain⟨v,e,h⟩:=h
 obtain⟨m,hn,hl⟩:=I.loc
 obtain⟨u,r,l⟩:=hl i x v hN e hv
 have fin:EP X pins σ Q u s:=⟨v,H,I,r,h⟩
 rcases l with ⟨hk,hm⟩ | ⟨hk,c,hc,hcell⟩
 ·exact wpAny_Name (wpAny_loadName_local I.ok.kind hk hn hm fin) hd
 ·rcases hk with hk | hk
  ·exact wpAny_Name (wpAny_loadName_cell I.ok.kind hk hc hcell fin) hd
  ·exact wpAny_Name (wpAny_loadName_free I.ok.kind hk hc hcell fin hcd) hd
theorem ah {i j pos}:PE X (.Constant (.int i) j pos) (tC (.int i)):=fun _ _ _ H _ I h=>wpAny_Constant_int ⟨.int i,H,I.tok _,⟨_,rfl⟩,h⟩
theorem gy {b j pos}:PE X (.Constant (.bool b) j pos) (tC (.bl b)):=fun _ _ _ H _ I h=>Constant_bool ⟨.bl b,H,I,rfl,h⟩
theorem gO {j pos}:PE X (.Constant .none j pos) (tC .bg):=fun _ _ _ H _ I h=>Constant_none ⟨.bg,H,I,rfl,h⟩
theorem bL {x j pos}:PE X (.Constant (.str x) j pos) (tC (.str x)):=fun _ _ _ H _ I h=>Calls.Constant_str ⟨.str x,H,I.tok _,⟨_,rfl⟩,h⟩
def Gl (X:Cx) (x:Str):Prop:=X.env.kindOf x=some .globalImplicit
theorem nE {E:Value->Shared->Prop} {pins:List (Addr × Obj)} {s:Shared} {σ : St} {H:Hp} {x:Str} {u:Value} {pos:Pos} {Q:Value->Shared->Prop} (I:Inv X pins σ H s) (hg:Gl X x) (hm:X.mg x=some u) (h:Q u s)
  (hd:(x == ("__debug__" : Str))=false:=by decide):wpAny (model X.prog X.w) X.A (eval (.Name x pos) X.env) Q E s :=
 Calls.Name_function_global I.ok.kind hg (Calls.loadGlobal_global (by rw [I.ok.glob];exact I.mod.glob.keeps I.bk) hm h) hd
theorem jH {E:Value->Shared->Prop} {pins:List (Addr × Obj)} {s:Shared} {σ : St} {H:Hp} {x:Str} {u:Value} {pos:Pos} {Q:Value->Shared->Prop} (I:Inv X pins σ H s) (hg:Gl X x) (hm:X.mg x=none) (hv:bootBuiltins x=some u) (h:Q u s)
  (hn:x ≠ "__name__" := by decide) (hd:(x == ("__debug__" : Str))=false:=by decide):wpAny (model X.prog X.w) X.A (eval (.Name x pos) X.env) Q E s:=by
 obtain⟨mb,h1,h2⟩:=I.mod.blt
 exact Calls.Name_function_global I.ok.kind hg (Calls.loadGlobal_builtin (by rw [I.ok.glob];exact I.mod.glob.keeps I.bk) hm (by rw [I.ok.blt];exact h1.keeps I.bk) ((h2 x hn).trans hv) h) hd
theorem eT {x:Str} {v:V} {u:Value} {pos:Pos} (hg:Gl X x) (hm:X.mg x=some u) (r:RelV v u) (hd:(x == ("__debug__" : Str))=false:=by decide):PE X (.Name x pos) (tC v) :=
 fun _ _ _ H _ I h=>nE I hg hm ⟨v,H,I,r,h⟩ hd
variable {a b:Expr} {ta tb:TE} {pos:Pos}
def PC (X:Cx) (op:CmpOp) (a b:Expr) (t:TE):Prop :=
 ∀ (pins:List (Addr × Obj)) (s:Shared) (σ : St) (H:Hp) (Q:VK),Inv X pins σ H s->t σ H Q ->
  wpAny (model X.prog X.w) X.A (eval a X.env) (fun v s₁=>wpAny (model X.prog X.w) X.A (eval b X.env) (fun u s₂=>wpAny (model X.prog X.w) X.A (compareOp op v u) (EP X pins σ Q) X.xe s₂) X.xe s₁) X.xe s
theorem ql (b:Expr) {op:CmpOp} (h:op ≠ .In) (h2:op ≠ .NotIn):behindInMarks op b=false:=by
 have e1:(op == CmpOp.In)=false:=by cases op <;> first | rfl | exact absurd rfl h
 have e2:(op == CmpOp.NotIn)=false:=by cases op <;> first | rfl | exact absurd rfl h2
 cases b <;> simp [behindInMarks,e1,e2]
def Cw (ta:TE):TE:=fun σ H Q=>ta σ H fun x H1=>Q (.bl (decide (x=.bg))) H1
def BF (ta:TE):TE:=fun σ H Q=>ta σ H fun x H1=>Q (.bl (!decide (x=.bg))) H1
theorem RelV.qm {x:V} {v:Value} (r:RelV x v):(v == Value.none)=decide (x=.bg):=by
 cases x with
 | bg=>cases r;rfl
 | bl _=>cases r;rfl
 | int _=>obtain⟨t,rfl⟩:=r;rfl
 | str _=>obtain⟨t,rfl⟩:=r;rfl
 | gN _=>obtain⟨t,rfl⟩:=r;rfl
 | vz _=>obtain⟨t,rfl⟩:=r;rfl
 | ref _=>cases r;rfl
 | ty _=>cases r;rfl
theorem gP {j pos'} (ha:PE X a ta):PC X .Is a (.Constant .none j pos') (Cw ta):=by
 intro pins s σ H Q I h
 refine aT (ha pins s σ H _ I h) fun v s1 ⟨x,H1,I1,r1,q1⟩=>?_
 exact Constant_none (is_none_gen ⟨.bl _,H1,I1,by rw [r1.qm];rfl,q1⟩)
theorem nF {j pos'} (ha:PE X a ta):PC X .IsNot a (.Constant .none j pos') (BF ta):=by
 intro pins s σ H Q I h
 refine aT (ha pins s σ H _ I h) fun v s1 ⟨x,H1,I1,r1,q1⟩=>?_
 exact Constant_none (isnot_none_gen ⟨.bl _,H1,I1,by rw [r1.qm];rfl,q1⟩)
inductive BG (Q:(Bool->Hp->Prop)) (x:V) (H1:Hp):Prop
 | mk (c:_) (_:x=.bl c) (_:Q c H1)
def tB (t:TE):TT:=fun σ H Q=>t σ H fun x H1=>BG Q x H1
theorem vD {op:CmpOp} {t:TE} (h:PC X op a b t) (h1:behindInMarks op b=false:=by first | exact ql _ (by decide) (by decide) | rfl):PE X (.Compare a [op] [b] pos) t:=fun pins s σ H Q I hw=>wpAny_Compare1 (h pins s σ H Q I hw) h1
theorem fR {op:CmpOp} {t:TE} (h:PC X op a b t) (h1:behindInMarks op b=false:=by first | exact ql _ (by decide) (by decide) | rfl):PT X (.Compare a [op] [b] pos) (tB t):=by
 intro pins s σ H Q I hw
 refine wpAny_isTrue_Compare1 (aT (h pins s σ H _ I hw) fun v s1 h1=>aT h1 fun u s2 h2=>aT h2 fun c s3 ⟨x,H1,I1,r1,q1⟩=>?_) h1
 obtain⟨d,rfl,q⟩:=q1
 cases r1
 exact wpAny_truthy_bool ⟨H1,I1,q⟩
theorem mr {e:Expr} {t:TE} (h:PE X e t) (he:∀ whole,isTrue e X.env whole=(do let v <-whole;standAt e.pos;holding [v] (truthy v)):=by intro _;rfl):PT X e (tB t):=by
 intro pins s σ H Q I hw
 refine isTrue_plain (aT (h pins s σ H _ I hw) fun v s1 ⟨x,H1,I1,r1,q1⟩=>?_) (he _)
 obtain⟨d,rfl,q⟩:=q1
 cases r1
 exact wpAny_truthy_bool ⟨H1,I1,q⟩
variable {tA tB':TT} {rest:List Expr}
def Cy (t u:TT):TT:=fun σ H Q=>t σ H fun c H1=>if c=true then u σ H1 Q else Q false H1
def C6 (t u:TT):TT:=fun σ H Q=>t σ H fun c H1=>if c=true then Q true H1 else u σ H1 Q
theorem ky (ha:PT X a tA):PW X (.BoolOp .And [a] pos) tA:=by
 intro wh pins s σ H Q I h
 refine isTrue_and (aT (ha pins s σ H Q I h) fun c s1 e=>?_)
 cases c with
 | true=>exact isTrue_and_nil e
 | false=>exact e
theorem jI (ha:PT X a tA):PW X (.BoolOp .Or [a] pos) tA:=by
 intro wh pins s σ H Q I h
 refine isTrue_or (aT (ha pins s σ H Q I h) fun c s1 e=>?_)
 cases c with
 | false=>exact isTrue_or_nil e
 | true=>exact e
theorem mw (ha:PT X a tA) (hb:PW X (.BoolOp .And (b :: rest) pos) tB'):PW X (.BoolOp .And (a :: b :: rest) pos) (Cy tA tB'):=by
 intro wh pins s σ H Q I h
 refine isTrue_and (aT (ha pins s σ H _ I h) fun c s1 ⟨H1,I1,q1⟩=>?_)
 cases c with
 | true=>exact hb wh pins s1 σ H1 Q I1 q1
 | false=>exact⟨H1,I1,q1⟩
theorem kA (ha:PT X a tA) (hb:PW X (.BoolOp .Or (b :: rest) pos) tB'):PW X (.BoolOp .Or (a :: b :: rest) pos) (C6 tA tB'):=by
 intro wh pins s σ H Q I h
 refine isTrue_or (aT (ha pins s σ H _ I h) fun c s1 ⟨H1,I1,q1⟩=>?_)
 cases c with
 | true=>exact⟨H1,I1,q1⟩
 | false=>exact hb wh pins s1 σ H1 Q I1 q1
inductive xn (tb:TE) (σ : St) (Q:VK) (x:V) (H1:Hp):Prop
 | mk (c:_) (_:x=.bl c) (_:if c=true then tb σ H1 Q else Q (.bl false) H1)
def BH (ta tb:TE):TE:=fun σ H Q=>ta σ H fun x H1=>xn tb σ Q x H1
inductive zw (tb:TE) (σ : St) (Q:VK) (x:V) (H1:Hp):Prop
 | mk (c:_) (_:x=.bl c) (_:if c=true then Q (.bl true) H1 else tb σ H1 Q)
def Cz (ta tb:TE):TE:=fun σ H Q=>ta σ H fun x H1=>zw tb σ Q x H1
inductive xo (Q:VK) (x:V) (H1:Hp):Prop
 | mk (c:_) (_:x=.bl c) (_:Q (.bl (!c)) H1)
def BI (ta:TE):TE:=fun σ H Q=>ta σ H fun x H1=>xo Q x H1
theorem qo {op} {t:TE} (h:PE X a t):PE X (.BoolOp op [a] pos) t:=fun pins s σ H Q I hw=>BoolOp_one (h pins s σ H Q I hw)
theorem AD (ha:PE X a ta) (hb:PE X (.BoolOp .And (b :: rest) pos) tb):PE X (.BoolOp .And (a :: b :: rest) pos) (BH ta tb):=by
 intro pins s σ H Q I h
 refine BoolOp_and (aT (ha pins s σ H _ I h) fun v s1 ⟨x,H1,I1,r1,q1⟩=>?_)
 obtain⟨c,rfl,q1⟩:=q1
 cases r1
 refine wpAny_truthy_bool ?_
 cases c with
 | true=>exact hb pins s1 σ H1 Q I1 q1
 | false=>exact⟨.bl false,H1,I1,rfl,q1⟩
theorem y4 (ha:PE X a ta) (hb:PE X (.BoolOp .Or (b :: rest) pos) tb):PE X (.BoolOp .Or (a :: b :: rest) pos) (Cz ta tb):=by
 intro pins s σ H Q I h
 refine BoolOp_or (aT (ha pins s σ H _ I h) fun v s1 ⟨x,H1,I1,r1,q1⟩=>?_)
 obtain⟨c,rfl,q1⟩:=q1
 cases r1
 refine wpAny_truthy_bool ?_
 cases c with
 | false=>exact hb pins s1 σ H1 Q I1 q1
 | true=>exact⟨.bl true,H1,I1,rfl,q1⟩
theorem AE (ha:PE X a ta):PE X (.UnaryOp .Not a pos) (BI ta):=by
 intro pins s σ H Q I h
 refine UnaryOp_ (aT (ha pins s σ H _ I h) fun v s1 ⟨x,H1,I1,r1,q1⟩=>?_)
 obtain⟨c,rfl,q1⟩:=q1
 cases r1
 exact not_of (wpAny_truthy_bool ⟨.bl (!c),H1,I1,rfl,q1⟩)
def C7 (t:TT) (ta tb:TE):TE:=fun σ H Q=>t σ H fun c H1=>if c=true then ta σ H1 Q else tb σ H1 Q
theorem d5 {c:Expr} (hc:PT X c tA) (ha:PE X a ta) (hb:PE X b tb):PE X (.IfExp c a b pos) (C7 tA ta tb):=by
 intro pins s σ H Q I h
 refine wpAny_IfExp (aT (hc pins s σ H _ I h) fun d s1 ⟨H1,I1,q1⟩=>?_)
 cases d with
 | true=>exact ha pins s1 σ H1 Q I1 q1
 | false=>exact hb pins s1 σ H1 Q I1 q1
end
def aI (K:PySem.W.Frag) (H:Hp) (a:Addr) (xs:List V):Prop :=
 Rd H a (.lst xs) \/
  ∃ (o:Obj) (its:Array Value) (n:Nat),K.lookup a=some o/\o.cls=.type "list" /\ o.dict=none/\o.data=.seq its n/\its.size<=sizeLine/\Vals xs its.toList
def av (K:PySem.W.Frag) (H:Hp) (a:Addr) (xs:List V):Prop :=
 Rd H a (.tup xs) \/
  ∃ (o:Obj) (its:Array Value) (n:Nat),K.lookup a=some o/\o.cls=.type "tuple" /\ o.data=.seq its n/\its.size<=sizeLine/\Vals xs its.toList
def CA:Value->Option V
 | .none=>some .bg
 | .bool b=>some (.bl b)
 | .int i _=>some (.int i)
 | .str x _=>some (.str x)
 | .bytes b _=>some (.gN b)
 | .float b _=>some (.vz b)
 | .ref a=>some (.ref a)
 | .type n=>some (.ty n)
 | _=>none
theorem RelV.abs {x:V} {u:Value} (r:RelV x u):CA u=some x:=by
 cases x with
 | bg=>cases r;rfl
 | bl _=>cases r;rfl
 | int _=>obtain⟨t,rfl⟩:=r;rfl
 | str _=>obtain⟨t,rfl⟩:=r;rfl
 | gN _=>obtain⟨t,rfl⟩:=r;rfl
 | vz _=>obtain⟨t,rfl⟩:=r;rfl
 | ref _=>cases r;rfl
 | ty _=>cases r;rfl
theorem RelV.inj {x y:V} {u:Value} (r:RelV x u) (q:RelV y u):x=y:=Option.some.inj (r.abs.symm.trans q.abs)
theorem Vals.inj:∀ {xs ys:List V} {us:List Value},Vals xs us->Vals ys us->xs=ys
 | _,_,_,.nil,.nil=>rfl
 | _,_,_,.cons r t,.cons r' t'=>by rw [r.inj r',Vals.inj t t']
section
variable {X:Cx} {pins:List (Addr × Obj)} {σ : St} {H:Hp} {s:Shared} {a:Addr} {xs ys:List V}
theorem aI.of {K:PySem.W.Frag} (h:H a=some (.lst xs)):aI K H a xs:=.inl (.inl h)
theorem av.of {K:PySem.W.Frag} (h:H a=some (.tup xs)):av K H a xs:=.inl (.inl h)
theorem Inv.list (I:Inv X pins σ H s) (h:aI X.K H a xs):∃ its:List Value,Vals xs its/\PlainL s.heap a its.toArray/\xs.length<=sizeLine:=by
 rcases h with h | ⟨o,its,n,hk,hc,hd,hs,hz,r⟩
 ·obtain⟨z,its,n,r,e⟩:=h.ok I.aJ
  exact⟨its,r,⟨_,n,e,rfl,rfl,rfl⟩,z⟩
 ·refine⟨its.toList,r,⟨o,n,I.gu a o hk,hc,hd,by simpa using hs⟩,?_⟩
  have e:=r.length
  simp only [Array.length_toList] at e
  omega
theorem Inv.tuple (I:Inv X pins σ H s) (h:av X.K H a xs):∃ its:List Value,Vals xs its/\IsTup s.heap a its.toArray/\xs.length<=sizeLine:=by
 rcases h with h | ⟨o,its,n,hk,hc,hs,hz,r⟩
 ·obtain⟨z,its,r,o,e,c,n,d,_⟩:=h.ok I.aJ
  exact⟨its,r,⟨o,e,c,n,d⟩,z⟩
 ·refine⟨its.toList,r,⟨o,I.gu a o hk,hc,n,by simpa using hs⟩,?_⟩
  have e:=r.length
  simp only [Array.length_toList] at e
  omega
theorem Inv.xp (I:Inv X pins σ H s) (h:aI X.K H a xs) (h':aI X.K H a ys):xs=ys:=by
 obtain⟨its,r,⟨o,n,e,_,_,d⟩,_⟩:=I.list h
 obtain⟨its',r',⟨o',n',e',_,_,d'⟩,_⟩:=I.list h'
 rw [e] at e';cases e'
 rw [d] at d'
 injection d' with d1 _
 have:its=its':=by simpa using congrArg Array.toList d1
 subst this
 exact r.inj r'
theorem Inv.jJ (I:Inv X pins σ H s) (h:av X.K H a xs) (h':av X.K H a ys):xs=ys:=by
 obtain⟨its,r,⟨o,e,_,n,d⟩,_⟩:=I.tuple h
 obtain⟨its',r',⟨o',e',_,n',d'⟩,_⟩:=I.tuple h'
 rw [e] at e';cases e'
 rw [d] at d'
 injection d' with d1 _
 have:its=its':=by simpa using congrArg Array.toList d1
 subst this
 exact r.inj r'
end
abbrev Cx.iq (X:Cx) (E:Value->Shared->Prop):Cx:={ X with xe:=E }
abbrev Cx.sG (X:Cx):Cx:=X.iq fun _ _=>False
theorem Cx.Ok.iq {X:Cx} (ok:X.Ok) (E:Value->Shared->Prop):(X.iq E).Ok :=
 ⟨ok.mod,ok.kind,ok.glob,ok.blt,ok.above,ok.inj,ok.has,ok.vC,ok.hd,ok.frames,ok.y3,ok.Ci,ok.bs,ok.mn,ok.qf,ok.uf,ok.gg,ok.qg⟩
theorem Cx.Ok.fS {X:Cx} {E:Value->Shared->Prop} (ok:(X.iq E).Ok):X.Ok :=
 ⟨ok.mod,ok.kind,ok.glob,ok.blt,ok.above,ok.inj,ok.has,ok.vC,ok.hd,ok.frames,ok.y3,ok.Ci,ok.bs,ok.mn,ok.qf,ok.uf,ok.gg,ok.qg⟩
section
variable {X:Cx} {pins:List (Addr × Obj)} {σ : St} {H:Hp} {s:Shared} {E:Value->Shared->Prop}
theorem Inv.iq (I:Inv X pins σ H s) (E:Value->Shared->Prop):Inv (X.iq E) pins σ H s:=⟨I.ok.iq E,I.os,I.bare,I.base,I.loc,I.cell,I.free,I.eI,I.pin,I.aJ,I.len⟩
theorem Inv.fS (I:Inv (X.iq E) pins σ H s):Inv X pins σ H s:=⟨I.ok.fS,I.os,I.bare,I.base,I.loc,I.cell,I.free,I.eI,I.pin,I.aJ,I.len⟩
theorem SP.fS {D:Ends} {f:Flow} {s':Shared} (h:SP (X.iq E) pins D f s'):SP X pins D f s':=by
 cases f with
 | next=>obtain⟨σ',H',I,q⟩:=h;exact⟨σ',H',I.fS,q⟩
 | brk=>obtain⟨σ',H',I,q⟩:=h;exact⟨σ',H',I.fS,q⟩
 | cont=>obtain⟨σ',H',I,q⟩:=h;exact⟨σ',H',I.fS,q⟩
 | ret u=>obtain⟨v,σ',H',I,r,q⟩:=h;exact⟨v,σ',H',I.fS,r,q⟩
theorem ib.sG {st:List Stmt} {t:TS} (h:ib X.sG st t):ib X st t:=fun pins s σ H D I hw =>
 wpAny_mono (h pins s σ H D (I.iq _) hw) (fun _ _ q=>q.fS) fun _ _ z=>False.elim z
end
section
variable {X:Cx} {st:Stmt} {rest:List Stmt} {t u:TS} {e:Expr} {te:TE} {pos:Pos}
def BJ:TS:=fun D σ H=>D.nx σ H
def CB (t u:TS):TS:=fun D σ H=>t { D with nx:=u D } σ H
theorem aV:ib X [] BJ:=fun _ _ σ H _ I h=>wpAny_execs_nil ⟨σ,H,I,h⟩
theorem af (h1:PS X st t) (h2:ib X rest u):ib X (st :: rest) (CB t u):=by
 intro pins s σ H D I h
 refine wpAny_execs_cons (aT (h1 pins s σ H { D with nx:=u D } I h) fun f s1 q=>?_)
 cases f with
 | next =>
  obtain⟨σ',H',I',q⟩:=q
  exact h2 pins s1 σ' H' D I' q
 | ret v=>exact q
 | brk=>exact q
 | cont=>exact q
theorem ai (h1:PS X st t):ib X [st] t:=by
 intro pins s σ H D I h
 refine wpAny_execs_cons (aT (h1 pins s σ H D I h) fun f s1 q=>?_)
 cases f with
 | next=>exact wpAny_execs_nil q
 | ret v=>exact q
 | brk=>exact q
 | cont=>exact q
theorem Inv.quiet {pins:List (Addr × Obj)} {σ : St} {H:Hp} {s:Shared} (I:Inv X pins σ H s):interactive X.env=false:=by simp [interactive,I.ok.kind]
def BK (te:TE):TS:=fun D σ H=>te σ H fun _ H1=>D.nx σ H1
theorem dC (he:PE X e te) (hs:swapsWith e none pos.line X.env=pure false:=by rfl):PS X (.Expr e pos) (BK te):=by
 intro pins s σ H D I h
 exact wpAny_Expr_any (aT (he pins s σ H _ I h) fun v s1 ⟨x,H1,I1,r1,q1⟩=>⟨σ,H1,I1,q1⟩) I.quiet hs
def CC (te:TE):TS:=fun D σ H=>te σ H D.rt
theorem aB (he:PE X e te):PS X (.Return (some e) pos) (CC te):=by
 intro pins s σ H D I h
 exact wpAny_Return_some (aT (he pins s σ H _ I h) fun v s1 ⟨x,H1,I1,r1,q1⟩=>⟨x,σ,H1,I1,r1,q1⟩)
def CF (c:TT) (t u:TS):TS:=fun D σ H=>c σ H fun b H1=>if b=true then t D σ H1 else u D σ H1
theorem bw {c:Expr} {a b:List Stmt} {tc:TT} (hc:PT X c tc) (ha:ib X a t) (hb:ib X b u):PS X (.If c a b pos) (CF tc t u):=by
 intro pins s σ H D I h
 refine wpAny_If (aT (hc pins s σ H _ I h) fun d s1 ⟨H1,I1,q1⟩=>?_)
 cases d with
 | true=>exact ha pins s1 σ H1 D I1 q1
 | false=>exact hb pins s1 σ H1 D I1 q1
def AF:TS:=fun _ _ _=>False
theorem xq:PS X st AF:=fun _ _ _ _ _ _ h=>h.elim
end
abbrev TG:=V->St->Hp->(St->Hp->Prop)->Prop
abbrev qp:=List V->St->Hp->(St->Hp->Prop)->Prop
def PG (X:Cx) (target:Expr) (t:TG):Prop :=
 ∀ (pins:List (Addr × Obj)) (s:Shared) (σ : St) (H:Hp) (v:V) (u:Value) (Q:St->Hp->Prop),Inv X pins σ H s->RelV v u->t v σ H Q ->
  wpAny (model X.prog X.w) X.A (assign target X.env u) (fun _ s'=>∃ σ' H',Inv X pins σ' H' s'/\Q σ' H') X.xe s
def y6 (X:Cx) (ts:List Expr) (t:qp):Prop :=
 ∀ (pins:List (Addr × Obj)) (s:Shared) (σ : St) (H:Hp) (vs:List V) (us:List Value) (Q:St->Hp->Prop),Inv X pins σ H s->Vals vs us->t vs σ H Q ->
  wpAny (model X.prog X.w) X.A (assignInOrder ((assignEach ts X.env).map (·.2)) us) (fun _ s'=>∃ σ' H',Inv X pins σ' H' s'/\Q σ' H') X.xe s
abbrev xr:=V->V->V->Hp->(Hp->Prop)->Prop
def xt (X:Cx) (t:xr):Prop :=
 ∀ (pins:List (Addr × Obj)) (s:Shared) (σ : St) (H:Hp) (o i v:V) (ov iv u:Value) (Q:Hp->Prop),Inv X pins σ H s->RelV o ov->RelV i iv->RelV v u->t o i v H Q ->
  wpAny (model X.prog X.w) X.A (setItem ov iv u) (fun _ s'=>∃ H',Inv X pins σ H' s'/\Q H') X.xe s
section
variable {X:Cx} {pos:Pos}
def kB (i:Nat):TG:=fun v σ H Q=>Q (σ.set i (some v)) H
theorem zx {i:Nat} {x:Str} (hN:X.N.Nodup) (hi:X.N[i]? = some x) (hx:Loc X.env.scope x) (hf:X.fn x=true\/X.env.scope.names.lookup x=some .local:=by first | exact .inl rfl | exact .inr rfl | assumption):PG X (.Name x pos) (kB i):=by
 intro pins s σ H v u Q I r h
 exact wpAny_assign_Name (iS I hN hi hx r (fun s' I'=>⟨_,H,I',h⟩) hf)
def CG:qp:=fun vs σ H Q=>vs = []/\Q σ H
inductive BL (t:TG) (u:qp) (vs:List V) (σ : St) (H:Hp) (Q:(St->Hp->Prop)):Prop
 | mk (v r:_) (_:vs=v :: r) (_:t v σ H fun σ' H'=>u r σ' H' Q)
theorem cW:y6 X [] CG:=by
 intro pins s σ H vs us Q I r h
 obtain⟨e,h⟩:=h
 subst e
 cases r
 exact assignInOrder_nil ⟨σ,H,I,h⟩
theorem bc {e:Expr} {es:List Expr} {t:TG} {u:qp} (h1:PG X e t) (h2:y6 X es u)
  (hs:(assignEach (e :: es) X.env).map (·.2)=assign e X.env :: (assignEach es X.env).map (·.2):=by rfl):y6 X (e :: es) (BL t u):=by
 intro pins s σ H vs us Q I r h
 obtain⟨v,vr,e1,h⟩:=h
 subst e1
 cases r with
 | cons r rr =>
  rw [hs]
  refine assignInOrder_cons (aT (h1 pins s σ H _ _ _ I r h) fun _ s1 ⟨σ1,H1,I1,q1⟩=>?_)
  exact h2 pins s1 σ1 H1 _ _ Q I1 rr q1
inductive xu (K:PySem.W.Frag) (n:Nat) (t:qp) (v:V) (σ : St) (H:Hp) (Q:(St->Hp->Prop)):Prop
 | mk (a xs:_) (_:v=.ref a) (_:av K H a xs) (_:xs.length=n) (_:t xs σ H Q)
theorem dD {es:List Expr} {k:Nat} {t:qp} {n:Nat} (hc:X.calm=true) (h:y6 X es t)
  (hn:(assignEach es X.env).length=n:=by rfl) (hst:(assignEach es X.env).findIdx? (·.1)=none:=by rfl):PG X (.Tuple es k pos) (xu X.K n t):=by
 intro pins s σ H v u Q I r hw
 obtain⟨a,xs,e1,hq,hl,hw⟩:=hw
 subst e1
 cases r
 obtain⟨its,rv,ht,hz⟩:=I.tuple hq
 refine assign_Tuple_tuple (I.ok.hd hc) ht (by simp [hn,<-hl,rv.length]) hst fun h' hx=>?_
 have I1:Inv X pins σ H { s with heap:=h' }:=I.kept (t':=s.toks) fun b o e=>hx b o (Nat.ne_of_lt (Heap.lt_size e)) e
 exact h pins _ σ H xs _ Q I1 (by simpa using rv) hw
def CH (to ti:TE) (t:xr):TG:=fun v σ H Q=>to σ H fun o H1=>ti σ H1 fun i H2=>t o i v H2 fun H3=>Q σ H3
theorem mx {o i:Expr} {to ti:TE} {t:xr} (ho:PE X o to) (hi:PE X i ti) (hs:xt X t)
  (ha:∀ v,assign (.Subscript o i pos) X.env v=(do
   let ov <-holding [v] (eval o X.env)
   let iv <-holding [v,ov] (eval i X.env)
   standAt pos
   holding [v,ov,iv] (setItem ov iv v)
   release [v,ov,iv] []):=by intro _;rfl):PG X (.Subscript o i pos) (CH to ti t):=by
 intro pins s σ H v u Q I r h
 rw [ha]
 refine wpAny_bind (wpAny_holding (aT (ho pins s σ H _ I h) fun ov s1 ⟨x,H1,I1,r1,q1⟩=>?_))
 refine wpAny_bind (wpAny_holding (aT (hi pins s1 σ H1 _ I1 q1) fun iv s2 ⟨y,H2,I2,r2,q2⟩=>?_))
 refine wpAny_bind (wpAny_standAt (wpAny_bind (wpAny_holding (aT (hs pins s2 σ H2 x y v ov iv u _ I2 r1 r2 r q2) fun _ s3 ⟨H3,I3,q3⟩=>?_))))
 exact wpAny_release ⟨σ,H3,I3,q3⟩
def ug (te:TE) (g:TG):TS:=fun D σ H=>te σ H fun x H1=>g x σ H1 D.nx
theorem dE {tg e:Expr} {te:TE} {g:TG} (he:PE X e te) (hg:PG X tg g) (hs:swapsWithSole [tg] e pos.line X.env=pure false:=by rfl) (hw:swappedStores [tg] e X.env=pure none:=by rfl)
  (h1:(assignEach [tg] X.env).map (·.2) = [assign tg X.env]:=by rfl):PS X (.Assign [tg] e pos) (ug te g):=by
 intro pins s σ H D I h
 refine wpAny_Assign_stores (aT (he pins s σ H _ I h) fun v s1 ⟨x,H1,I1,r1,q1⟩=>?_) hs hw
 rw [h1]
 exact aT (hg pins s1 σ H1 x v _ I1 r1 q1) fun _ s2 q=>q
theorem AG {i:Nat} {x:Str} {e:Expr} {te:TE} {pos':Pos} (hN:X.N.Nodup) (hi:X.N[i]? = some x) (hx:Loc X.env.scope x) (he:PE X e te) (hs:swapsWith e (some (.Name x pos')) pos.line X.env=pure false:=by rfl) (hf:X.fn x=true\/X.env.scope.names.lookup x=some .local:=by first | exact .inl rfl | exact .inr rfl | assumption) :
  PS X (.Assign [.Name x pos'] e pos) (ug te (kB i)):=by
 intro pins s σ H D I h
 refine wpAny_Assign_Name (aT (he pins s σ H _ I h) fun v s1 ⟨y,H1,I1,r1,q1⟩=>?_) hs
 exact iS I1 hN hi hx r1 (fun s2 I2=>⟨_,H1,I2,q1⟩) hf
inductive zy (i:Nat) (j:Nat) (D:Ends) (σ : St) (vs:List V) (H1:Hp):Prop
 | mk (v w:_) (_:vs = [v,w]) (_:D.nx ((σ.set i (some v)).set j (some w)) H1)
def CI (i j:Nat) (ta:TA):TS:=fun D σ H=>ta σ H fun vs H1=>zy i j D σ vs H1
theorem AH {i j:Nat} {x y:Str} {a b:Expr} {ta:TA} {px py pt:Pos} {kt k2 pt2} (hc:X.calm=true) (hN:X.N.Nodup) (hi:X.N[i]? = some x) (hj:X.N[j]? = some y) (hij:i ≠ j)
  (hx:X.env.scope.names.lookup x=some .local) (hy:X.env.scope.names.lookup y=some .local) (ha:PA X [a,b] ta)
  (hw:swappedStores [.Tuple [.Name x px,.Name y py] kt pt] (.Tuple [a,b] k2 pt2) X.env=pure (some [x,y]))
  (hs:swapsWithSole [.Tuple [.Name x px,.Name y py] kt pt] (.Tuple [a,b] k2 pt2) pos.line X.env=pure false:=by rfl) :
  PS X (.Assign [.Tuple [.Name x px,.Name y py] kt pt] (.Tuple [a,b] k2 pt2) pos) (CI i j ta):=by
 intro pins s σ H D I h
 rw [exec_Assign_arm]
 refine wpAny_bind (wpAny_standAt ?_)
 rw [hs]
 refine wpAny_bind (wpAny_pure ?_)
 rw [if_neg (by decide)]
 refine wpAny_bind (Tuple_ (aT (ha _ pins s σ H _ I h) fun us s1 ⟨vs,H1,I1,r1,q1⟩=>?_))
 obtain⟨v,w,e1,q1⟩:=q1
 subst e1
 obtain⟨u1,u2,rfl,rv,rw'⟩:∃ u1 u2,us = [u1,u2]/\RelV v u1/\RelV w u2:=by
  cases r1 with
  | cons p q =>
   cases q with
   | cons p' q' =>
    cases q'
    exact⟨_,_,rfl,p,p'⟩
 refine wpAny_newObj_type ?_ (by show 2<=sizeLine;decide)
 have I2:Inv X pins σ H1 { s1 with heap:=s1.heap.push { cls:=.type "tuple",data:=.seq [u1,u2].toArray } }:=I1.kept (t':=s1.toks) fun b o e=>Heap.get?_push_of_some _ e
 rw [hw]
 refine wpAny_bind (wpAny_pure ?_)
 show wpAny (model X.prog X.w) X.A (do rule "assign.swapped-stores";let items <-unpackItems (.ref s1.heap.objs.size) 2 none;assignInOrder [fun v=>bindName X.env y v,fun v=>bindName X.env x v] items.reverse;pure Flow.next) _ _ _
 refine wpAny_bind (wpAny_rule (wpAny_bind (unpackItems_tuple (items:=#[u1,u2]) (I.ok.hd hc) (IsTup.new s1.heap _) fun h' hx'=>?_)))
 have I3:=I2.kept (h':=h') (t':=s1.toks) fun b o e=>hx' b o (Nat.ne_of_lt (Heap.lt_size e)) e
 show wpAny _ _ (assignInOrder [fun v=>bindName X.env y v,fun v=>bindName X.env x v] [u2,u1] >>= fun _=>pure Flow.next) _ _ _
 refine wpAny_bind (assignInOrder_cons (wpAny_bindName (iS I3 hN hj (.inl hy) rw' (fun s2 I4=>?_) (.inr hy))))
 refine assignInOrder_cons (wpAny_bindName (iS I4 hN hi (.inl hx) rv (fun s3 I5=>assignInOrder_nil (wpAny_pure ?_)) (.inr hx)))
 rw [List.set_comm _ _ (Ne.symm hij)] at I5
 exact⟨_,H1,I5,q1⟩
end
section
variable {X:Cx} {pos:Pos}
def AI (c:TT) (tb:TS):TS:=fun D σ H=>∃ W:Nat->St->Hp->Prop,(∃ m,W m σ H)/\∀ m σ H,W m σ H ->
 c σ H fun b H1=>if b=true then ∃ N:St->Hp->Prop,(∀ σ' H',N σ' H'->∃ m',m' < m/\W m' σ' H')/\tb { D with nx:=N,ct:=N,bk:=D.nx } σ H1 else D.nx σ H1
theorem iT {c:Expr} {body:List Stmt} {tc:TT} {tb:TS} (hp:PassesOwn (model X.prog X.w) X.A X.env X.xe) (hc:PT X c tc) (hb:ib X body tb):PS X (.While c body [] pos) (AI tc tb):=by
 intro pins s σ H D I h
 obtain⟨W,⟨m0,w0⟩,turn⟩:=h
 refine wpAny_While (codeAny_whileLoop (fun n s'=>∃ σ' H',Inv X pins σ' H' s'/\W n σ' H') ?_ m0 ⟨σ,H,I,w0⟩)
 rintro n s1 ⟨σ1,H1,I1,w1⟩
 refine wpAny_passesOwn hp (aT (hc pins s1 σ1 H1 _ I1 (turn n σ1 H1 w1)) fun b s2 ⟨H2,I2,q2⟩=>?_)
 cases b with
 | true =>
  obtain⟨N,hN,q2⟩:=q2
  rw [if_pos rfl]
  refine wpAny_passesOwn hp (aT (hb pins s2 σ1 H2 _ I2 q2) fun f s3 q3=>?_)
  cases f with
  | next =>
   obtain⟨σ3,H3,I3,n3⟩:=q3
   obtain⟨m',hm,w3⟩:=hN σ3 H3 n3
   exact⟨m',hm,σ3,H3,I3,w3⟩
  | cont =>
   obtain⟨σ3,H3,I3,n3⟩:=q3
   obtain⟨m',hm,w3⟩:=hN σ3 H3 n3
   exact⟨m',hm,σ3,H3,I3,w3⟩
  | brk=>exact q3
  | ret v=>exact q3
 | false =>
  rw [if_neg Bool.false_ne_true]
  exact wpAny_execs_nil ⟨σ1,H2,I2,q2⟩
end
structure It where
 go:Nat->Hp->Prop
 sH:Nat->Hp->V->Hp->Prop
 stop:Nat->Hp->Prop
def gQ (X:Cx) (pins:List (Addr × Obj)) (H:Hp) (b:Addr):Prop :=
 H b=none/\b ≠ X.env.locals/\b ∉ X.fs/\(b ∈ X.ex\/X.cX.heap.objs.size<=b)/\(∀ x c,X.env.cells.lookup x=some c->c ≠ b)/\∀ p ∈ X.pn++pins,p.1 ≠ b
theorem Inv.nG {X:Cx} {pins:List (Addr × Obj)} {σ : St} {H H':Hp} {s:Shared} {b:Addr} (I:Inv X pins σ H s) (hb:s.heap.objs.size<=b) (hn:H' b=none):gQ X pins H' b:=by
 refine⟨hn,Nat.ne_of_gt (Nat.lt_of_lt_of_le I.lt hb),I.Cv hb,.inr (Nat.le_trans I.sz hb),fun x c e z=>?_,fun p hp z=>?_⟩
 ·obtain⟨v,q⟩:=I.cell x c e
  exact absurd (Nat.lt_of_lt_of_le q.lt (by rw [z];exact hb)) (Nat.lt_irrefl _)
 ·exact absurd (Nat.lt_of_lt_of_le (Heap.lt_size (I.pin p hp).1) (by rw [z];exact hb)) (Nat.lt_irrefl _)
structure Turn (P:Program) (w:World) (K:PySem.W.Frag) (tg:Expr) (J:It) (fp:List Addr) (it:Addr) (tn:Nat->Heap->Prop):Prop where
 mem:it ∈ fp
 obj:∀ i h,tn i h->∀ b ∈ fp,∃ o,h.get? b=some o/\∀ v,o.data ≠ .cell v
 keep:∀ i h h',tn i h->(∀ b ∈ fp,∀ o,h.get? b=some o->h'.get? b=some o)->tn i h'
 item:∀ (X:Cx),X.prog=P->X.w=w->X.K=K->X.calm=true->∀ (i:Nat) (pins:List (Addr × Obj)) (s:Shared) (σ : St) (H:Hp) (E:Value->Shared->Prop),Inv X pins σ H s->(∀ b ∈ fp,gQ X pins H b)->tn i s.heap->J.go i H ->
  wpAny (model P w) X.A (pyNext (.ref it)) (fun r s1=>∃ u,r=some u /\
   wpAny (model P w) X.A (letOwnedTupleGo tg (.ref it) u) (fun _ s2=>∃ x H',Inv X pins σ H' s2/\RelV x u/\J.sH i H x H'/\tn (i+1) s2.heap/\∀ b ∈ fp,H' b=none) E s1) E s
 done:∀ (X:Cx),X.prog=P->X.w=w->X.K=K->X.calm=true->∀ (i:Nat) (pins:List (Addr × Obj)) (s:Shared) (σ : St) (H:Hp) (E:Value->Shared->Prop),Inv X pins σ H s->(∀ b ∈ fp,gQ X pins H b)->tn i s.heap->J.stop i H ->
  wpAny (model P w) X.A (pyNext (.ref it)) (fun r s1=>r=none/\Inv X pins σ H s1) E s
 self:∀ (A:Around) (i:Nat) (s:Shared) (Q:Value->Shared->Prop) (E:Value->Shared->Prop),tn i s.heap->Q (.ref it) s->wpAny (model P w) A (pyIter (.ref it)) Q E s
abbrev TI:=St->Hp->(It->Hp->Prop)->Prop
def Cj (X:Cx) (pins:List (Addr × Obj)) (σ : St) (tg:Expr) (R:It->Hp->Prop) (itv:Value) (s2:Shared):Prop :=
 ∃ (it:Addr) (fp:List Addr) (tn:Nat->Heap->Prop) (J:It) (H':Hp),itv=.ref it/\Inv X pins σ H' s2/\Turn X.prog X.w X.K tg J fp it tn/\tn 0 s2.heap/\(∀ b ∈ fp,gQ X pins H' b)/\R J H'
def PI (X:Cx) (tg iter:Expr) (wi:TI):Prop :=
 ∀ (pins:List (Addr × Obj)) (s:Shared) (σ : St) (H:Hp) (R:It->Hp->Prop),Inv X pins σ H s->wi σ H R ->
  wpAny (model X.prog X.w) X.A (eval iter X.env) (fun v s1=>wpAny (model X.prog X.w) X.A (pyIter v) (Cj X pins σ tg R) X.xe s1) X.xe s
theorem uh {M:Model} {A:Around} {E:Value->Shared->Prop} {s:Shared} {tg:Expr} {it:Addr} {u:Value} {o:Obj} {n:String} {vs:Array Value} {Q:Unit->Shared->Prop} (ho:s.heap.get? it=some o) (hc:o.cls=.type n) (hd:o.data=.fields vs)
    (hn:["enumerate", "zip", "dict_itemiterator", "dict_reverseitemiterator", "odict_iterator", "itertools.zip_longest", "itertools.pairwise"].contains n=false) (hQ:Q () s):wpAny M A (letOwnedTupleGo tg (.ref it) u) Q E s:=by
  unfold letOwnedTupleGo
  cases tg <;> first
    | exact wpAny_pure hQ
    | (cases u <;> first
        | exact wpAny_pure hQ
        | (refine wpAny_bind (wpAny_load ho ?_)
           rw [hc,hd]
           show wpAny M A (if (["enumerate", "zip", "dict_itemiterator", "dict_reverseitemiterator", "odict_iterator", "itertools.zip_longest", "itertools.pairwise"].contains n && vs[0]? == some (rawInt _))=true then _ else _) Q E s
           rw [if_neg (by intro h;rw [hn,Bool.false_and] at h;cases h)]
           exact wpAny_pure hQ))
def sI (K:PySem.W.Frag) (a:Addr):It :=
 ⟨fun i H=>∃ xs x,aI K H a xs/\xs[i]? = some x,fun i H x H'=>H' = H/\∀ xs,aI K H a xs->xs[i]? = some x,fun i H=>∃ xs,aI K H a xs/\xs.length<=i⟩
def sJ (K:PySem.W.Frag) (a:Addr):It :=
 ⟨fun i H=>∃ xs x,av K H a xs/\xs[i]? = some x,fun i H x H'=>H' = H/\∀ xs,av K H a xs->xs[i]? = some x,fun i H=>∃ xs,av K H a xs/\xs.length<=i⟩
def qq (lo:Int) (n:Nat):It:=⟨fun i _=>i < n,fun i H x H'=>H' = H/\x=.int (lo+i),fun i _=>n<=i⟩
theorem vE {P:Program} {w:World} {K:PySem.W.Frag} {tg:Expr} (a it:Addr):Turn P w K tg (sI K a) [it] it (fun i h=>h.IsListIter it a i) where
 mem:=by simp
 obj:=fun i h st b hb=>by
  have e:b=it:=by simpa using hb
  subst e
  obtain⟨o,e,c,d⟩:=st
  exact⟨o,e,fun v z=>by rw [d] at z;cases z⟩
 keep:=fun i h h' st k=>st.at fun o e=>k it (by simp) o e
 item:=by
  intro X hP hw hK hc i pins s σ H E I hf st hg
  subst hP hw hK
  obtain⟨xs,x,hq,hx⟩:=hg
  obtain⟨its,rv,p,hz⟩:=I.list hq
  obtain⟨u,hu,ru⟩:=rv.get hx
  obtain⟨f0,f1,f2,f3,f4,f5⟩:=hf it (by simp)
  refine wpAny_pyNext_list_item st p.isList (x:=u) (by simpa using hu) fun h' st' sb=>?_
  have I1:Inv X pins σ H { s with heap:=h' }:=I.turned (t':=s.toks) (fun b o hb e=>(sb.2 b hb).trans e) f0 f1 f3 f4 f5
  obtain⟨o,e,c,d⟩:=id st'
  exact⟨u,rfl,uh (s:={ s with heap:=h' }) e c d (by decide) ⟨x,H,I1,ru,⟨rfl,fun ys hy=>by rw [I.xp hy hq];exact hx⟩,st',fun b hb=>(hf b hb).1⟩⟩
 done:=by
  intro X hP hw hK hc i pins s σ H E I hf st hg
  subst hP hw hK
  obtain⟨xs,hq,hx⟩:=hg
  obtain⟨its,rv,p,hz⟩:=I.list hq
  obtain⟨f0,f1,f2,f3,f4,f5⟩:=hf it (by simp)
  have hl:=rv.length
  exact wpAny_pyNext_list_end (I.ok.hd hc) st p.isList (by simp;omega) fun h' eb=>⟨rfl,I.turned (t':=s.toks) (fun b o hb e=>eb b o hb e) f0 f1 f3 f4 f5⟩
 self:=fun _ _ _ _ _ st h=>wpAny_pyIter_listiter st h
theorem ui {P:Program} {w:World} {K:PySem.W.Frag} {tg:Expr} (a it:Addr):Turn P w K tg (sJ K a) [it] it (fun i h=>h.IsTupleIter it a i) where
 mem:=by simp
 obj:=fun i h st b hb=>by
  have e:b=it:=by simpa using hb
  subst e
  obtain⟨o,e,c,d⟩:=st
  exact⟨o,e,fun v z=>by rw [d] at z;cases z⟩
 keep:=fun i h h' st k=>st.at fun o e=>k it (by simp) o e
 item:=by
  intro X hP hw hK hc i pins s σ H E I hf st hg
  subst hP hw hK
  obtain⟨xs,x,hq,hx⟩:=hg
  obtain⟨its,rv,p,hz⟩:=I.tuple hq
  obtain⟨u,hu,ru⟩:=rv.get hx
  obtain⟨f0,f1,f2,f3,f4,f5⟩:=hf it (by simp)
  refine wpAny_pyNext_tuple_item st (show s.heap.IsTuple a its.toArray from p) (x:=u) (by simpa using hu) fun h' st' sb=>?_
  have I1:Inv X pins σ H { s with heap:=h' }:=I.turned (t':=s.toks) (fun b o hb e=>(sb.2 b hb).trans e) f0 f1 f3 f4 f5
  obtain⟨o,e,c,d⟩:=id st'
  exact⟨u,rfl,uh (s:={ s with heap:=h' }) e c d (by decide) ⟨x,H,I1,ru,⟨rfl,fun ys hy=>by rw [I.jJ hy hq];exact hx⟩,st',fun b hb=>(hf b hb).1⟩⟩
 done:=by
  intro X hP hw hK hc i pins s σ H E I hf st hg
  subst hP hw hK
  obtain⟨xs,hq,hx⟩:=hg
  obtain⟨its,rv,p,hz⟩:=I.tuple hq
  obtain⟨f0,f1,f2,f3,f4,f5⟩:=hf it (by simp)
  have hl:=rv.length
  exact wpAny_pyNext_tuple_end (I.ok.hd hc) st (show s.heap.IsTuple a its.toArray from p) (by simp;omega) fun h' eb=>⟨rfl,I.turned (t':=s.toks) (fun b o hb e=>eb b o hb e) f0 f1 f3 f4 f5⟩
 self:=fun _ _ _ _ _ st h=>wpAny_pyIter_tupleiter st h
theorem uj {P:Program} {w:World} {K:PySem.W.Frag} {tg:Expr} (it:Addr) (lo:Int) (n:Nat):Turn P w K tg (qq lo n) [it] it (fun i h=>IsRangeIter h it (lo+(i:Nat) * 1) ((n:Int) - (i:Nat)) 1) where
 mem:=by simp
 obj:=fun i h st b hb=>by
  have e:b=it:=by simpa using hb
  subst e
  exact⟨_,st,fun v z=>by
   have z':Data.fields _=Data.cell v:=z
   cases z'⟩
 keep:=fun i h h' st k=>k it (by simp) _ st
 item:=by
  intro X hP hw hK hc i pins s σ H E I hf st hg
  subst hP hw hK
  obtain⟨f0,f1,f2,f3,f4,f5⟩:=hf it (by simp)
  have W:=Walks.range (prog:=X.prog) (w:=X.w) (I.ok.hd hc) it lo 1 n
  refine W.item i s _ _ hg st fun v h' tk hv st' kk=>?_
  obtain⟨t,rfl⟩:=hv
  have I1:Inv X pins σ H { s with heap:=h',toks:=tk }:=I.turned (fun b o hb e=>kk b o (by simpa using hb) e) f0 f1 f3 f4 f5
  refine⟨_,rfl,uh (s:={ s with heap:=h',toks:=tk }) (n := "range_iterator") st' rfl rfl (by decide) ⟨.int (lo+i),H,I1,⟨t,?_⟩,⟨rfl,rfl⟩,st',fun b hb=>(hf b hb).1⟩⟩
  rw [Int.mul_one]
 done:=by
  intro X hP hw hK hc i pins s σ H E I hf st hg
  subst hP hw hK
  obtain⟨f0,f1,f2,f3,f4,f5⟩:=hf it (by simp)
  exact wpAny_pyNext_range_end (I.ok.hd hc) st (by have:n<=i:=hg;omega) fun h' eb=>⟨rfl,I.turned (t':=s.toks) (fun b o hb e=>eb b o hb e) f0 f1 f3 f4 f5⟩
 self:=fun _ _ _ _ _ st h=>wpAny_pyIter_rangeiter st h
section
variable {X:Cx} {tg:Expr}
inductive xw (K:PySem.W.Frag) (R:(It->Hp->Prop)) (x:V) (H1:Hp):Prop
 | mk (a:_) (_:x=.ref a) (_:(∃ xs,aI K H1 a xs)) (_:R (sI K a) H1)
def BM (K:PySem.W.Frag) (tl:TE):TI:=fun σ H R=>tl σ H fun x H1=>xw K R x H1
inductive zA (K:PySem.W.Frag) (R:(It->Hp->Prop)) (x:V) (H1:Hp):Prop
 | mk (a:_) (_:x=.ref a) (_:(∃ xs,av K H1 a xs)) (_:R (sJ K a) H1)
def CJ (K:PySem.W.Frag) (tl:TE):TI:=fun σ H R=>tl σ H fun x H1=>zA K R x H1
theorem dU {l:Expr} {tl:TE} (hl:PE X l tl):PI X tg l (BM X.K tl):=by
 intro pins s σ H R I h
 refine aT (hl pins s σ H _ I h) fun v s1 ⟨x,H1,I1,r1,q1⟩=>?_
 obtain⟨a,e,⟨xs,hq⟩,q⟩:=q1
 subst e
 cases r1
 obtain⟨its,rv,p,hz⟩:=I1.list hq
 refine wpAny_pyIter_list p.isList ?_
 refine⟨s1.heap.objs.size,[s1.heap.objs.size],_,_,H1,rfl,I1.kept (t':=s1.toks) fun b o e=>Heap.get?_push_of_some _ e,vE a _,⟨_,Heap.get?_push_size _ rfl,rfl,rfl⟩,fun b hb=>?_,q⟩
 have e:b=s1.heap.objs.size:=by simpa using hb
 subst e
 exact I1.nG (Nat.le_refl _) (I1.aJ.fresh (Nat.le_refl _))
theorem dG {l:Expr} {tl:TE} (hl:PE X l tl):PI X tg l (CJ X.K tl):=by
 intro pins s σ H R I h
 refine aT (hl pins s σ H _ I h) fun v s1 ⟨x,H1,I1,r1,q1⟩=>?_
 obtain⟨a,e,⟨xs,hq⟩,q⟩:=q1
 subst e
 cases r1
 obtain⟨its,rv,p,hz⟩:=I1.tuple hq
 refine wpAny_pyIter_tuple (show s1.heap.IsTuple a its.toArray from p) ?_
 refine⟨s1.heap.objs.size,[s1.heap.objs.size],_,_,H1,rfl,I1.kept (t':=s1.toks) fun b o e=>Heap.get?_push_of_some _ e,ui a _,⟨_,Heap.get?_push_size _ rfl,rfl,rfl⟩,fun b hb=>?_,q⟩
 have e:b=s1.heap.objs.size:=by simpa using hb
 subst e
 exact I1.nG (Nat.le_refl _) (I1.aJ.fresh (Nat.le_refl _))
theorem xx {pins:List (Addr × Obj)} {σ : St} {H:Hp} {s:Shared} {R:It->Hp->Prop} {E:Value->Shared->Prop} {lo hi:Int} {t u v:Tok} {tk:Nat} (I:Inv X pins σ H s) (h1:-(2 ^ 62)<=lo) (h2:lo < 2 ^ 62) (h3:-(2 ^ 62)<=hi) (h4:hi < 2 ^ 62)
  (q:R (qq lo (hi - lo).toNat) H):wpAny (model X.prog X.w) X.A (pyIter (.ref s.heap.objs.size)) (Cj X pins σ tg R) E { s with heap:=s.heap.push { cls:=.type "range",data:=.fields #[.int lo t,.int hi u,.int 1 v] },toks:=tk }:=by
 refine wpAny_pyIter_range (IsRange.new ..) (small_one h1 h2 h3 h4) ?_
 have I1:Inv X pins σ H { s with heap:=s.heap.push { cls:=.type "range",data:=.fields #[.int lo t,.int hi u,.int 1 v] },toks:=tk }:=I.kept fun b o e=>Heap.get?_push_of_some _ e
 refine⟨(s.heap.push { cls:=.type "range",data:=.fields #[.int lo t,.int hi u,.int 1 v] }).objs.size,[(s.heap.push { cls:=.type "range",data:=.fields #[.int lo t,.int hi u,.int 1 v] }).objs.size],_,_,H,rfl,
  I1.kept (t':=tk) fun b o e=>Heap.get?_push_of_some _ e,uj _ lo (hi - lo).toNat,?_,fun b hb=>?_,q⟩
 ·have e1:lo+((0:Nat):Int) * 1=lo:=by simp
  have e2:(((hi - lo).toNat:Nat):Int) - ((0:Nat):Int)=Builtin.Range.rangeSize lo hi 1:=by rw [rangeSize_one];split <;> omega
  show IsRangeIter _ _ (lo+((0:Nat):Int) * 1) ((((hi - lo).toNat:Nat):Int) - ((0:Nat):Int)) 1
  rw [e1,e2]
  exact Heap.get?_push_size _ rfl
 ·have e:b=(s.heap.push { cls:=.type "range",data:=.fields #[.int lo t,.int hi u,.int 1 v] }).objs.size:=by simpa using hb
  subst e
  exact I1.nG (Nat.le_refl _) (I1.aJ.fresh (Nat.le_refl _))
inductive xy (R:(It->Hp->Prop)) (vs:List V) (H1:Hp):Prop
 | mk (j:Int) (_:vs = [.int j]) (_:-(2 ^ 62)<=j) (_:j < 2 ^ 62) (_:R (qq 0 j.toNat) H1)
def BN (ta:TA):TI:=fun σ H R=>ta σ H fun vs H1=>xy R vs H1
theorem eU {a:Expr} {ta:TA} {p pos:Pos} (hg:Gl X "range") (hm:X.mg "range" = none) (ha:PA X [a] ta) (hs:starEach [a] X.env = [(false,eval a X.env)]:=by rfl):PI X tg (.Call (.Name "range" p) [a] [] pos) (BN ta):=by
 intro pins s σ H R I h
 refine Call_ (jH I hg hm boot_range (PyProof.Rows.callWith_type1 (aT (ha pos pins s σ H _ I h) fun us s1 ⟨vs,H1,I1,r1,q1⟩=>?_) hs rfl))
 obtain⟨j,e,q1,q2,q⟩:=q1
 subst e
 cases r1 with
 | cons r rr =>
  cases rr
  obtain⟨t,rfl⟩:=r
  exact call_range_1 (xx I1 (by omega) (by omega) q1 q2 (by simpa using q))
def CK (wi:TI) (g:TG) (tb:TS):TS:=fun D σ H=>wi σ H fun J H1=>∃ W:Nat->Nat->St->Hp->Prop,(∃ m,W 0 m σ H1)/\∀ i m σ H,W i m σ H ->
 (J.stop i H/\D.nx σ H)\/(J.go i H/\∃ N:St->Hp->Prop,(∀ σ' H',N σ' H'->∃ m',m' < m/\W (i+1) m' σ' H')/\∀ x H',J.sH i H x H'->g x σ H' fun σ2 H2=>tb { D with nx:=N,ct:=N,bk:=D.nx } σ2 H2)
def jK (fp:List Addr) (h:Heap):List (Addr × Obj):=fp.filterMap fun b=>(h.get? b).map fun o=>(b,o)
theorem gB {fp:List Addr} {h:Heap} {b:Addr} {o:Obj} (hb:b ∈ fp) (e:h.get? b=some o):(b,o) ∈ jK fp h:=List.mem_filterMap.mpr ⟨b,hb,by rw [e];rfl⟩
theorem vF {fp:List Addr} {h:Heap} {p:Addr × Obj} (hp:p ∈ jK fp h):p.1 ∈ fp/\h.get? p.1=some p.2:=by
 obtain⟨b,hb,e⟩:=List.mem_filterMap.mp hp
 cases q:h.get? b with
 | none=>rw [q] at e;cases e
 | some o =>
  rw [q] at e
  have e':(b,o)=p:=Option.some.inj e
  subst e'
  exact⟨hb,q⟩
theorem Inv.pinned {pins:List (Addr × Obj)} {σ : St} {H:Hp} {s:Shared} {fp:List Addr} (I:Inv X pins σ H s) (hf:∀ b ∈ fp,gQ X pins H b) (ho:∀ b ∈ fp,∃ o,s.heap.get? b=some o/\∀ v,o.data ≠ .cell v):Inv X (pins++jK fp s.heap) σ H s :=
 I.sF fun p hp=>(List.mem_append.mp hp).elim (fun z=>I.pin p (List.mem_append_right _ z)) fun z=>by
  obtain⟨hb,e⟩:=vF z
  obtain⟨f0,f1,f2,_⟩:=hf p.1 hb
  obtain⟨o,e',d⟩:=ho p.1 hb
  rw [e] at e';cases e'
  exact⟨e,f0,f1,f2,d⟩
theorem Inv.gR {pins pl:List (Addr × Obj)} {σ : St} {H:Hp} {s:Shared} (I:Inv X (pins++pl) σ H s):Inv X pins σ H s:=I.sF fun p hp=>I.pin p (List.mem_append_right _ (List.mem_append_left _ hp))
theorem di {iter:Expr} {body:List Stmt} {wi:TI} {g:TG} {tb:TS} {pos:Pos} (hp:PassesOwn (model X.prog X.w) X.A X.env X.xe) (hc:X.calm=true) (hi:PI X tg iter wi) (hg:PG X tg g) (hb:ib X body tb)
  (hs:∀ x,foldedSetIterable iter X.env x=pure x:=by intro _;rfl):PS X (.For tg iter body [] pos) (CK wi g tb):=by
 intro pins s σ H D I h
 refine wpAny_For (aT (hi pins s σ H _ I h) fun v s1 h1=>aT h1 fun itv s2 h2=>?_) hs
 obtain⟨it,fp,tn,J,H2,e,I2,T,st2,f2,W,⟨m0,w0⟩,turn⟩:=h2
 subst e
 have stat:∀ {H':Hp},(∀ b ∈ fp,H' b=none)->∀ b ∈ fp,gQ X pins H' b:=fun hn b hb=>⟨hn b hb,(f2 b hb).2⟩
 refine codeAny_forLoop_any (fun n s'=>∃ i σ' H',Inv X pins σ' H' s'/\tn i s'.heap/\(∀ b ∈ fp,H' b=none)/\W i n σ' H') ?_ m0 ⟨0,σ,H2,I2,st2,fun b hb=>(f2 b hb).1,w0⟩
 rintro n s3 ⟨i,σ3,H3,I3,st3,fr3,w3⟩
 rcases turn i n σ3 H3 w3 with ⟨stop,qn⟩ | ⟨go,N,hN,step⟩
 ·refine wpAny_passesOwn hp (aT (T.done X rfl rfl rfl hc i pins s3 σ3 H3 X.xe I3 (stat fr3) st3 stop) fun r s4 ⟨hr,I4⟩=>?_)
  subst hr
  exact wpAny_execs_nil ⟨σ3,H3,I4,qn⟩
 ·refine wpAny_passesOwn hp (aT (T.item X rfl rfl rfl hc i pins s3 σ3 H3 X.xe I3 (stat fr3) st3 go) fun r s4 ⟨u,hr,h4⟩=>?_)
  subst hr
  refine wpAny_passesOwn hp (aT h4 fun _ s5 ⟨x,H5,I5,r5,y5,st5,fr5⟩=>?_)
  have I5':=I5.pinned (stat fr5) (T.obj _ _ st5)
  refine wpAny_passesOwn hp (aT (hg _ s5 σ3 H5 x u _ I5' r5 (step x H5 y5)) fun _ s6 ⟨σ6,H6,I6,q6⟩=>?_)
  refine wpAny_passesOwn hp (aT (hb _ s6 σ6 H6 _ I6 q6) fun f s7 q7=>?_)
  have again:∀ {σ7:St} {H7:Hp},Inv X (pins++jK fp s5.heap) σ7 H7 s7->N σ7 H7->∃ m,m < n/\∃ i σ' H',Inv X pins σ' H' s7/\tn i s7.heap/\(∀ b ∈ fp,H' b=none)/\W i m σ' H':=fun {σ7 H7} I7 n7=>by
   obtain⟨m',hm,w7⟩:=hN σ7 H7 n7
   refine⟨m',hm,i+1,σ7,H7,I7.gR,T.keep _ _ _ st5 fun b hb o e=>(I7.pin (b,o) (List.mem_append_right _ (List.mem_append_right _ (gB hb e)))).1,fun b hb=>?_,w7⟩
   obtain⟨o,e,d⟩:=T.obj _ _ st5 b hb
   exact (I7.pin (b,o) (List.mem_append_right _ (List.mem_append_right _ (gB hb e)))).2.1
  cases f with
  | next=>obtain⟨σ7,H7,I7,n7⟩:=q7;exact again I7 n7
  | cont=>obtain⟨σ7,H7,I7,n7⟩:=q7;exact again I7 n7
  | brk=>obtain⟨σ7,H7,I7,q7⟩:=q7;exact⟨σ7,H7,I7.gR,q7⟩
  | ret v=>obtain⟨x7,σ7,H7,I7,r7,q7⟩:=q7;exact⟨x7,σ7,H7,I7.gR,r7,q7⟩
end
theorem gS {K:PySem.W.Frag} {a:Addr} {xs:List V} {g:TG} {tb:TS} {D:Ends} {σ : St} {H:Hp} (Pv:Nat->St->Hp->Prop) (h0:Pv 0 σ H) (hl:∀ i σ H,i<=xs.length->Pv i σ H->aI K H a xs)
  (hs:∀ i x σ H,xs[i]? = some x->Pv i σ H->g x σ H fun σ2 H2=>tb { D with nx:=Pv (i+1),ct:=Pv (i+1),bk:=D.nx } σ2 H2) (hd:∀ σ H,Pv xs.length σ H->D.nx σ H) :
  ∃ W:Nat->Nat->St->Hp->Prop,(∃ m,W 0 m σ H)/\∀ i m σ H,W i m σ H ->
   ((sI K a).stop i H/\D.nx σ H)\/((sI K a).go i H/\∃ N:St->Hp->Prop,(∀ σ' H',N σ' H'->∃ m',m' < m/\W (i+1) m' σ' H')/\∀ x H',(sI K a).sH i H x H'->g x σ H' fun σ2 H2=>tb { D with nx:=N,ct:=N,bk:=D.nx } σ2 H2):=by
 refine⟨fun i m σ H=>m=xs.length - i/\i<=xs.length/\Pv i σ H,⟨xs.length,by simp,Nat.zero_le _,h0⟩,?_⟩
 rintro i m σ H ⟨rfl,hi,p⟩
 have q:=hl i σ H hi p
 by_cases hlt:i < xs.length
 ·refine .inr ⟨⟨xs,xs[i],q,by simp [hlt]⟩,Pv (i+1),fun σ' H' p'=>⟨xs.length - (i+1),by omega,rfl,hlt,p'⟩,fun x H' y=>?_⟩
  obtain⟨e,y⟩:=y
  subst e
  exact hs i x σ _ (y xs q) p
 ·have e:i=xs.length:=by omega
  subst e
  exact .inl ⟨⟨xs,q,Nat.le_refl _⟩,hd σ H p⟩
theorem fF {K:PySem.W.Frag} {a:Addr} {xs:List V} {g:TG} {tb:TS} {D:Ends} {σ : St} {H:Hp} (Pv:Nat->St->Hp->Prop) (h0:Pv 0 σ H) (hl:∀ i σ H,i<=xs.length->Pv i σ H->av K H a xs)
  (hs:∀ i x σ H,xs[i]? = some x->Pv i σ H->g x σ H fun σ2 H2=>tb { D with nx:=Pv (i+1),ct:=Pv (i+1),bk:=D.nx } σ2 H2) (hd:∀ σ H,Pv xs.length σ H->D.nx σ H) :
  ∃ W:Nat->Nat->St->Hp->Prop,(∃ m,W 0 m σ H)/\∀ i m σ H,W i m σ H ->
   ((sJ K a).stop i H/\D.nx σ H)\/((sJ K a).go i H/\∃ N:St->Hp->Prop,(∀ σ' H',N σ' H'->∃ m',m' < m/\W (i+1) m' σ' H')/\∀ x H',(sJ K a).sH i H x H'->g x σ H' fun σ2 H2=>tb { D with nx:=N,ct:=N,bk:=D.nx } σ2 H2):=by
 refine⟨fun i m σ H=>m=xs.length - i/\i<=xs.length/\Pv i σ H,⟨xs.length,by simp,Nat.zero_le _,h0⟩,?_⟩
 rintro i m σ H ⟨rfl,hi,p⟩
 have q:=hl i σ H hi p
 by_cases hlt:i < xs.length
 ·refine .inr ⟨⟨xs,xs[i],q,by simp [hlt]⟩,Pv (i+1),fun σ' H' p'=>⟨xs.length - (i+1),by omega,rfl,hlt,p'⟩,fun x H' y=>?_⟩
  obtain⟨e,y⟩:=y
  subst e
  exact hs i x σ _ (y xs q) p
 ·have e:i=xs.length:=by omega
  subst e
  exact .inl ⟨⟨xs,q,Nat.le_refl _⟩,hd σ H p⟩
theorem oz {lo:Int} {n:Nat} {g:TG} {tb:TS} {D:Ends} {σ : St} {H:Hp} (Pv:Nat->St->Hp->Prop) (h0:Pv 0 σ H)
  (hs:∀ i σ H,i < n->Pv i σ H->g (.int (lo+i)) σ H fun σ2 H2=>tb { D with nx:=Pv (i+1),ct:=Pv (i+1),bk:=D.nx } σ2 H2) (hd:∀ σ H,Pv n σ H->D.nx σ H) :
  ∃ W:Nat->Nat->St->Hp->Prop,(∃ m,W 0 m σ H)/\∀ i m σ H,W i m σ H ->
   ((qq lo n).stop i H/\D.nx σ H)\/((qq lo n).go i H/\∃ N:St->Hp->Prop,(∀ σ' H',N σ' H'->∃ m',m' < m/\W (i+1) m' σ' H')/\∀ x H',(qq lo n).sH i H x H'->g x σ H' fun σ2 H2=>tb { D with nx:=N,ct:=N,bk:=D.nx } σ2 H2):=by
 refine⟨fun i m σ H=>m=n - i/\i<=n/\Pv i σ H,⟨n,by simp,Nat.zero_le _,h0⟩,?_⟩
 rintro i m σ H ⟨rfl,hi,p⟩
 by_cases hlt:i < n
 ·refine .inr ⟨hlt,Pv (i+1),fun σ' H' p'=>⟨n - (i+1),by omega,rfl,hlt,p'⟩,fun x H' y=>?_⟩
  obtain⟨e,y⟩:=y
  subst e y
  exact hs i σ _ hlt p
 ·have e:i=n:=by omega
  subst e
  exact .inl ⟨Nat.le_refl _,hd σ H p⟩
abbrev R2:=V->V->Hp->VK->Prop
def cY (X:Cx) (f:Value->Value->Sem Value) (r:R2):Prop :=
 ∀ (pins:List (Addr × Obj)) (s:Shared) (σ : St) (H:Hp) (x y:V) (v u:Value) (Q:VK),Inv X pins σ H s->RelV x v->RelV y u->r x y H Q ->
  wpAny (model X.prog X.w) X.A (f v u) (EP X pins σ Q) X.xe s
def cJ (X:Cx) (f:Value) (r:List V->Hp->VK->Prop):Prop :=
 ∀ (pins:List (Addr × Obj)) (s:Shared) (σ : St) (H:Hp) (xs:List V) (us:List Value) (Q:VK),Inv X pins σ H s->Vals xs us->r xs H Q ->
  wpAny (model X.prog X.w) X.A (call f us) (EP X pins σ Q) X.xe s
def CL (X:Cx) (r:V->Hp->(Bool->Hp->Prop)->Prop):Prop :=
 ∀ (pins:List (Addr × Obj)) (s:Shared) (σ : St) (H:Hp) (x:V) (v:Value) (Q:Bool->Hp->Prop),Inv X pins σ H s->RelV x v->r x H Q ->
  wpAny (model X.prog X.w) X.A (truthy v) (TP X pins σ Q) X.xe s
def vG (r:R2) (ta tb:TE):TE:=fun σ H Q=>ta σ H fun x H1=>tb σ H1 fun y H2=>r x y H2 Q
inductive rI (C:Int->Int->Prop) (g:Int->Int->V) (x:V) (y:V) (H:Hp) (Q:VK):Prop
 | mk (i j:_) (_:x=.int i) (_:y=.int j) (_:C i j) (_:Q (g i j) H)
inductive oA (g:Int->Int->V) (x:V) (y:V) (H:Hp) (Q:VK):Prop
 | mk (i j:_) (_:x=.int i) (_:y=.int j) (_:Q (g i j) H)
section
variable {X:Cx} {a b c:Expr} {ta tb tc:TE} {pos:Pos}
theorem xA (ha:PE X a ta) (hb:PE X b tb) {pins:List (Addr × Obj)} {s:Shared} {σ : St} {H:Hp} {R:V->V->Hp->Prop} (I:Inv X pins σ H s)
  (h:ta σ H fun x H1=>tb σ H1 fun y H2=>R x y H2) {Q:Value->Shared->Prop} {f:Value->Value->Sem Value}
  (hf:∀ v u s2 x y H2,Inv X pins σ H2 s2->RelV x v->RelV y u->R x y H2->wpAny (model X.prog X.w) X.A (f v u) Q X.xe s2) :
  wpAny (model X.prog X.w) X.A (eval a X.env) (fun v s₁=>wpAny (model X.prog X.w) X.A (eval b X.env) (fun u s₂=>wpAny (model X.prog X.w) X.A (f v u) Q X.xe s₂) X.xe s₁) X.xe s:=by
 refine aT (ha pins s σ H _ I h) fun v s1 ⟨x,H1,I1,r1,q1⟩=>?_
 refine aT (hb pins s1 σ H1 _ I1 q1) fun u s2 ⟨y,H2,I2,r2,q2⟩=>?_
 exact hf v u s2 x y H2 I2 r1 r2 q2
theorem aZ {op:Operator} {r:R2} (ho:cY X (binaryOp op) r) (ha:PE X a ta) (hb:PE X b tb):PE X (.BinOp a op b pos) (vG r ta tb):=by
 intro pins s σ H Q I h
 exact wpAny_BinOp (xA ha hb I h fun v u s2 x y H2 I2 rx ry q=>ho pins s2 σ H2 x y v u Q I2 rx ry q)
theorem sL {f:Value->Value->Sem Value} {C:Int->Int->Prop} {g:Int->Int->Int}
  (rule:∀ (i j:Int) (t u:Tok) (s:Shared) (Q:Value->Shared->Prop) (E:Value->Shared->Prop),C i j->Q (.int (g i j) s.toks) { s with toks:=s.toks+1 }->wpAny (model X.prog X.w) X.A (f (.int i t) (.int j u)) Q E s) :
  cY X f (rI C fun i j=>.int (g i j)):=by
 intro pins s σ H x y v u Q I rx ry h
 obtain⟨i,j,rfl,rfl,hc,q⟩:=h
 obtain⟨t,rfl⟩:=rx
 obtain⟨t',rfl⟩:=ry
 exact rule i j t t' s _ _ hc ⟨.int (g i j),H,I.tok _,⟨_,rfl⟩,q⟩
theorem AJ {f:Value->Value->Sem Value} {g:Int->Int->Int}
  (rule:∀ (i j:Int) (t u:Tok) (s:Shared) (Q:Value->Shared->Prop) (E:Value->Shared->Prop),Q (.int (g i j) s.toks) { s with toks:=s.toks+1 }->wpAny (model X.prog X.w) X.A (f (.int i t) (.int j u)) Q E s) :
  cY X f (oA fun i j=>.int (g i j)):=by
 intro pins s σ H x y v u Q I rx ry h
 obtain⟨i,j,rfl,rfl,q⟩:=h
 obtain⟨t,rfl⟩:=rx
 obtain⟨t',rfl⟩:=ry
 exact rule i j t t' s _ _ ⟨.int (g i j),H,I.tok _,⟨_,rfl⟩,q⟩
theorem uk {f:Value->Value->Sem Value} {g:Int->Int->Bool}
  (rule:∀ (i j:Int) (t u:Tok) (s:Shared) (Q:Value->Shared->Prop) (E:Value->Shared->Prop),Q (.bool (g i j)) s->wpAny (model X.prog X.w) X.A (f (.int i t) (.int j u)) Q E s) :
  cY X f (oA fun i j=>.bl (g i j)):=by
 intro pins s σ H x y v u Q I rx ry h
 obtain⟨i,j,rfl,rfl,q⟩:=h
 obtain⟨t,rfl⟩:=rx
 obtain⟨t',rfl⟩:=ry
 exact rule i j t t' s _ _ ⟨.bl (g i j),H,I,rfl,q⟩
def CM (i j:Int):Prop:=0 < j/\j < 1073741824
def CN (i j:Int):Prop:=0<=j/\j<=1000000/\i.natAbs < 2 ^ 64
def xB (i j:Int):Prop:=(-(2 ^ 64) < i/\i < 2 ^ 64)\/(-(2 ^ 64) < j/\j < 2 ^ 64)
theorem xB.ok {i j:Int} (h:xB i j):IntMulOk i j:=by
 rcases h with ⟨h1,h2⟩ | ⟨h1,h2⟩
 ·exact .of_left (intBits_le_64 h1 h2)
 ·exact .of_right (intBits_le_64 h1 h2)
theorem cS:cY X (binaryOp .Add) (oA fun i j=>.int (i+j)):=AJ fun _ _ _ _ _ _ _ q=>add_int q
theorem fT:cY X (binaryOp .Sub) (oA fun i j=>.int (i - j)):=AJ fun _ _ _ _ _ _ _ q=>sub_int q
theorem iD:cY X (binaryOp .Mult) (rI xB fun i j=>.int (i * j)):=sL fun _ _ _ _ _ _ _ hc q=>mul_int q hc.ok
theorem sM:cY X (binaryOp .FloorDiv) (rI CM fun i j=>.int (i / j)):=sL fun i j _ _ _ _ _ hc q=>by
 have h1:(0:Int) < j:=hc.1
 have h2:j < 1073741824:=hc.2
 exact floordiv_int (by omega) (by rw [Int.fdiv_eq_ediv_of_nonneg i (by omega)];exact q) (.inl (PyProof.noPylong_small (by omega)))
theorem gU:cY X (binaryOp .Mod) (rI (fun _ j=>0 < j) fun i j=>.int (i % j)):=sL fun i j _ _ _ _ _ hc q=>by
 have h1:(0:Int) < j:=hc
 exact mod_int' (by omega) (by rw [Int.fmod_eq_emod_of_nonneg i (by omega)];exact q)
theorem my:cY X (binaryOp .Pow) (rI CN fun i j=>.int (i ^ j.toNat)):=sL fun _ _ _ _ _ _ _ hc q=>pow_int_small hc.1 hc.2.1 hc.2.2 q
end
def xC:V->V->Bool
 | .bg,.bg=>true | .bg,.int _=>true | .int _,.bg=>true | .bg,.bl _=>true | .bl _,.bg=>true | .bg,.str _=>true | .str _,.bg=>true
 | .int _,.int _=>true | .bl _,.bl _=>true | .str _,.str _=>true | .gN _,.gN _=>true
 | .int _,.str _=>true | .str _,.int _=>true | .bl _,.str _=>true | .str _,.bl _=>true
 | _,_=>false
def C8:R2:=fun x y H Q=>xC x y=true/\Q (.bl (decide (x=y))) H
def C9:R2:=fun x y H Q=>xC x y=true/\Q (.bl (!decide (x=y))) H
theorem sN {i j:Int}:decide (V.int i=V.int j)=(i == j):=by
 rw [Bool.eq_iff_iff]
 simp
theorem vH {i j:Bool}:decide (V.bl i=V.bl j)=(i == j):=by
 rw [Bool.eq_iff_iff]
 simp
theorem sO {i j:Str}:decide (V.str i=V.str j)=(i == j):=by
 rw [Bool.eq_iff_iff]
 simp
theorem sP {i j:Array UInt8}:decide (V.gN i=V.gN j)=(i.toList == j.toList):=by
 rw [Bool.eq_iff_iff]
 cases i
 cases j
 simp
section
variable {X:Cx} {a b c:Expr} {ta tb tc:TE} {pos:Pos}
theorem bA {pins:List (Addr × Obj)} {σ : St} {H:Hp} {s:Shared} {Q:VK} {k k':Bool} (I:Inv X pins σ H s) (q:Q (.bl k) H) (e:k=k'):EP X pins σ Q (.bool k') s:=by
 subst e
 exact⟨.bl k,H,I,rfl,q⟩
theorem dn:cY X (compareOp .Eq) C8:=by
 intro pins s σ H x y v u Q I rx ry h
 obtain⟨hs,q⟩:=h
 cases x with
 | bg =>
  cases rx
  cases y with
  | bg=>cases ry;exact PySem.EqNone.eq_none_none (bA I q (by simp))
  | bl j=>cases ry;exact PySem.EqNone.eq_none_bool (bA I q (by simp))
  | int j=>obtain⟨t',rfl⟩:=ry;exact PySem.EqNone.eq_none_int (bA I q (by simp))
  | str j=>obtain⟨t',rfl⟩:=ry;exact PySem.EqNone.eq_none_str (bA I q (by simp))
  | _=>exact absurd (show false=true from hs) Bool.false_ne_true
 | bl i =>
  cases rx
  cases y with
  | bg=>cases ry;exact PySem.EqNone.eq_bool_none (bA I q (by simp))
  | bl j=>cases ry;exact eq_bool (bA I q vH)
  | str j=>obtain⟨t',rfl⟩:=ry;exact PySem.EqMixed.eq_bool_str (bA I q (by simp))
  | _=>exact absurd (show false=true from hs) Bool.false_ne_true
 | int i =>
  obtain⟨t,rfl⟩:=rx
  cases y with
  | bg=>cases ry;exact PySem.EqNone.eq_int_none (bA I q (by simp))
  | int j=>obtain⟨t',rfl⟩:=ry;exact eq_int (bA I q sN)
  | str j=>obtain⟨t',rfl⟩:=ry;exact PySem.EqMixed.eq_int_str (bA I q (by simp))
  | _=>exact absurd (show false=true from hs) Bool.false_ne_true
 | str i =>
  obtain⟨t,rfl⟩:=rx
  cases y with
  | bg=>cases ry;exact PySem.EqNone.eq_str_none (bA I q (by simp))
  | bl j=>cases ry;exact PySem.EqMixed.eq_str_bool (bA I q (by simp))
  | int j=>obtain⟨t',rfl⟩:=ry;exact PySem.EqMixed.eq_str_int (bA I q (by simp))
  | str j=>obtain⟨t',rfl⟩:=ry;exact eq_str (bA I q sO)
  | _=>exact absurd (show false=true from hs) Bool.false_ne_true
 | gN i =>
  obtain⟨t,rfl⟩:=rx
  cases y with
  | gN j=>obtain⟨t',rfl⟩:=ry;exact PySem.W.eq_bytes (bA I q sP)
  | _=>exact absurd (show false=true from hs) Bool.false_ne_true
 | _=>cases y <;> exact absurd (show false=true from hs) Bool.false_ne_true
theorem y7:cY X (compareOp .NotEq) C9:=by
 intro pins s σ H x y v u Q I rx ry h
 obtain⟨hs,q⟩:=h
 cases x with
 | bg =>
  cases rx
  cases y with
  | bg=>cases ry;exact PySem.EqNone.ne_none_none (bA I q (by simp))
  | bl j=>cases ry;exact PySem.EqNone.ne_none_bool (bA I q (by simp))
  | int j=>obtain⟨t',rfl⟩:=ry;exact PySem.EqNone.ne_none_int (bA I q (by simp))
  | str j=>obtain⟨t',rfl⟩:=ry;exact PySem.EqNone.ne_none_str (bA I q (by simp))
  | _=>exact absurd (show false=true from hs) Bool.false_ne_true
 | bl i =>
  cases rx
  cases y with
  | bg=>cases ry;exact PySem.EqNone.ne_bool_none (bA I q (by simp))
  | bl j=>cases ry;exact ne_bool (bA I q (congrArg not vH))
  | str j=>obtain⟨t',rfl⟩:=ry;exact PySem.EqMixed.ne_bool_str (bA I q (by simp))
  | _=>exact absurd (show false=true from hs) Bool.false_ne_true
 | int i =>
  obtain⟨t,rfl⟩:=rx
  cases y with
  | bg=>cases ry;exact PySem.EqNone.ne_int_none (bA I q (by simp))
  | int j=>obtain⟨t',rfl⟩:=ry;exact ne_int (bA I q (congrArg not sN))
  | str j=>obtain⟨t',rfl⟩:=ry;exact PySem.EqMixed.ne_int_str (bA I q (by simp))
  | _=>exact absurd (show false=true from hs) Bool.false_ne_true
 | str i =>
  obtain⟨t,rfl⟩:=rx
  cases y with
  | bg=>cases ry;exact PySem.EqNone.ne_str_none (bA I q (by simp))
  | bl j=>cases ry;exact PySem.EqMixed.ne_str_bool (bA I q (by simp))
  | int j=>obtain⟨t',rfl⟩:=ry;exact PySem.EqMixed.ne_str_int (bA I q (by simp))
  | str j=>obtain⟨t',rfl⟩:=ry;exact ne_str (bA I q (congrArg not sO))
  | _=>exact absurd (show false=true from hs) Bool.false_ne_true
 | gN i =>
  obtain⟨t,rfl⟩:=rx
  cases y with
  | gN j=>obtain⟨t',rfl⟩:=ry;exact PySem.W.ne_bytes (bA I q (congrArg not sP))
  | _=>exact absurd (show false=true from hs) Bool.false_ne_true
 | _=>cases y <;> exact absurd (show false=true from hs) Bool.false_ne_true
theorem gC:cY X (compareOp .Lt) (oA fun i j=>.bl (decide (i < j))):=uk fun _ _ _ _ _ _ _ q=>lt_int q
theorem pY:cY X (compareOp .LtE) (oA fun i j=>.bl (decide (i<=j))):=uk fun _ _ _ _ _ _ _ q=>le_int q
theorem kC:cY X (compareOp .Gt) (oA fun i j=>.bl (decide (j < i))):=uk fun _ _ _ _ _ _ _ q=>gt_int q
theorem BO:cY X (compareOp .GtE) (oA fun i j=>.bl (decide (j<=i))):=uk fun _ _ _ _ _ _ _ q=>ge_int q
theorem aS (b:Expr) {op:CmpOp} (h:op ≠ .In:=by decide) (h2:op ≠ .NotIn:=by decide):behindInMarks op b=false:=by
 have e1:(op == CmpOp.In)=false:=by cases op <;> first | rfl | exact absurd rfl h
 have e2:(op == CmpOp.NotIn)=false:=by cases op <;> first | rfl | exact absurd rfl h2
 cases b <;> simp [behindInMarks,e1,e2]
theorem kF {op:CmpOp} {r:R2} (ho:cY X (compareOp op) r) (ha:PE X a ta) (hb:PE X b tb) (hm:behindInMarks op b=false):PE X (.Compare a [op] [b] pos) (vG r ta tb):=by
 intro pins s σ H Q I h
 exact wpAny_Compare1 (xA ha hb I h fun v u s2 x y H2 I2 rx ry q=>ho pins s2 σ H2 x y v u Q I2 rx ry q) hm
inductive xD (Q:(Bool->Hp->Prop)) (x:V) (H':Hp):Prop
 | mk (k:_) (_:x=.bl k) (_:Q k H')
def BP (t:TE):TT:=fun σ H Q=>t σ H fun x H'=>xD Q x H'
theorem aF {op:CmpOp} {r:R2} (ho:cY X (compareOp op) r) (ha:PE X a ta) (hb:PE X b tb) (hm:behindInMarks op b=false):PT X (.Compare a [op] [b] pos) (BP (vG r ta tb)):=by
 intro pins s σ H Q I h
 refine wpAny_isTrue_Compare1 (aT (ha pins s σ H _ I h) fun v s1 ⟨x,H1,I1,r1,q1⟩=>aT (hb pins s1 σ H1 _ I1 q1) fun u s2 ⟨y,H2,I2,r2,q2⟩ =>
  aT (ho pins s2 σ H2 x y v u _ I2 r1 r2 q2) fun c s3 ⟨z,H3,I3,r3,k,e,q3⟩=>?_) hm
 subst e
 cases r3
 exact wpAny_truthy_bool ⟨H3,I3,q3⟩
def AK (K:PySem.W.Frag) (x:V) (H:Hp) (k:Bool):Prop :=
 match x with
 | .bg=>k=false
 | .bl b=>k=b
 | .int i=>k=(i != 0)
 | .str y=>y.length<=sizeLine/\k=((y.length:Int) != 0)
 | .gN y=>y.size<=sizeLine/\k=((y.size:Int) != 0)
 | .ref p=>(∃ xs,aI K H p xs/\k = !xs.isEmpty)\/(∃ xs,av K H p xs/\k = !xs.isEmpty)\/∃ kvs,H p=some (.dK kvs)/\k = !kvs.isEmpty
 | _=>False
theorem um {κ : Type} {kvs:List (κ × V)} {vs:List (κ × Value)} (r:KV kvs vs):(!vs.isEmpty) = !kvs.isEmpty:=by
 cases r <;> rfl
theorem mz {xs:List V} {its:List Value} (r:Vals xs its):(!its.toArray.isEmpty) = !xs.isEmpty:=by
 cases r <;> simp
theorem gW:(sizeLine:Nat) < 2 ^ 63:=by rw [sizeLine_eq];decide
theorem AL:CL X (fun x H Q=>∃ k,AK X.K x H k/\Q k H):=by
 intro pins s σ H x v Q I rx h
 obtain⟨k,e,q⟩:=h
 have hl:=gW
 have hs:sizeLine=16777216:=sizeLine_eq
 cases x with
 | bg =>
  cases rx
  have e':k=false:=e
  subst e'
  exact truthy_none ⟨H,I,q⟩
 | bl b =>
  cases rx
  have e':k=b:=e
  subst e'
  exact wpAny_truthy_bool ⟨H,I,q⟩
 | int i =>
  obtain⟨t,rfl⟩:=rx
  have e':k=(i != 0):=e
  subst e'
  exact PySem.P.truthy_int ⟨H,I,q⟩
 | str y =>
  obtain⟨t,rfl⟩:=rx
  obtain⟨hy,e'⟩:y.length<=sizeLine/\k=((y.length:Int) != 0):=e
  subst e'
  exact PySem.P.truthy_str (by omega) ⟨H,I.tok _,q⟩
 | gN y =>
  obtain⟨t,rfl⟩:=rx
  obtain⟨hy,e'⟩:y.size<=sizeLine/\k=((y.size:Int) != 0):=e
  subst e'
  exact PySem.W.truthy_bytes (by omega) ⟨H,I.tok _,q⟩
 | ref p =>
  cases rx
  have e':(∃ xs,aI X.K H p xs/\k = !xs.isEmpty)\/(∃ xs,av X.K H p xs/\k = !xs.isEmpty)\/∃ kvs,H p=some (.dK kvs)/\k = !kvs.isEmpty:=e
  rcases e' with ⟨xs,hx,e'⟩ | ⟨xs,hx,e'⟩ | ⟨kvs,hx,e'⟩
  ·subst e'
   obtain⟨its,r,pl,hz⟩:=I.list hx
   have hlen:=r.length
   exact wpAny_truthy_list pl.isList (by simp only [List.size_toArray];omega) ⟨H,I.tok _,by rw [mz r];exact q⟩
  ·subst e'
   obtain⟨its,r,pl,hz⟩:=I.tuple hx
   have hlen:=r.length
   exact truthy_tuple pl (by simp only [List.size_toArray];omega) ⟨H,I.tok _,by rw [mz r];exact q⟩
  ·subst e'
   obtain⟨hz,hS,vs,r,m⟩:kvs.length<=sizeLine/\(p == sysModules)=false/\∃ vs,KV kvs vs/\s.heap.DictOf (aG X.prog X.w) p vs:=I.aJ p _ hx
   have hlen:kvs.length=vs.length:=Paired.length r
   exact wpAny_truthy_dict hS m (by omega) ⟨H,I.tok _,by rw [um r];exact q⟩
 | _=>exact (show False from e).elim
theorem xE (ha:PE X a ta) (he:∀ whole,isTrue a X.env whole=(do let v <-whole;standAt a.pos;holding [v] (truthy v))) :
  PT X a (fun σ H Q=>ta σ H fun x H'=>∃ k,AK X.K x H' k/\Q k H'):=by
 intro pins s σ H Q I h
 exact isTrue_plain (aT (ha pins s σ H _ I h) fun v s1 ⟨x,H1,I1,r1,q1⟩=>AL pins s1 σ H1 x v Q I1 r1 q1) (he _)
theorem vals1 {x:V} {us:List Value} (r:Vals [x] us):∃ u,us = [u]/\RelV x u:=by
 cases r with
 | cons r1 r2=>cases r2;exact⟨_,rfl,r1⟩
theorem vals2 {x y:V} {us:List Value} (r:Vals [x,y] us):∃ u w',us = [u,w']/\RelV x u/\RelV y w':=by
 cases r with
 | cons r1 r2 =>
  cases r2 with
  | cons r3 r4=>cases r4;exact⟨_,_,rfl,r1,r3⟩
theorem vI (hc:X.calm=true):cJ X (.builtin "max") (fun xs H Q=>∃ i j,xs = [.int i,.int j]/\Q (.int (if j > i then j else i)) H):=by
 intro pins s σ H xs us Q I r h
 obtain⟨i,j,rfl,q⟩:=h
 obtain⟨u,w',rfl,⟨t,rfl⟩,⟨t',rfl⟩⟩:=vals2 r
 refine max_two_ints (I.ok.hd hc) fun h' tk k=>⟨_,H,I.kept k,?_,q⟩
 by_cases hj:j > i
 ·rw [if_pos hj,if_pos hj];exact⟨_,rfl⟩
 ·rw [if_neg hj,if_neg hj];exact⟨_,rfl⟩
theorem oB (hc:X.calm=true):cJ X (.builtin "min") (fun xs H Q=>∃ i j,xs = [.int i,.int j]/\Q (.int (if j < i then j else i)) H):=by
 intro pins s σ H xs us Q I r h
 obtain⟨i,j,rfl,q⟩:=h
 obtain⟨u,w',rfl,⟨t,rfl⟩,⟨t',rfl⟩⟩:=vals2 r
 refine min_two_ints (I.ok.hd hc) fun h' tk k=>⟨_,H,I.kept k,?_,q⟩
 by_cases hj:j < i
 ·rw [if_pos hj,if_pos hj];exact⟨_,rfl⟩
 ·rw [if_neg hj,if_neg hj];exact⟨_,rfl⟩
end
structure lN (h:Heap) (x dx C:Addr) (mA:Str->Option Value):Prop where
 obj:h.get? x=some (PySem.W.instObj C dx)
 ns:h.Ns1 dx mA
 ne:dx ≠ x
theorem vJ {h:Heap} {dx:Addr} {mA:Str->Option Value} (n:h.Ns1 dx mA):∃ od,h.get? dx=some od/\∀ name,PySem.W.lookIn name od=some (mA name):=by
 obtain⟨o,es,ep,ho,hd,hk,_,hm⟩:=n
 refine⟨o,ho,fun name=>?_⟩
 have e:=hm name
 unfold nsFind findBy at e
 rw [<-Array.find?_toList] at e
 unfold PySem.W.lookIn
 rw [hd]
 dsimp only
 split
 ·rename_i y q
  rw [q] at e
  exact congrArg some e
 ·rename_i q
  rw [q] at e
  have a:es.toList.any (·.refKey)=false:=by
   rw [List.any_eq_false]
   intro y hy
   obtain⟨z,t,hkey⟩:=hk y (Array.mem_toList_iff.mp hy)
   simp [DictEntry.refKey,hkey]
  have a':¬ es.toList.any (·.refKey)=true:=by rw [a];exact Bool.false_ne_true
  rw [if_neg a']
  exact congrArg some e
theorem lN.look {h:Heap} {x dx C:Addr} {mA:Str->Option Value} (I:lN h x dx C mA):∃ od,PySem.W.InstAt h x (PySem.W.instObj C dx) C (some od)/\∀ name,PySem.W.lookIn name od=some (mA name) :=
 let ⟨od,ho,hl⟩:=vJ I.ns
 ⟨od,⟨I.obj,rfl,rfl,ho⟩,hl⟩
section
variable {prog:Program} {w:World} {A:Around} {E:Value->Shared->Prop} {s:Shared} {K:PySem.W.Frag} {x dx C f:Addr} {mA:Str->Option Value} {name:Str} {v:Value}
theorem get_map {expr:Bool} {Q:Value->Shared->Prop} (X:K.In s.heap) (I:lN s.heap x dx C mA) (hg:PySem.W.plainGet K C name=true) (hh:PySem.W.hasDictIn K C=true)
  (ha:PySem.W.findIn K (.ref C) name=some none) (hv:mA name=some v) (hv':PySem.W.handedIn v=true) (h:Q v { s with toks:=s.toks+1 }) :
  wpAny (model prog w) A (getAttr (.ref x) name expr) Q E s:=by
 obtain⟨od,J,hl⟩:=I.look
 exact PySem.W.get_value X J (PySem.W.plainGet_of hg).1 (PySem.W.findObj_own hh ha rfl (by rw [hl,hv])) hv' h
theorem xF {pl:Sem Bool} {Q:Value × List Value->Shared->Prop} (X:K.In s.heap) (I:lN s.heap x dx C mA) (hg:PySem.W.plainGet K C name=true)
  (hf:PySem.W.findIn K (.ref C) name=some (some (.ref f))) (ht:PySem.W.isFn K (.ref f)=true) (hv:mA name=none) (h:Q (.ref f,[.ref x]) s) :
  wpAny (model prog w) A (getMethod (.ref x) name pl) Q E s:=by
 obtain⟨od,J,hl⟩:=I.look
 exact PySem.W.method_fn X J (PySem.W.plainGet_of hg).1 (PySem.W.plainGet_of hg).2 hf (beq_iff_eq.mp ht) (by show (PySem.W.lookIn name od).map (·.isSome)=some false;rw [hl,hv];rfl) h
theorem zB {ns:List Str} {Q:Unit->Shared->Prop} (X:K.In s.heap) (I:lN s.heap x dx C mA)
  (hs:PySem.W.findIn K (.ref C) "__setattr__" = some (some (.builtin "object.__setattr__"))) (hp:PySem.W.plainOver K C=true) (ht:PySem.W.takerIn K C name=some none) (hh:PySem.W.hasDictIn K C=true)
  (hw:PySem.Within mA ns) (hsz:ns.length<=sizeLine)
  (h:∀ h',lN h' x dx C (fun y=>if y=name then some v else mA y)->Heap.SameBut dx s.heap h'->Q () { s with heap:=h',toks:=s.toks+2 }) :
  wpAny (model prog w) A (setAttr (.ref x) name v) Q E s:=by
 obtain⟨od,J,hl⟩:=I.look
 refine PySem.W.set_plain X J hs (PySem.W.osa_open (s:={ s with toks:=s.toks+1 }) (r:=none) X J hp ht fun b=>?_)
 obtain⟨cd,hc,hd'⟩:=PySem.W.any_some hh
 have hx:s.heap.get? x=some ⟨.ref C,some dx,.plain,#[]⟩:=I.obj
 refine wpAny_bind (wpAny_pure (wpAny_bind (wpAny_bind (wpAny_loadPart hx (wpAny_bind (PySem.W.Looks.here (s:={ s with toks:=s.toks+1 }) (PySem.W.looks_clsIn X hc) ?_))))))
 rw [hd']
 refine wpAny_pure (a:=some dx) (wpAny_bind (wpAny_pure (wpAny_bind ?_)))
 refine wpAny_nsSet1 (s:={ s with toks:=s.toks+1 }) I.ns fun h' hn2 hs2=>?_
 obtain⟨oD,esD,epD,hoD,hdD,hcD⟩:=hn2.count (PySem.Within.cons name v hw)
 refine wpAny_bind (wpAny_lookBehind hoD (by rw [hdD];exact pastItsLine_dict (Nat.le_trans hcD (by rw [List.length_cons];omega))) ?_)
 exact wpAny_pure (h _ ⟨(hs2.2 _ (Ne.symm I.ne)).trans I.obj,hn2,I.ne⟩ hs2)
theorem xG {R:Result->Shared->Prop} {vs:List Value} {kw:List (Str × Value)} (X:K.In s.heap) (hm:PySem.W.makesIn K C=true)
  (hi:PySem.W.findIn K (.ref C) "__init__" = some (some (.ref f))) (hf:PySem.W.typeIn K (.ref f)=some (.type "function"))
  (h:codeAny (model prog w) (A.under (.builtin "type.__call__" ⟨.ref C :: vs,kw⟩)) (.call (.ref f) ⟨.ref (s.heap.objs.size+1) :: vs,kw⟩) (PySem.W.InitBack (s.heap.objs.size+1) R)
   { s with heap:=(s.heap.push PySem.W.emptyDict).push (PySem.W.instObj C s.heap.objs.size) }) :
  codeAny (model prog w) A (.call (.ref C) ⟨vs,kw⟩) R s:=by
 obtain⟨hh,g,d,t,os⟩:=s
 exact PySem.W.make_core (PySem.W.makes_of X hm) (PySem.W.looks_findIn X hi) (fun self=>PySem.W.bind_fn X self hf) (.inl rfl) h
end
def cZ (f:Str) (v:V):List (Str × V)->List (Str × V)
 | []=>[(f,v)]
 | (g,x) :: r=>if g=f then (g,v) :: r else (g,x) :: cZ f v r
theorem kY (f g:Str) (v:V):∀ fs:List (Str × V),(cZ f v fs).lookup g=if g=f then some v else fs.lookup g
 | []=>by
  show List.lookup g [(f,v)] = _
  by_cases h:g=f
  ·have hb:(g == f)=true:=beq_iff_eq.mpr h
   simp only [List.lookup,hb,if_pos h]
  ·have hb:(g == f)=false:=beq_eq_false_iff_ne.mpr h
   simp only [List.lookup,hb,if_neg h]
 | (k,x) :: r=>by
  have ih:=kY f g v r
  rw [show cZ f v ((k,x) :: r)=(if k=f then (k,v) :: r else (k,x) :: cZ f v r) from rfl]
  by_cases hk:k=f
  ·rw [if_pos hk]
   by_cases h:g=k
   ·have hb:(g == k)=true:=beq_iff_eq.mpr h
    simp only [List.lookup,hb,if_pos (h.trans hk)]
   ·have hb:(g == k)=false:=beq_eq_false_iff_ne.mpr h
    simp only [List.lookup,hb,if_neg (fun e:g=f=>h (e.trans hk.symm))]
  ·rw [if_neg hk]
   by_cases h:g=k
   ·have hb:(g == k)=true:=beq_iff_eq.mpr h
    simp only [List.lookup,hb,if_neg (fun e:g=f=>hk (h.symm.trans e))]
   ·have hb:(g == k)=false:=beq_eq_false_iff_ne.mpr h
    simp only [List.lookup,hb]
    exact ih
theorem jL (f:Str) (v:V):∀ fs:List (Str × V),f ∈ (cZ f v fs).map (·.1)/\∀ g,g ∈ fs.map (·.1)->g ∈ (cZ f v fs).map (·.1)
 | []=>⟨by simp [cZ],fun g h=>by simp at h⟩
 | (k,x) :: r=>by
  obtain⟨i1,i2⟩:=jL f v r
  rw [show cZ f v ((k,x) :: r)=(if k=f then (k,v) :: r else (k,x) :: cZ f v r) from rfl]
  by_cases hk:k=f
  ·rw [if_pos hk]
   subst hk
   exact⟨by simp,fun g h=>by simpa using h⟩
  ·rw [if_neg hk]
   refine⟨?_,fun g h=>?_⟩
   ·rw [List.map_cons]
    exact List.mem_cons_of_mem _ i1
   ·rw [List.map_cons] at h ⊢
    rcases List.mem_cons.mp h with e | e
    ·exact List.mem_cons.mpr (.inl e)
    ·exact List.mem_cons_of_mem _ (i2 g e)
theorem kZ (f:Str) (v:V):∀ fs:List (Str × V),(cZ f v fs).length<=fs.length+1
 | []=>by simp [cZ]
 | (k,x) :: r=>by
  have ih:=kZ f v r
  rw [show cZ f v ((k,x) :: r)=(if k=f then (k,v) :: r else (k,x) :: cZ f v r) from rfl]
  by_cases hk:k=f
  ·rw [if_pos hk,List.length_cons,List.length_cons];omega
  ·rw [if_neg hk,List.length_cons,List.length_cons];omega
theorem dX.some_of {v:V} {o:Option Value} (r:dX (some v) o):∃ u,o=some u/\RelV v u:=by
 cases o with
 | none=>exact (show False from r).elim
 | some u=>exact⟨u,rfl,r⟩
theorem dX.none_of {o:Option Value} (r:dX none o):o=none:=by
 cases o with
 | none=>rfl
 | some u=>exact (show False from r).elim
theorem vK {v:V} {u:Value} (r:RelV v u):PySem.W.handedIn u=true:=by
 cases v with
 | bg=>cases (show u=Value.none from r);rfl
 | bl b=>cases (show u=Value.bool b from r);rfl
 | int i=>obtain⟨t,e⟩:=(show ∃ t,u=Value.int i t from r);cases e;rfl
 | str x=>obtain⟨t,e⟩:=(show ∃ t,u=Value.str x t from r);cases e;rfl
 | gN b=>obtain⟨t,e⟩:=(show ∃ t,u=Value.bytes b t from r);cases e;rfl
 | vz b=>obtain⟨t,e⟩:=(show ∃ t,u=Value.float b t from r);cases e;rfl
 | ref a=>cases (show u=Value.ref a from r);rfl
 | ty n=>cases (show u=Value.type n from r);rfl
section
variable {P:Program} {w:World} {H H':Hp} {h h':Heap} {a C dx:Addr} {fs fs':List (Str × V)}
theorem nH (aJ:cR P w H h) (e:H a=some (.ins C dx fs)):∃ mA,lN h a dx C mA/\(∀ f,dX (fs.lookup f) (mA f))/\PySem.Within mA (fs.map (·.1))/\fs.length<=1000/\H dx=some (.own a):=by
 obtain⟨d,z,ne,ob,mA,n,r,q⟩:=(show bC P w H h a (.ins C dx fs) from aJ a _ e)
 exact⟨mA,⟨ob,n,ne⟩,r,q,z,d⟩
end
structure jM (K:PySem.W.Frag) (C:Addr):Prop where
 pg:PySem.W.plainGet K C Str.empty=true
 hd:PySem.W.hasDictIn K C=true
 po:PySem.W.plainOver K C=true
 sa:PySem.W.findIn K (.ref C) "__setattr__" = some (some (.builtin "object.__setattr__"))
theorem jM.get {K:PySem.W.Frag} {C:Addr} (c:jM K C) (f:Str):PySem.W.plainGet K C f=true:=c.pg
def fU (K:PySem.W.Frag) (C:Addr) (f:Str):Prop:=PySem.W.findIn K (.ref C) f=some none
theorem fU.BQ {K:PySem.W.Frag} {C:Addr} {f:Str} (n:fU K C f):PySem.W.takerIn K C f=some none:=by
 unfold PySem.W.takerIn
 rw [show PySem.W.findIn K (.ref C) f=some none from n]
 rfl
structure Meth (K:PySem.W.Frag) (C:Addr) (m:Str) (f:Addr):Prop where
 at_:PySem.W.findIn K (.ref C) m=some (some (.ref f))
 fn:PySem.W.isFn K (.ref f)=true
 kp:PySem.W.keepIn K (.ref f)=true
section
variable {X:Cx} {pins:List (Addr × Obj)} {σ : St} {H:Hp} {s:Shared} {a C dx:Addr} {fs:List (Str × V)} {f:Str} {v:V} {A:Around} {E:Value->Shared->Prop}
theorem uo {b:Bool} {Q:Value->Shared->Prop} (I:Inv X pins σ H s) (e:H a=some (.ins C dx fs)) (c:jM X.K C) (n:fU X.K C f) (l:fs.lookup f=some v)
  (h:∀ u s',Inv X pins σ H s'->RelV v u->Q u s'):wpAny (model X.prog X.w) A (getAttr (.ref a) f b) Q E s:=by
 obtain⟨mA,O,r,_,_,_⟩:=nH I.aJ e
 obtain⟨u,hu,ru⟩:=dX.some_of (v:=v) (o:=mA f) (by rw [<-l];exact r f)
 exact get_map I.gu O (c.get f) c.hd n hu (vK ru) (h u _ (I.tok _) ru)
theorem uq {m:Str} {g:Addr} {pl:Sem Bool} {Q:Value × List Value->Shared->Prop} (I:Inv X pins σ H s) (e:H a=some (.ins C dx fs)) (c:jM X.K C) (k:Meth X.K C m g) (l:fs.lookup m=none)
  (h:Q (.ref g,[.ref a]) s):wpAny (model X.prog X.w) A (getMethod (.ref a) m pl) Q E s:=by
 obtain⟨mA,O,r,_,_,_⟩:=nH I.aJ e
 have hn:mA m=none:=dX.none_of (by rw [<-l];exact r m)
 exact xF I.gu O (c.get m) k.at_ k.fn hn h
theorem ur {y:V} {u:Value} {Q:Unit->Shared->Prop} (I:Inv X pins σ H s) (e:H a=some (.ins C dx fs)) (c:jM X.K C) (n:fU X.K C f) (hl:fs.length < 1000) (ry:RelV y u)
  (h:∀ s',Inv X pins σ (upd H a (.ins C dx (cZ f y fs))) s'->Q () s'):wpAny (model X.prog X.w) A (setAttr (.ref a) f u) Q E s:=by
 obtain⟨mA,O,r,wi,_,ho⟩:=nH I.aJ e
 have hz:(fs.map (·.1)).length<=sizeLine:=by rw [List.length_map,sizeLine_eq];omega
 refine zB I.gu O c.sa c.po n.BQ c.hd wi hz fun h' O' sb=>h _ ?_
 have hd:∃ o,h'.get? dx=some o:=let ⟨o,_,_,e',_⟩:=O'.ns;⟨o,e'⟩
 refine I.write (x:=a) (e:=dx) (by rw [e];exact True.intro) (.inr ho) (fun b q hb z=>(sb.2 b hb).trans z) hd ?_
 refine⟨by rw [ao O.ne];exact ho,?_,O.ne,O'.obj,_,O'.ns,fun g=>?_,fun g hg=>?_⟩
 ·have:=kZ f y fs;omega
 ·show dX ((cZ f y fs).lookup g) (if g=f then some u else mA g)
  rw [kY]
  by_cases q:g=f
  ·rw [if_pos q,if_pos q];exact ry
  ·rw [if_neg q,if_neg q];exact r g
 ·by_cases q:g=f
  ·rw [q];exact (jL f y fs).1
  ·refine (jL f y fs).2 g (wi g fun z=>hg ?_)
   show (if g=f then some u else mA g)=none
   rw [if_neg q];exact z
theorem Inv.made (I:Inv X pins σ H s):Inv X pins σ (upd (upd H s.heap.objs.size (.own (s.heap.objs.size+1))) (s.heap.objs.size+1) (.ins C s.heap.objs.size []))
  { s with heap:=(s.heap.push PySem.W.emptyDict).push (PySem.W.instObj C s.heap.objs.size) }:=by
 have e1:(s.heap.push PySem.W.emptyDict).get? s.heap.objs.size=some PySem.W.emptyDict:=Heap.get?_push_size s.heap rfl
 have e2:((s.heap.push PySem.W.emptyDict).push (PySem.W.instObj C s.heap.objs.size)).get? (s.heap.objs.size+1)=some (PySem.W.instObj C s.heap.objs.size):=by
  have:=Heap.get?_push_size (s.heap.push PySem.W.emptyDict) (o:=PySem.W.instObj C s.heap.objs.size) rfl
  rwa [Heap.size_push] at this
 have e3:(s.heap.push PySem.W.emptyDict).Ns s.heap.objs.size (fun _=>none):=⟨PySem.W.emptyDict,#[],_,e1,rfl,(fun e he=>absurd he (by simp)),fun _=>rfl⟩
 have I1:=I.laid (a:=s.heap.objs.size) (o:=.own (s.heap.objs.size+1)) (h':=s.heap.push PySem.W.emptyDict) (t':=s.toks) (fun b u q=>Heap.get?_push_of_some _ q) (Nat.le_refl _) ⟨_,e1⟩
 refine I1.laid (a:=s.heap.objs.size+1) (o:=.ins C s.heap.objs.size []) (t':=s.toks) (fun b u q=>Heap.get?_push_of_some _ q) (Nat.le_of_eq (Heap.size_push _ _)) ?_
 have ne:s.heap.objs.size ≠ s.heap.objs.size+1:=Nat.ne_of_lt (Nat.lt_succ_self _)
 refine⟨by rw [ao ne,aa],Nat.zero_le _,ne,e2,fun _=>none,(Heap.Ns1.of_empty e3).at fun o q=>Heap.get?_push_of_some _ q,fun _=>True.intro,fun y hy=>absurd rfl hy⟩
theorem zC {prog:Program} {w:World} {env:Env} {e:Expr} {f:Str} {pos:Pos} {s:Shared} {Q:Value->Shared->Prop} (hb:attributeBase e f env (eval e env)=eval e env)
  (h:wpAny (model prog w) A (eval e env) (fun o s₁=>wpAny (model prog w) A (getAttr o f true) Q E s₁) E s):wpAny (model prog w) A (eval (.Attribute e f pos) env) Q E s :=
 Attribute_any_ h (by rw [arm_eval_Attribute,hb])
end
inductive zD (K:PySem.W.Frag) (f:Str) (Q:VK) (x:V) (H1:Hp):Prop
 | mk (a C dx fs v:_) (_:x=.ref a) (_:H1 a=some (.ins C dx fs)) (_:jM K C) (_:fU K C f) (_:fs.lookup f=some v) (_:Q v H1)
def AM (K:PySem.W.Frag) (ta:TE) (f:Str):TE:=fun σ H Q=>ta σ H fun x H1=>zD K f Q x H1
inductive zE (K:PySem.W.Frag) (f:Str) (D:Ends) (σ : St) (y:V) (x:V) (H2:Hp):Prop
 | mk (a C dx fs:_) (_:x=.ref a) (_:H2 a=some (.ins C dx fs)) (_:jM K C) (_:fU K C f) (_:fs.length < 1000) (_:D.nx σ (upd H2 a (.ins C dx (cZ f y fs))))
def CO (K:PySem.W.Frag) (ta tv:TE) (f:Str):TS:=fun D σ H=>tv σ H fun y H1=>ta σ H1 fun x H2=>zE K f D σ y x H2
section
variable {X:Cx} {o e value:Expr} {f:Str} {pos pos' tpos:Pos} {ta tv:TE}
theorem fc (he:PE X e ta) (hb:attributeBase e f X.env (eval e X.env)=eval e X.env):PE X (.Attribute e f pos) (AM X.K ta f):=by
 intro pins s σ H Q I h
 refine zC hb (aT (he pins s σ H _ I h) fun u s1 ⟨x,H1,I1,rx,a,C,dx,fs,v,ex,ea,c,n,l,q⟩=>?_)
 subst ex
 obtain rfl:u=Value.ref a:=rx
 exact uo I1 ea c n l fun u' s2 I2 ru=>⟨v,H1,I2,ru,q⟩
theorem vL (ha:PE X o ta) (hv:PE X value tv) (hs:swapsWith value (some (.Attribute o f pos')) pos.line X.env=pure false):PS X (.Assign [.Attribute o f pos'] value pos) (CO X.K ta tv f):=by
 intro pins s σ H D I h
 refine plainObj_wpAny_Assign_Attribute (aT (hv pins s σ H _ I h) fun u s1 ⟨y,H1,I1,ry,q⟩=>aT (ha pins s1 σ H1 _ I1 q) fun ov s2 ⟨x,H2,I2,rx,a,C,dx,fs,ex,ea,c,n,l,q2⟩=>?_) hs
 subst ex
 obtain rfl:ov=Value.ref a:=rx
 exact ur I2 ea c n l ry fun s3 I3=>⟨σ,_,I3,q2⟩
end
section
variable {X:Cx} {pins:List (Addr × Obj)} {σ : St} {H:Hp} {s:Shared} {A:Around} {E:Value->Shared->Prop} {Q:Value->Shared->Prop} {c:Value} {b:Bool}
end
structure cb (k:Nat) (A:Around):Prop where
 hd:A.handled=none
 dp:A.depth+3 * k+5 < recursionLimit
 un:A.units+16 * k+200 < cLine
theorem cb.mono {j k:Nat} {A:Around} (r:cb k A) (h:j<=k):cb j A:=⟨r.hd,by have:=r.dp;omega,by have:=r.un;omega⟩
theorem cb.deeper {k:Nat} {A:Around} (r:cb (k+1) A) (env:Env):cb k (A.deeper env) :=
 ⟨r.hd,by have:=r.dp;show A.depth+1+3 * k+5 < _;omega,by have:=r.un;show A.units+3+16 * k+200 < _;omega⟩
theorem uu {A:Around} {C:Addr} {us:List Value} {kw:List (Str × Value)}:(A.under (.builtin "type.__call__" ⟨.ref C :: us,kw⟩)).depth=A.depth+1:=by
 first | rfl | simp [Around.under,Code.weight,Code.isCreation,Code.isGuard,Code.isCaller,Code.frames,Code.isFrame,guardIds]
theorem uv {A:Around} {C:Addr} {us:List Value} {kw:List (Str × Value)}:(A.under (.builtin "type.__call__" ⟨.ref C :: us,kw⟩)).units=A.units+1:=by
 first | rfl | simp [Around.under,Code.cUnits,Code.frames,Code.isFrame]
theorem cb.make {k:Nat} {A:Around} (r:cb (k+1) A) (C:Addr) (us:List Value) (kw:List (Str × Value)):cb k (A.under (.builtin "type.__call__" ⟨.ref C :: us,kw⟩)) :=
 ⟨r.hd,by have:=r.dp;rw [uu];omega,by have:=r.un;rw [uv];omega⟩
theorem cb.depth {k:Nat} {A:Around} (r:cb k A):A.depth < recursionLimit:=by have:=r.dp;omega
theorem cb.units {k:Nat} {A:Around} (r:cb k A):A.units+64 < cLine:=by have:=r.un;omega
def nI:TA:=fun _ H Q=>Q [] H
def fe (ta:TE) (tr:TA):TA:=fun σ H Q=>ta σ H fun x H1=>tr σ H1 fun xs H2=>Q (x :: xs) H2
section
variable {X:Cx} {e:Expr} {es:List Expr} {te:TE} {t:TA} {pos:Pos}
theorem bX:PA X [] nI:=fun _ _ _ _ H Q I h=>Calls.spliced_nil ⟨[],H,I,.nil,h⟩
theorem bI (ha:PE X e te) (hr:PA X es t) (hs:starEach (e :: es) X.env=(false,eval e X.env) :: starEach es X.env:=by rfl):PA X (e :: es) (fe te t):=by
 intro pos pins s σ H Q I h
 rw [hs]
 show wpAny _ _ (spliced ((false,eval e X.env) :: backTo pos (starEach es X.env))) _ _ s
 refine Calls.spliced_cons (aT (ha pins s σ H _ I h) fun u s1 ⟨x,H1,I1,r1,q1⟩=>?_)
 exact aT (hr pos pins s1 σ H1 _ I1 q1) fun us s2 ⟨xs,H2,I2,r2,q2⟩=>⟨x :: xs,H2,I2,.cons r1 r2,q2⟩
def CP (t:TA):TE:=fun σ H Q=>t σ H fun xs H1=>xs.length<=sizeLine/\∀ p,H1 p=none->Q (.ref p) (upd H1 p (.tup xs))
def CQ (t:TA):TE:=fun σ H Q=>t σ H fun xs H1=>xs.length<=sizeLine/\∀ p,H1 p=none->Q (.ref p) (upd H1 p (.lst xs))
theorem bh {x1} (h:PA X es t):PE X (.Tuple es x1 pos) (CP t):=by
 intro pins s σ H Q I hq
 refine wpAny_Tuple_spliced (aT (h pos pins s σ H _ I hq) fun us s1 ⟨xs,H1,I1,r,z,q⟩=>⟨by rw [<-r.length];exact z,?_⟩)
 have hf:H1 s1.heap.objs.size=none:=I1.aJ.fresh (Nat.le_refl _)
 refine⟨.ref s1.heap.objs.size,upd H1 s1.heap.objs.size (.tup xs),I1.laid (t':=s1.toks) (fun b u e=>Heap.get?_push_of_some _ e) (Nat.le_refl _) ?_,rfl,q _ hf⟩
 exact⟨z,us,r,⟨_,Heap.get?_push_size _ rfl,rfl,_,rfl,rfl⟩⟩
theorem b6 (h:PA X es t):PE X (.List es pos) (CQ t):=by
 intro pins s σ H Q I hq
 refine wpAny_List_spliced (aT (h pos pins s σ H _ I hq) fun us s1 ⟨xs,H1,I1,r,z,q⟩=>⟨by rw [<-r.length];exact z,?_⟩)
 have hf:H1 s1.heap.objs.size=none:=I1.aJ.fresh (Nat.le_refl _)
 refine⟨.ref s1.heap.objs.size,upd H1 s1.heap.objs.size (.lst xs),I1.laid (t':=s1.toks) (fun b u e=>Heap.get?_push_of_some _ e) (Nat.le_refl _) ?_,rfl,q _ hf⟩
 exact⟨z,us,0,r,Heap.get?_push_size _ rfl⟩
end
abbrev Sp:=List V->Hp->VK->XK->Prop
abbrev jN:=List Env->Hp->Shared->XK->Value->Shared->Prop
structure lO (P:Program) (w:World) (K:PySem.W.Frag) (mg:Str->Option Value) (base:Heap) (A:Around) (outer:List Env) (s:Shared) (H:Hp):Prop where
 frames:A.frames=some outer
 mod:Mod K mg base
 bs:∀ b o,base.get? b=some o->s.heap.get? b=some o/\H b=none
 mn:base.objs.size<=s.heap.objs.size
 gg:s.heap.FunFrames base outer
 qg:∀ b ∈ jG outer,H b=none
 aJ:cR P w H s.heap
 bare:AllBare s.gens
def CE (outer:List Env) (P:Program) (w:World) (H:Hp) (s:Shared) (Q:VK) (u:Value) (s':Shared):Prop :=
 ∃ v H',s'.os=s.os/\AllBare s'.gens/\Un (jG outer) [] H H' s.heap s'.heap/\cR P w H' s'.heap/\RelV v u/\Q v H'
def CR (CX:jN) (outer:List Env) (P:Program) (w:World) (H:Hp) (s:Shared) (Q:VK) (E:XK) (r:Result) (s':Shared):Prop :=
 match r with
 | .ok (.ret u)=>CE outer P w H s Q u s'
 | .ok _=>False
 | .error e=>CX outer H s E e s'
structure ba (P:Program) (w:World) (K:PySem.W.Frag) (mg:Str->Option Value) (base:Heap) (CX:jN) (k:Nat) (f:Addr) (fd:FuncData) (ps:List Str) (sp:Sp):Prop where
 len:∀ vs H Q E,sp vs H Q E->vs.length=ps.length
 run:∀ (A:Around) (outer:List Env) (s:Shared) (H:Hp) (args:Args) (us:List Value) (vs:List V) (Q:VK) (E:XK),cb k A->lO P w K mg base A outer s H->BindsTo s fd args (ps.zip us)->Vals vs us->sp vs H Q E ->
  codeAny (model P w) A (.call (.ref f) args) (CR CX outer P w H s Q E) s
theorem lO.make {P:Program} {w:World} {K:PySem.W.Frag} {mg:Str->Option Value} {base:Heap} {A:Around} {outer:List Env} {s:Shared} {H:Hp} (e:lO P w K mg base A outer s H) (C:Addr) (us:List Value) (kw:List (Str × Value)) :
  lO P w K mg base (A.under (.builtin "type.__call__" ⟨.ref C :: us,kw⟩)) outer s H:=⟨by first | exact e.frames | (simpa [Around.under,Code.envs,Code.isFrame,pushEnvs] using e.frames),e.mod,e.bs,e.mn,e.gg,e.qg,e.aJ,e.bare⟩
section
variable {X:Cx} {pins:List (Addr × Obj)} {σ : St} {H:Hp} {s s':Shared}
theorem Inv.AN (I:Inv X pins σ H s):lO X.prog X.w X.K X.mg X.base X.A X.stack s H :=
 ⟨I.ok.frames,I.ok.mod,I.bs,Nat.le_trans I.ok.mn I.sz,I.stack,I.sE,I.aJ,I.bare⟩
theorem Inv.after {Q:VK} {u:Value} (I:Inv X pins σ H s) (h:CE X.stack X.prog X.w H s Q u s'):EP X pins σ Q u s':=by
 obtain⟨v,H',os,bare,un,aJ,r,q⟩:=h
 obtain⟨hh,g,d,t,os'⟩:=s'
 obtain rfl:os' = s.os:=os
 exact⟨v,H',I.call (h':=hh) (g':=g) (d':=d) (t':=t) (ch:=[]) un aJ bare (fun b z=>absurd z (by simp)),r,q⟩
end
def uw (sp:Sp) (dvs:List V) (E:XK) (t:TA):TE:=fun σ H Q=>t σ H fun vs H1=>sp (vs++dvs) H1 Q E
inductive xH (C:Addr) (m:Str) (sp:Sp) (dvs:List V) (E:XK) (t:TA) (σ : St) (Q:VK) (x:V) (H1:Hp):Prop
 | mk (a dx fs:_) (_:x=.ref a) (_:H1 a=some (.ins C dx fs)) (_:fs.lookup m=none) (_:t σ H1 fun vs H2=>sp (x :: (vs++dvs)) H2 Q E)
def y8 (C:Addr) (m:Str) (sp:Sp) (dvs:List V) (E:XK) (ta:TE) (t:TA):TE:=fun σ H Q=>ta σ H fun x H1=>xH C m sp dvs E t σ Q x H1
def y9 (C:Addr) (sp:Sp) (dvs:List V) (E:XK) (t:TA):TE:=fun σ H Q=>t σ H fun vs H1=>∀ x dx,H1 x=none->H1 dx=none->dx ≠ x ->
 sp (.ref x :: (vs++dvs)) (upd (upd H1 dx (.own x)) x (.ins C dx [])) (fun v H2=>v=.bg/\Q (.ref x) H2) E
def Binds (K:PySem.W.Frag) (fd:FuncData) (ps:List Str) (ds:List Value):Prop :=
 ∀ (s:Shared) (us:List Value),K.In s.heap->(us++ds).length=ps.length->BindsTo s fd ⟨us,[]⟩ (ps.zip (us++ds))
theorem Binds.all {K:PySem.W.Frag} {fd:FuncData} {ps:List Str} (h:∀ us:List Value,us.length=ps.length->bindArgs fd ⟨us,[]⟩=pure (ps.zip us)):Binds K fd ps []:=fun s us _ hl=>by
 rw [List.append_nil] at hl ⊢
 exact .of_eq (h us hl)
def Passes (CX:jN) (X:Cx) (E:XK):Prop:=∀ (pins:List (Addr × Obj)) (σ : St) (H:Hp) (s:Shared) (e:Value) (s':Shared),Inv X pins σ H s->CX X.stack H s E e s'->X.xe e s'
section
variable {X:Cx} {CX:jN} {k:Nat} {f C:Addr} {fd:FuncData} {ps:List Str} {sp:Sp} {dvs:List V} {ds:List Value} {E:XK} {x m:Str} {p pos apos:Pos} {e o:Expr} {es:List Expr} {ta:TE} {t:TA}
theorem vM {pins:List (Addr × Obj)} {σ : St} {H:Hp} {s:Shared} {Q:VK} {us:List Value} {vs:List V} (F:ba X.prog X.w X.K X.mg X.base CX k f fd ps sp) (hr:cb k X.A) (hb:Binds X.K fd ps ds) (hd:Vals dvs ds) (hx:Passes CX X E)
  (I:Inv X pins σ H s) (r:Vals vs us) (h:sp (vs++dvs) H Q E):wpAny (model X.prog X.w) X.A (call (.ref f) us) (EP X pins σ Q) X.xe s:=by
 have r2:Vals (vs++dvs) (us++ds):=r.append hd
 have hl:(us++ds).length=ps.length:=by rw [<-r2.length];exact F.len _ _ _ _ h
 refine wpAny_call (codeAny_mono (F.run X.A X.stack s H ⟨us,[]⟩ (us++ds) (vs++dvs) Q E hr I.AN (hb s us I.gu hl) r2 h) fun r s' hq=>?_)
 cases r with
 | error e=>exact hx pins σ H s e s' I hq
 | ok fl =>
  cases fl with
  | ret u=>exact I.after hq
  | next=>exact False.elim hq
  | brk=>exact False.elim hq
  | cont=>exact False.elim hq
theorem zF (F:ba X.prog X.w X.K X.mg X.base CX k f fd ps sp) (hr:cb k X.A) (hg:Gl X x) (hm:X.mg x=some (.ref f)) (hk:PySem.W.keepIn X.K (.ref f)=true) (hb:Binds X.K fd ps ds) (hd:Vals dvs ds) (hx:Passes CX X E)
  (ha:PA X (e :: es) t) (hdb:(x == ("__debug__" : Str))=false:=by decide) (he:starEach (e :: es) X.env=(false,eval e X.env) :: starEach es X.env:=by rfl) (hpl:(backTo pos (starEach es X.env)).any (·.1)=false:=by rfl) :
  PE X (.Call (.Name x p) (e :: es) [] pos) (uw sp dvs E t):=by
 intro pins s σ H Q I h
 refine wpAny_Call_Name_kw (nE I hg hm ?_ hdb)
 refine PySem.W.callWith_K (h₀:=X.base) I.ok.mod.iC hk (aT (ha pos pins s σ H _ I h) fun us s1 ⟨vs,H1,I1,r,q⟩=>⟨I1.gu,?_⟩) he hpl
 exact vM F hr hb hd hx I1 r q
theorem zG {pl:Sem Bool} (he:PE X o ta) (c:jM X.K C) (hm:Meth X.K C m f) (F:ba X.prog X.w X.K X.mg X.base CX k f fd ps sp) (hr:cb k X.A) (hb:Binds X.K fd ps ds) (hd:Vals dvs ds) (hx:Passes CX X E) (ha:PA X (e :: es) t)
  (hst:starEach (e :: es) X.env=(false,eval e X.env) :: starEach es X.env:=by rfl) (hpl:(backTo pos (starEach es X.env)).any (·.1)=false:=by rfl)
  (ht:eval (.Call (.Attribute o m apos) (e :: es) [] pos) X.env=(do
   let ov <-eval o X.env
   standAt apos.atName
   let (f,first) <-holding [ov] (getMethod ov m pl)
   callWith pos f first (backTo pos (starEach (e :: es) X.env)) (backToKw pos (keywordEach [] X.env))):=by rfl) :
  PE X (.Call (.Attribute o m apos) (e :: es) [] pos) (y8 C m sp dvs E ta t):=by
 intro pins s σ H Q I h
 refine PySem.W.methodCall_KW (pl:=pl) (aT (he pins s σ H _ I h) fun u s1 ⟨x,H1,I1,rx,a,dx,fs,ex,ea,l,q⟩=>?_) ht
 subst ex
 obtain rfl:u=Value.ref a:=rx
 refine uq I1 ea c hm l ?_
 refine PySem.W.callWith_K (first:=[.ref a]) (h₀:=X.base) I.ok.mod.iC hm.kp (aT (ha pos pins s1 σ H1 _ I1 q) fun us s2 ⟨vs,H2,I2,r,q2⟩=>⟨I2.gu,?_⟩) hst hpl
 exact vM (us:=.ref a :: us) (vs:=.ref a :: vs) F hr hb hd hx I2 (.cons rfl r) q2
structure Mk (K:PySem.W.Frag) (C f:Addr):Prop where
 makes:PySem.W.makesIn K C=true
 init:PySem.W.findIn K (.ref C) "__init__" = some (some (.ref f))
 fn:PySem.W.isFn K (.ref f)=true
 kp:PySem.W.keepIn K (.ref C)=true
theorem xI {pins:List (Addr × Obj)} {σ : St} {H:Hp} {s:Shared} {Q:VK} {us:List Value} {vs:List V} (M:Mk X.K C f) (F:ba X.prog X.w X.K X.mg X.base CX k f fd ps sp) (hr:cb (k+1) X.A) (hb:Binds X.K fd ps ds) (hd:Vals dvs ds)
  (hx:Passes CX X E) (I:Inv X pins σ H s) (r:Vals vs us)
  (h:∀ x dx,H x=none->H dx=none->dx ≠ x->sp (.ref x :: (vs++dvs)) (upd (upd H dx (.own x)) x (.ins C dx [])) (fun v H2=>v=.bg/\Q (.ref x) H2) E) :
  wpAny (model X.prog X.w) X.A (call (.ref C) us) (EP X pins σ Q) X.xe s:=by
 have hq:=h (s.heap.objs.size+1) s.heap.objs.size (I.aJ.fresh (Nat.le_succ _)) (I.aJ.fresh (Nat.le_refl _)) (Nat.ne_of_lt (Nat.lt_succ_self _))
 have I2:=Inv.made (C:=C) I
 have r2:Vals (V.ref (s.heap.objs.size+1) :: (vs++dvs)) (Value.ref (s.heap.objs.size+1) :: (us++ds)):=.cons rfl (r.append hd)
 have hl:(Value.ref (s.heap.objs.size+1) :: us++ds).length=ps.length:=by
  have e:=r2.length
  rw [F.len _ _ _ _ hq] at e
  exact e.symm
 refine wpAny_call (xG (f:=f) I.gu M.makes M.init (beq_iff_eq.mp M.fn) (codeAny_mono (F.run _ X.stack _ _ ⟨Value.ref (s.heap.objs.size+1) :: us,[]⟩ (Value.ref (s.heap.objs.size+1) :: (us++ds)) _ _ E (hr.make C us [])
  (I2.AN.make C us []) (hb _ (Value.ref (s.heap.objs.size+1) :: us) I2.gu hl) r2 hq) fun r s' hq'=>?_))
 cases r with
 | error e=>exact hx pins σ _ _ e s' I2 hq'
 | ok fl =>
  cases fl with
  | ret u =>
   obtain⟨v,H',I3,rv,ev,q3⟩:=I2.after hq'
   subst ev
   exact⟨rv,⟨V.ref (s.heap.objs.size+1),H',I3,rfl,q3⟩⟩
  | next=>exact False.elim hq'
  | brk=>exact False.elim hq'
  | cont=>exact False.elim hq'
theorem zH (M:Mk X.K C f) (F:ba X.prog X.w X.K X.mg X.base CX k f fd ps sp) (hr:cb (k+1) X.A) (hg:Gl X x) (hm:X.mg x=some (.ref C)) (hb:Binds X.K fd ps ds) (hd:Vals dvs ds) (hx:Passes CX X E)
  (ha:PA X (e :: es) t) (hdb:(x == ("__debug__" : Str))=false:=by decide) (he:starEach (e :: es) X.env=(false,eval e X.env) :: starEach es X.env:=by rfl) (hpl:(backTo pos (starEach es X.env)).any (·.1)=false:=by rfl) :
  PE X (.Call (.Name x p) (e :: es) [] pos) (y9 C sp dvs E t):=by
 intro pins s σ H Q I h
 refine wpAny_Call_Name_kw (nE I hg hm ?_ hdb)
 refine PySem.W.callWith_K (h₀:=X.base) I.ok.mod.iC M.kp (aT (ha pos pins s σ H _ I h) fun us s1 ⟨vs,H1,I1,r,q⟩=>⟨I1.gu,?_⟩) he hpl
 exact xI M F hr hb hd hx I1 r q
end
section
variable {X:Cx} {CX:jN} {k:Nat} {f C:Addr} {fd:FuncData} {ps ks:List Str} {sp:Sp} {E:XK} {x m:Str} {p pos apos kpos:Pos} {e o:Expr} {es:List Expr} {kws:List Keyword} {te ta:TE} {t tk:TA} {nm:Option Str}
variable {g:List Value->List Value->List Value} {gV:List V->List V->List V}
end
structure aM (N P:List Str) (sc:Scope):Prop where
 kind:sc.kind=.function
 co:sc.isCoroutine=false
 gen:sc.isGenerator=false
 nd:N.Nodup
 pre:N.take P.length=P
 par:∀ x ∈ P,sc.names.lookup x=some .local\/sc.names.lookup x=some .cell
 AO:∀ y ∈ sc.names,y.2 ≠ .free
theorem oC {kindOf:Str->Option NameKind} {x:Str}:∀ {binds:List (Str × Value)} {m:Str->Option Value},(∀ v,(x,v) ∉ binds)->bindL kindOf binds m x=m x
 | [],_,_=>rfl
 | (n,v) :: r,m,h=>by
  unfold bindL
  rw [oC fun w hw=>h w (List.mem_cons_of_mem _ hw)]
  split
  ·have:x ≠ n:=by rintro rfl;exact h v List.mem_cons_self
   simp [this]
  ·rfl
theorem oE {kindOf:Str->Option NameKind} {x:Str}:∀ {binds:List (Str × Value)} {m:Str->Option Value},(∀ v,(x,v) ∉ binds)->bindC kindOf binds m x=m x
 | [],_,_=>rfl
 | (n,v) :: r,m,h=>by
  unfold bindC
  rw [oE fun w hw=>h w (List.mem_cons_of_mem _ hw)]
  split
  ·rfl
  ·have:x ≠ n:=by rintro rfl;exact h v List.mem_cons_self
   simp [this]
theorem oF {kindOf:Str->Option NameKind} {x:Str} {v:Value}:∀ {P:List Str} {vs:List Value} {i:Nat} {m:Str->Option Value},P.Nodup->P[i]? = some x->vs[i]? = some v->kindOf x=some .local ->
  bindL kindOf (P.zip vs) m x=some v
 | [],_,_,_,_,h,_,_=>by simp at h
 | _ :: _,[],_,_,_,_,h,_=>by simp at h
 | p :: P,w :: vs,0,m,nd,h1,h2,hk=>by
  simp at h1 h2;subst h1;subst h2
  show bindL kindOf ((p,w) :: P.zip vs) m p=_
  unfold bindL
  rw [oC fun v hv=>(List.nodup_cons.mp nd).1 (List.of_mem_zip hv).1,if_pos hk]
  simp
 | p :: P,w :: vs,i+1,m,nd,h1,h2,hk=>by
  show bindL kindOf ((p,w) :: P.zip vs) m x=_
  unfold bindL
  exact oF (i:=i) (List.nodup_cons.mp nd).2 (by simpa using h1) (by simpa using h2) hk
theorem oG {kindOf:Str->Option NameKind} {x:Str} {v:Value}:∀ {P:List Str} {vs:List Value} {i:Nat} {m:Str->Option Value},P.Nodup->P[i]? = some x->vs[i]? = some v->kindOf x ≠ some .local ->
  bindC kindOf (P.zip vs) m x=some v
 | [],_,_,_,_,h,_,_=>by simp at h
 | _ :: _,[],_,_,_,_,h,_=>by simp at h
 | p :: P,w :: vs,0,m,nd,h1,h2,hk=>by
  simp at h1 h2;subst h1;subst h2
  show bindC kindOf ((p,w) :: P.zip vs) m p=_
  unfold bindC
  rw [oE fun v hv=>(List.nodup_cons.mp nd).1 (List.of_mem_zip hv).1,if_neg hk]
  simp
 | p :: P,w :: vs,i+1,m,nd,h1,h2,hk=>by
  show bindC kindOf ((p,w) :: P.zip vs) m x=_
  unfold bindC
  exact oG (i:=i) (List.nodup_cons.mp nd).2 (by simpa using h1) (by simpa using h2) hk
def start (N:List Str) (vs:List V):St:=vs.map some++List.replicate (N.length - vs.length) none
def lP (CX:jN) (P:Program) (w:World) (K:PySem.W.Frag) (mg:Str->Option Value) (base:Heap) (N:List Str) (qual:Str) (scope:Scope) (f:Addr) (cd:Value) (A:Around) (outer:List Env) (s:Shared) (H:Hp) (E:XK):Cx where
 prog:=P
 w:=w
 K:=K
 mg:=mg
 base:=base
 A:=A.deeper (envOfC qual scope s.heap.objs.size f cd)
 N:=N
 cX:=s
 qe:=H
 env:=envOfC qual scope s.heap.objs.size f cd
 outer:=outer
 stack:=envOfC qual scope s.heap.objs.size f cd :: outer
 ex:=[]
 calm:=true
 fn:=fun _=>true
 pn:=[]
 xe:=fun e s'=>wpAny (model P w) (A.deeper (envOfC qual scope s.heap.objs.size f cd)) (leaving (envOfC qual scope s.heap.objs.size f cd) e) (fun _ s''=>CX outer H s E e s'') (fun e' s''=>CX outer H s E e' s'') s'
theorem qr {sc:Scope} {n:Nat} {x:Str} (h:sc.names.lookup x=some .cell):∃ c,(cellsFrom n sc.names []).lookup x=some c:=by
 have q:=PySem.W.cellsFrom_some sc.names n [] (.inl h)
 exact Option.isSome_iff_exists.mp q
theorem vP {CX:jN} {P:Program} {w:World} {K:PySem.W.Frag} {mg:Str->Option Value} {base:Heap} {N ps:List Str} {qual:Str} {scope:Scope} {f:Addr} {cd:Value} {A:Around} {outer:List Env} {s s1:Shared} {H:Hp} {E:XK} {us:List Value} {vs:List V}
  (S:aM N ps scope) (hd:A.handled=none) (e0:lO P w K mg base A outer s H) (hl:vs.length=ps.length) (r:Vals vs us)
  (x:InCallC s s.heap.objs.size (bindL (envOfC qual scope s.heap.objs.size f cd).kindOf (ps.zip us) fun _=>none) (cellsFrom (s.heap.objs.size+1) scope.names []) (bindC (envOfC qual scope s.heap.objs.size f cd).kindOf (ps.zip us) fun _=>none) s1) :
  Inv (lP CX P w K mg base N qual scope f cd A outer s H E) [] (start N vs) H s1:=by
 have hpl:ps.length<=N.length:=by have:=congrArg List.length S.pre;rw [List.length_take] at this;omega
 obtain⟨h1,tk,rfl,hk⟩:=x.done
 have noA:∀ b:Addr,b ∉ (lP CX P w K mg base N qual scope f cd A outer s H E).ex:=fun b z=>absurd (show b ∈ ([]:List Addr) from z) (by simp)
 refine⟨⟨e0.mod,S.kind,rfl,rfl,Nat.le_refl _,fun y z c h1 h2=>?_,fun y hy=>?_,fun y c _ h=>?_,fun _=>hd,Around.frames_deeper e0.frames,.inr ⟨rfl,rfl⟩,fun b z=>absurd z (noA b),e0.bs,e0.mn,fun b _ _=>noA b,fun b z=>absurd z (noA b),e0.gg,e0.qg⟩,
  rfl,e0.bare,Un.kept hk,⟨_,x.toInCall.ns,fun i y v h1 h2 h3=>?_⟩,fun y c h=>⟨_,x.cell y c h⟩,e0.aJ.fresh (Nat.le_refl _),fun y c h=>?_,fun p hp=>absurd (show p ∈ ([]:List (Addr × Obj)) from hp) (by simp),e0.aJ.kept hk,?_⟩
 ·exact name_of_addr x.apart (PySem.mem_of_lookup h1) (PySem.mem_of_lookup h2)
 ·have hy:scope.names.lookup y=some .cell\/scope.names.lookup y=some .free:=hy
  rcases hy with hy | hy
  ·exact qr hy
  ·exact absurd rfl (S.AO _ (PySem.mem_of_lookup hy))
 ·exact Nat.le_of_lt (x.above y c (PySem.mem_of_lookup h))
 ·have hi:i < vs.length:=by
   unfold start at h2
   by_cases hi:i < vs.length
   ·exact hi
   ·rw [List.getElem?_append_right (by simpa using hi)] at h2
    rw [List.getElem?_replicate] at h2
    split at h2 <;> cases h2
  have ha:vs[i]? = some v:=by
   unfold start at h2
   rw [List.getElem?_append_left (by simpa using hi),List.getElem?_map] at h2
   cases e:vs[i]? with
   | none=>rw [e] at h2;cases h2
   | some a=>rw [e] at h2;cases h2;rfl
  obtain⟨u,hu,rv⟩:=r.get ha
  have hp:ps[i]? = some y:=by
   rw [<-S.pre,List.getElem?_take_of_lt (by omega)];exact h1
  have ndP:ps.Nodup:=by rw [<-S.pre];exact S.nd.sublist (List.take_sublist _ _)
  refine⟨u,rv,?_⟩
  rcases S.par y (List.mem_of_getElem? hp) with k | k
  ·exact .inl ⟨k,oF ndP hp hu k⟩
  ·obtain⟨c,e⟩:=qr (n:=s.heap.objs.size+1) k
   refine .inr ⟨.inl k,c,e,?_⟩
   have q:=x.cell y c e
   rw [oG ndP hp hu (by show scope.names.lookup y ≠ _;rw [k];decide)] at q
   exact q
 ·exact e0.aJ.fresh (Nat.le_of_lt (x.above y c (PySem.mem_of_lookup h)))
 ·unfold start
  show _=N.length
  rw [List.length_append,List.length_map,List.length_replicate]
  omega
theorem za {CX:jN} {P:Program} {w:World} {K:PySem.W.Frag} {mg:Str->Option Value} {base:Heap} {k:Nat} {f:Addr} {name qual:Str} {params:Arguments} {body:List Stmt} {scope:Scope} {dV kV doc pm cdv ct oc:Value} {an od:Option Addr}
  {osl:Array (Option Value)} {N ps:List Str} {sp:Sp} (lk:K.lookup f=some ⟨oc,od,.func (PySem.W.fnOf name qual params body scope dV kV doc pm an cdv ct),osl⟩) (hcd:PySem.W.codeIn K cdv qual=true) (S:aM N ps scope)
  (len:∀ vs H Q E,sp vs H Q E->vs.length=ps.length)
  (hbody:∀ (A:Around) (outer:List Env) (s:Shared) (H:Hp) (vs:List V) (Q:VK) (E:XK),cb k (A.deeper (envOfC qual scope s.heap.objs.size f cdv))->sp vs H Q E ->
   ∃ t,ib (lP CX P w K mg base N qual scope f cdv A outer s H E) body t/\t { nx:=fun _ H'=>Q .bg H',rt:=Q } (start N vs) H) :
  ba P w K mg base CX (k+1) f (PySem.W.fnOf name qual params body scope dV kV doc pm an cdv ct) ps sp:=by
 refine⟨len,fun A outer s H args us vs Q E hr e0 hb r hsp=>?_⟩
 have hl:=len _ _ _ _ hsp
 have KX:K.In s.heap:=e0.mod.iC.keeps fun b o e=>(e0.bs b o e).1
 have lim:s.heap.NoLimit:=e0.mod.nolimit.keeps fun b o e=>(e0.bs b o e).1
 have hkind:∀ y ∈ ps.zip us,scope.names.lookup y.1=some .local\/(scope.names.lookup y.1=some .cell/\((cellsFrom (s.heap.objs.size+1) scope.names []).lookup y.1).isSome=true):=fun ⟨n,v⟩ hy=>by
  rcases S.par n (List.of_mem_zip hy).1 with q | q
  ·exact .inl q
  ·exact .inr ⟨q,PySem.W.cellsFrom_some _ _ _ (.inl q)⟩
 refine codeAny_call_function hr.depth (KX _ _ lk) rfl S.co S.gen rfl (PySem.W.codeRec_of KX hcd) (hb _ _ _ _ ?_)
 refine wpAny_newFunctionEnv_cells S.kind hkind fun env he s1 x=>?_
 subst he
 refine⟨lim.keeps x.toInCall.keep,codeAny_func ?_⟩
 obtain⟨t,ht,hq⟩:=hbody A outer s H vs Q E (hr.deeper _) hsp
 have I:Inv (lP CX P w K mg base N qual scope f cdv A outer s H E) [] (start N vs) H s1:=vP S hr.hd e0 hl r x
 refine wpAny_mono (ht [] s1 (start N vs) H _ I hq) (fun fl s' hs=>?_) fun e s' hs=>hs
 have fin:∀ {σ':St} {H':Hp} {v:V} {u:Value},Inv (lP CX P w K mg base N qual scope f cdv A outer s H E) [] σ' H' s'->RelV v u->Q v H'->CE outer P w H s Q u s' :=
  fun {σ' H' v u} J rv q=>⟨v,H',J.os,J.bare,J.base,J.aJ,rv,q⟩
 cases fl with
 | ret u =>
  obtain⟨v,σ',H',J,rv,q⟩:=hs
  exact fin J rv q
 | next =>
  obtain⟨σ',H',J,q⟩:=hs
  exact fin (v:=V.bg) (u:=Value.none) J rfl q
 | brk =>
  obtain⟨_,_,_,q⟩:=hs
  exact False.elim q
 | cont =>
  obtain⟨_,_,_,q⟩:=hs
  exact False.elim q
section
variable {X:Cx} {x:Str} {p pos:Pos} {e:Expr} {es:List Expr} {t:TA} {id T:String} {r:List V->Hp->VK->Prop}
def AQ (r:List V->Hp->VK->Prop) (t:TA):TE:=fun σ H Q=>t σ H fun vs H1=>r vs H1 Q
theorem aR (hc:cJ X (.builtin id) r) (hg:Gl X x) (hm:X.mg x=none) (hv:bootBuiltins x=some (.builtin id)) (ha:PA X (e :: es) t) (hn:x ≠ "__name__" := by decide) (hdb:(x == ("__debug__" : Str))=false:=by decide)
  (he:starEach (e :: es) X.env=(false,eval e X.env) :: starEach es X.env:=by rfl) (hpl:(backTo pos (starEach es X.env)).any (·.1)=false:=by rfl):PE X (.Call (.Name x p) (e :: es) [] pos) (AQ r t):=by
 intro pins s σ H Q I h
 refine wpAny_Call_Name_kw (jH I hg hm hv ?_ hn hdb)
 exact PyProof.Rows.callWith_builtin1 (aT (ha pos pins s σ H _ I h) fun us s1 ⟨vs,H1,I1,r1,q1⟩=>hc pins s1 σ H1 vs us Q I1 r1 q1) he hpl
theorem br (hc:cJ X (.type T) r) (hg:Gl X x) (hm:X.mg x=none) (hv:bootBuiltins x=some (.type T)) (ha:PA X (e :: es) t) (hn:x ≠ "__name__" := by decide) (hdb:(x == ("__debug__" : Str))=false:=by decide)
  (he:starEach (e :: es) X.env=(false,eval e X.env) :: starEach es X.env:=by rfl) (hpl:(backTo pos (starEach es X.env)).any (·.1)=false:=by rfl):PE X (.Call (.Name x p) (e :: es) [] pos) (AQ r t):=by
 intro pins s σ H Q I h
 refine wpAny_Call_Name_kw (jH I hg hm hv ?_ hn hdb)
 exact PyProof.Rows.callWith_type1 (aT (ha pos pins s σ H _ I h) fun us s1 ⟨vs,H1,I1,r1,q1⟩=>hc pins s1 σ H1 vs us Q I1 r1 q1) he hpl
theorem ux (hc:cJ X (.type T) r) (hg:Gl X x) (hm:X.mg x=none) (hv:bootBuiltins x=some (.type T)) (hn:x ≠ "__name__" := by decide) (hdb:(x == ("__debug__" : Str))=false:=by decide) :
  PE X (.Call (.Name x p) [] [] pos) (AQ r nI):=by
 intro pins s σ H Q I h
 refine wpAny_Call_Name_kw (jH I hg hm hv ?_ hn hdb)
 exact PyProof.Rows.callWith_type0 (hc pins s σ H [] [] Q I .nil h)
end
end L2
namespace HT
open PySem PyProof.Rows
section
open PySem.SeqAt
open PySem.AutoSeq1 (wpAny_loadPart')
open PySem.MeetsSeq PySem.MeetsSeq2 PySem.MeetsSeq3
end
section
variable {prog:Program} {w:World} {A:Around} {E:Value->Shared->Prop} {s:Shared}
theorem zI {t b:Addr} {vs ws:List Value} {Q:Value->Shared->Prop} (ht:IsTup s.heap t vs.toArray) (hb:IsTup s.heap b ws.toArray) (hv:vs ≠ [])
  (h1:ws = []->Q (.ref t) s) (h2:ws ≠ []->Q (.ref s.heap.objs.size) { s with heap:=s.heap.push { cls:=.type "tuple",data:=.seq (vs++ws).toArray } })
  (hsz:vs.length+ws.length<=sizeLine):wpAny (model prog w) A (binaryOp .Add (.ref t) (.ref b)) Q E s:=by
 obtain⟨⟨cls,dd,data,sl⟩,ho,hc,n,hd⟩:=id ht
 obtain⟨⟨cls2,dd2,data2,sl2⟩,ho2,hc2,n2,hd2⟩:=id hb
 simp only at hc hd hc2 hd2
 subst hc hd hc2 hd2
 have e:vs.toArray++ws.toArray=(vs++ws).toArray:=by simp
 by_cases hw:ws = []
 ·exact concat_meets ⟨_,ho,rfl⟩ ⟨_,ho2,rfl⟩ noFill_tuple_add seq_tuple_add PySem.F.slot_tuple_add PySem.F.entry_tuple_add (PySem.F.args_tuple_add_2 _ _)
   (tuple_addW1 t b vs.toArray ws.toArray n n2 dd dd2 sl sl2 (by simpa using hv) (by simp [hw])) ⟨ho,ho2,h1 hw⟩
 ·refine concat_meets ⟨_,ho,rfl⟩ ⟨_,ho2,rfl⟩ noFill_tuple_add seq_tuple_add PySem.F.slot_tuple_add PySem.F.entry_tuple_add (PySem.F.args_tuple_add_2 _ _)
   (tuple_addW2 t b vs.toArray ws.toArray n n2 dd dd2 sl sl2 (by simpa using hv) (by simpa using hw) (by rw [List.size_toArray,List.size_toArray];exact hsz)) ⟨ho,ho2,?_⟩
  rw [e]
  exact h2 hw
def bD (n d:Nat):Option Int->Nat
 | none=>d
 | some v=>if v < 0 then (v+(n:Int)).toNat else min v.toNat n
theorem lQ (n d:Nat):bD n d none=d:=rfl
theorem nJ (n d k:Nat):bD n d (some (k:Int))=min k n:=by
 show (if (k:Int) < 0 then ((k:Int)+(n:Int)).toNat else min (k:Int).toNat n)=min k n
 rw [if_neg (by omega),Int.toNat_natCast]
theorem AR (n d:Nat) (hd:d<=n) (o:Option Int):bD n d o<=n:=by
 cases o with
 | none=>exact hd
 | some v =>
  show (if v < 0 then (v+(n:Int)).toNat else min v.toNat n)<=n
  by_cases hv:v < 0
  ·rw [if_pos hv];omega
  ·rw [if_neg hv];exact Nat.min_le_right _ _
theorem sQ (v:Int) (n d:Nat):(if v < 0 then max (v+(n:Int)) 0 else min v (n:Int))=((bD n d (some v):Nat):Int):=by
 show (if v < 0 then max (v+(n:Int)) 0 else min v (n:Int))=(((if v < 0 then (v+(n:Int)).toNat else min v.toNat n):Nat):Int)
 by_cases hv:v < 0
 ·simp only [if_pos hv];omega
 ·simp only [if_neg hv];omega
theorem uy (lo hi:Option Int) (n:Nat):Builtin.Slice.sliceAdjust lo hi 1 (n:Int)=(((bD n 0 lo:Nat):Int),((bD n n hi:Nat):Int)):=by
 have h1:¬ ((1:Int) < 0):=by omega
 unfold Builtin.Slice.sliceAdjust
 simp only [h1,if_false]
 refine Prod.ext ?_ ?_
 ·cases lo with
  | none=>rfl
  | some v=>exact sQ v n 0
 ·cases hi with
  | none=>rfl
  | some v=>exact sQ v n n
theorem uz (i j:Nat):Builtin.Slice.slicePlaces (i:Int) (j:Int) 1=j - i:=by
 unfold Builtin.Slice.slicePlaces
 have h1:(1:Int) > 0:=by omega
 simp only [h1,if_true,Int.ediv_one]
 split <;> omega
theorem mB {v:Value} {o:Option Int} {Q:Option Int->Shared->Prop} (p:IsPart v o) (h:Q o s):wpAny (model prog w) A (Builtin.Slice.slicePartIndex v) Q E s:=by
 cases p with
 | none=>exact slicePart_none h
 | int i t=>exact slicePart_int h
theorem gX {sl:Addr} {vl vu:Value} {lo hi:Option Int} {n:Nat} {Q:Int × Int × Nat->Shared->Prop} (hs:s.heap.IsSliceOf sl vl vu .none) (pl:IsPart vl lo) (pu:IsPart vu hi)
  (h:Q (((bD n 0 lo:Nat):Int),1,bD n n hi - bD n 0 lo) s):wpAny (model prog w) A (Builtin.Slice.sliceApplied (.ref sl) (pure (n:Int))) Q E s:=by
 obtain⟨os,hos,hcs,hds⟩:=id hs
 unfold Builtin.Slice.sliceApplied Builtin.Slice.sliceFields
 refine wpAny_bind (wpAny_bind (wpAny_field hos hds (x:=vl) rfl (wpAny_bind (wpAny_field hos hds (x:=vu) rfl (wpAny_bind (wpAny_field hos hds (x:=.none) rfl (wpAny_pure ?_)))))))
 refine wpAny_bind (slicePart_none ?_)
 show wpAny _ _ (if ((1:Int) == 0)=true then _ else _) _ _ s
 rw [if_neg (by decide)]
 refine wpAny_bind (mB pl (wpAny_bind (mB pu (wpAny_bind (wpAny_pure ?_)))))
 show wpAny _ _ (match Builtin.Slice.sliceAdjust lo hi 1 (n:Int) with | (lo,hi)=>pure (lo,(1:Int),Builtin.Slice.slicePlaces lo hi 1)) _ _ s
 rw [uy lo hi n]
 show wpAny _ _ (pure (((bD n 0 lo:Nat):Int),(1:Int),Builtin.Slice.slicePlaces ((bD n 0 lo:Nat):Int) ((bD n n hi:Nat):Int) 1)) _ _ s
 rw [uz]
 exact wpAny_pure h
theorem xJ (xs:Array Value) (i k:Nat):((List.range k).filterMap fun (m:Nat)=>xs[((i:Int)+(m:Int) * 1).toNat]?).toArray=((xs.toList.drop i).take k).toArray:=by
 have e:(fun (m:Nat)=>xs[((i:Int)+(m:Int) * 1).toNat]?)=fun m=>xs[i+m]?:=by
  funext m
  have:((i:Int)+(m:Int) * 1).toNat=i+m:=by omega
  rw [this]
 rw [e]
 have:=pick_run xs i k
 rw [List.filterMap_map] at this
 have e2:((fun x=>xs[x]?) ∘ fun x=>i+x)=fun m=>xs[i+m]?:=rfl
 rw [e2] at this
 rw [this]
theorem kP {t sl:Addr} {items:Array Value} {vl vu:Value} {lo hi:Option Int} {Q:Value->Shared->Prop} (ht:IsTup s.heap t items) (hs:s.heap.IsSliceOf sl vl vu .none) (pl:IsPart vl lo) (pu:IsPart vu hi)
  (hw:¬ (bD items.size 0 lo=0/\bD items.size items.size hi=items.size))
  (h:Q (.ref s.heap.objs.size) { s with heap:=s.heap.push { cls:=.type "tuple",data:=.seq ((items.toList.drop (bD items.size 0 lo)).take (bD items.size items.size hi - bD items.size 0 lo)).toArray } })
  (hsz:items.size<=sizeLine):wpAny (model prog w) A (getItem (.ref t) (.ref sl)) Q E s:=by
 have htake:sizeOk (.seq ((items.toList.drop (bD items.size 0 lo)).take (bD items.size items.size hi - bD items.size 0 lo)).toArray):=by
  show ((items.toList.drop (bD items.size 0 lo)).take (bD items.size items.size hi - bD items.size 0 lo)).toArray.size<=sizeLine
  rw [List.size_toArray,List.length_take,List.length_drop,Array.length_toList]
  omega
 have hj:bD items.size items.size hi<=items.size:=AR _ _ (Nat.le_refl _) hi
 obtain⟨os,hos,hcs,hds⟩:=id hs
 have hTs:s.TypeIs (.ref sl) "slice" := ⟨os,hos,hcs⟩
 unfold getItem
 try with_reducible refine wpAny_holding ?_
 first | refine wpAny_bind (wpAny_pure ?_) | skip
 refine wpAny_bind (wpAny_sequenceKey ht.typeIs (by decide) ?_)
 refine wpAny_bind (wpAny_callSpecial?_slot (name:=Str.ofString "__getitem__") ht.typeIs PyProof.Rows.slot_tuple_getitem
  (wpAny_call_entry PyProof.Rows.slot_tuple_getitem ht.typeIs entry_tuple_getitem ?_ (args_tuple_getitem _ _)))
 show wpAny _ _ (Builtin.Tuple.tupleItemsOf (.ref t) >>= _) _ _ s
 refine wpAny_bind (tupleItemsOf_ ht ?_)
 refine wpAny_bind (wpAny_typeOf hTs ?_)
 rw [if_pos (by decide)]
 refine wpAny_bind (gX hs pl pu ?_)
 have hno:¬ ((((bD items.size 0 lo:Nat):Int) == 0 && (1:Int) == 1 && (bD items.size items.size hi - bD items.size 0 lo) == items.size)=true):=by
  intro q
  rw [Bool.and_eq_true,Bool.and_eq_true] at q
  have q1:((bD items.size 0 lo:Nat):Int)=0:=eq_of_beq q.1.1
  have q2:bD items.size items.size hi - bD items.size 0 lo=items.size:=eq_of_beq q.2
  exact hw ⟨by omega,by omega⟩
 show wpAny _ _ (if (((bD items.size 0 lo:Nat):Int) == 0 && (1:Int) == 1 && (bD items.size items.size hi - bD items.size 0 lo) == items.size)=true then _ else _) _ _ s
 rw [if_neg hno,xJ]
 first
  | exact wpAny_bind (m:=Builtin.Tuple.tupleExact _) (wpAny_newObj_type (wpAny_pure ⟨_,rfl,wpAny_pure h⟩) htake)
  | exact wpAny_bind (m:=Builtin.Tuple.tupleExact _) (wpAny_newObj_type (wpAny_bind (wpAny_pure (wpAny_pure ⟨_,rfl,wpAny_pure h⟩))) htake)
  | exact wpAny_bind (wpAny_bind (m:=Builtin.Tuple.tupleExact _) (wpAny_newObj_type (wpAny_pure (wpAny_pure ⟨_,rfl,wpAny_pure h⟩)) htake))
  | exact wpAny_bind (wpAny_bind (m:=Builtin.Tuple.tupleExact _) (wpAny_newObj_type (wpAny_pure ⟨_,rfl,wpAny_pure h⟩) htake))
end
end HT
namespace L2
open PySem PySem.Spec PyProof.Rows
abbrev TO:=St->Hp->(Option Int->Hp->Prop)->Prop
def PO (X:Cx) (e:Option Expr) (t:TO):Prop :=
 ∀ (pins:List (Addr × Obj)) (s:Shared) (σ : St) (H:Hp) (Q:Option Int->Hp->Prop),Inv X pins σ H s->t σ H Q ->
  wpAny (model X.prog X.w) X.A (evalPart e X.env) (fun u s'=>∃ o H',Inv X pins σ H' s'/\IsPart u o/\Q o H') X.xe s
def zJ:TO:=fun _ H Q=>Q none H
inductive xK (Q:(Option Int->Hp->Prop)) (x:V) (H1:Hp):Prop
 | mk (i:_) (_:x=.int i) (_:Q (some i) H1)
def BR (t:TE):TO:=fun σ H Q=>t σ H fun x H1=>xK Q x H1
theorem intsAre_of {ns:List Int}:∀ {us:List Value},Vals (ns.map V.int) us->IntsAre us ns:=by
 induction ns with
 | nil=>intro us r;rw [List.map_nil] at r;cases r;exact .nil
 | cons n ns ih =>
  intro us r
  rw [List.map_cons] at r
  cases r with
  | cons r1 r2 =>
   obtain⟨t,e⟩:=r1
   subst e
   exact .cons n t (ih r2)
section
variable {X:Cx} {e:Expr} {te:TE} {lo hi:Option Expr} {tl th:TO} {pos p2:Pos}
theorem kG:PO X none zJ:=by
 intro pins s σ H Q I h
 rw [evalPart_none]
 exact wpAny_pure ⟨none,H,I,.none,h⟩
theorem kH (h:PE X e te):PO X (some e) (BR te):=by
 intro pins s σ H Q I hw
 rw [evalPart_some]
 refine aT (h pins s σ H _ I hw) fun u s1 ⟨x,H1,I1,r1,q1⟩=>?_
 obtain⟨i,rfl,q⟩:=q1
 obtain⟨t,rfl⟩:=r1
 exact⟨some i,H1,I1,.int i t,q⟩
def zb (X:Cx) (r:V->Option Int->Option Int->Hp->VK->Prop):Prop :=
 ∀ (pins:List (Addr × Obj)) (s:Shared) (σ : St) (H:Hp) (x:V) (v vl vu:Value) (lo hi:Option Int) (sl:Addr) (Q:VK),Inv X pins σ H s->RelV x v->s.heap.IsSliceOf sl vl vu .none->IsPart vl lo->IsPart vu hi->r x lo hi H Q ->
  ∃ T id,typeLookup (.type T) "__getitem__" = pure (some (.builtin id))/\s.TypeIs v T/\wpAny (model X.prog X.w) X.A (getItem v (.ref sl)) (EP X pins σ Q) X.xe s
def Dc (r:V->Option Int->Option Int->Hp->VK->Prop) (te:TE) (tl th:TO):TE:=fun σ H Q=>te σ H fun x H1=>tl σ H1 fun l H2=>th σ H2 fun u H3=>r x l u H3 Q
theorem iU {r:V->Option Int->Option Int->Hp->VK->Prop} (hr:zb X r) (he:PE X e te) (hl:PO X lo tl) (hu:PO X hi th):PE X (.Subscript e (.Slice lo hi none p2) pos) (Dc r te tl th):=by
 intro pins s σ H Q I h
 refine Subscript_ (aT (he pins s σ H _ I h) fun v s1 ⟨x,H1,I1,r1,q1⟩=>?_)
 refine wpAny_Slice (aT (hl pins s1 σ H1 _ I1 q1) fun vl s2 ⟨l,H2,I2,pl,q2⟩=>aT (hu pins s2 σ H2 _ I2 q2) fun vu s3 ⟨u,H3,I3,pu,q3⟩=>?_)
 rw [evalPart_none]
 refine wpAny_pure ?_
 have I4:Inv X pins σ H3 { s3 with heap:=s3.heap.push { cls:=.type "slice",data:=.fields #[vl,vu,.none] } }:=I3.kept (t':=s3.toks) fun b ob q=>Heap.get?_push_of_some _ q
 obtain⟨T,id,hT,ht,hg⟩:=hr pins { s3 with heap:=s3.heap.push { cls:=.type "slice",data:=.fields #[vl,vu,.none] } } σ H3 x v vl vu l u s3.heap.objs.size Q I4 r1 (Heap.IsSliceOf.new ..) pl pu q3
 show wpAny (model X.prog X.w) X.A (subscriptTail e (.Slice lo hi none p2) v (.ref s3.heap.objs.size)) (EP X pins σ Q) X.xe { s3 with heap:=s3.heap.push { cls:=.type "slice",data:=.fields #[vl,vu,.none] } }
 exact tail_any (ops:=[.ref s3.heap.objs.size,v]) ht hT hg (by with_unfolding_all rfl)
def eD (xs:List V) (lo hi:Option Int):List V:=(xs.drop (HT.bD xs.length 0 lo)).take (HT.bD xs.length xs.length hi - HT.bD xs.length 0 lo)
theorem rR (xs:List V) (lo hi:Option Int):(eD xs lo hi).length<=xs.length:=by
 unfold eD
 rw [List.length_take,List.length_drop]
 omega
inductive CS (K:PySem.W.Frag) (x:V) (lo:Option Int) (hi:Option Int) (H:Hp) (Q:VK):Prop
 | mk (a xs:_) (_:x=.ref a) (_:av K H a xs) (_:¬ (HT.bD xs.length 0 lo=0/\HT.bD xs.length xs.length hi=xs.length)) (_:∀ p,H p=none->Q (.ref p) (upd H p (.tup (eD xs lo hi))))
theorem AS:zb X (CS X.K):=by
 intro pins s σ H x v vl vu lo hi sl Q I rx hs pl pu h
 obtain⟨a,xs,rfl,hx,hw,q⟩:=h
 cases rx
 obtain⟨its,r,ht,hz⟩:=I.tuple hx
 have hlen:its.toArray.size=xs.length:=by rw [List.size_toArray];exact r.length.symm
 refine⟨"tuple",_,PyProof.Rows.slot_tuple_getitem.lookup,ht.typeIs,?_⟩
 refine HT.kP ht hs pl pu (by rw [hlen];exact hw) ?_ (by rw [hlen];exact hz)
 rw [hlen]
 refine⟨.ref s.heap.objs.size,_,I.laid (t':=s.toks) (o:=.tup (eD xs lo hi)) (fun b ob q=>Heap.get?_push_of_some _ q) (Nat.le_refl _) ?_,rfl,q _ (I.aJ.fresh (Nat.le_refl _))⟩
 exact⟨Nat.le_trans (rR xs lo hi) hz,_,(r.drop (HT.bD xs.length 0 lo)).take (HT.bD xs.length xs.length hi - HT.bD xs.length 0 lo),⟨_,Heap.get?_push_size _ rfl,rfl,_,rfl,rfl⟩⟩
theorem Vals.nK {xs:List V} {us:List Value} (r:Vals xs us):us = [] ↔ xs = []:=by
 cases r with
 | nil=>simp
 | cons _ _=>simp
end
def mC (n:Nat) (i:Int):Option Nat:=if 0<=i then (if i < n then some i.toNat else none) else if -(n:Int)<=i then some (i+n).toNat else none
def fE {α : Type} (xs:List α) (i:Int):Option α:=(mC xs.length i).bind fun j=>xs[j]?
theorem sR {n:Nat} {i:Int} {j:Nat} (h:mC n i=some j):seqIndex? i n=some j/\j < n/\-(n:Int)<=i/\i < n:=by
 unfold mC at h
 by_cases h0:0<=i
 ·rw [if_pos h0] at h
  by_cases h1:i < n
  ·rw [if_pos h1] at h
   have e:i.toNat=j:=Option.some.inj h
   exact⟨by rw [seqIndex_of h0 h1,e],by omega,by omega,h1⟩
  ·rw [if_neg h1] at h;cases h
 ·rw [if_neg h0] at h
  by_cases h1:-(n:Int)<=i
  ·rw [if_pos h1] at h
   have e:(i+n).toNat=j:=Option.some.inj h
   exact⟨by rw [seqIndex_neg (by omega) h1,e],by omega,h1,by omega⟩
  ·rw [if_neg h1] at h;cases h
theorem nL {α : Type} {xs:List α} {i:Int} {v:α} (h:fE xs i=some v):∃ j,seqIndex? i xs.length=some j/\xs[j]? = some v/\j < xs.length/\-(xs.length:Int)<=i/\i < xs.length:=by
 unfold fE at h
 cases e:mC xs.length i with
 | none=>rw [e] at h;cases h
 | some j =>
  rw [e] at h
  obtain⟨h1,h2,h3,h4⟩:=sR e
  exact⟨j,h1,h,h2,h3,h4⟩
theorem bO {α : Type} {xs:List α} {j:Nat} {v:α} (h:xs[j]? = some v):fE xs (j:Int)=some v:=by
 have hj:j < xs.length:=(List.getElem?_eq_some_iff.mp h).1
 have e:mC xs.length (j:Int)=some j:=by
  unfold mC
  rw [if_pos (by omega),if_pos (by omega)];simp
 unfold fE;rw [e];exact h
def sS (b:Expr):Prop:=∀ o i,subscripted b false o i=operate [o,i] (getItem o i)
def sT (X:Cx) (r:R2):Prop :=
 ∀ (value slice:Expr) (pins:List (Addr × Obj)) (s:Shared) (σ : St) (H:Hp) (x y:V) (v u:Value) (Q:VK),Inv X pins σ H s->RelV x v->RelV y u->r x y H Q ->
  subscripted slice false v u=operate [v,u] (getItem v u)->wpAny (model X.prog X.w) X.A (subscriptTail value slice v u) (EP X pins σ Q) X.xe s
def AU (X:Cx) (id:String) (r:V->List V->Hp->VK->Prop):Prop :=
 ∀ (pins:List (Addr × Obj)) (s:Shared) (σ : St) (H:Hp) (x:V) (xs:List V) (v:Value) (us:List Value) (Q:VK),Inv X pins σ H s->RelV x v->Vals xs us->r x xs H Q ->
  wpAny (model X.prog X.w) X.A (call (.builtin id) (v :: us)) (EP X pins σ Q) X.xe s
section
variable {X:Cx} {a b:Expr} {ta tb:TE} {pos:Pos}
theorem BS {r:R2} (hr:sT X r) (ha:PE X a ta) (hb:PE X b tb) (hs:sS b):PE X (.Subscript a b pos) (vG r ta tb):=by
 intro pins s σ H Q I h
 exact Subscript_ (xA ha hb I h fun v u s2 x y H2 I2 rx ry q=>hr a b pins s2 σ H2 x y v u Q I2 rx ry q (hs _ _))
inductive CT (K:PySem.W.Frag) (x:V) (y:V) (H:Hp) (Q:VK):Prop
 | mk (p xs i v:_) (_:x=.ref p) (_:y=.int i) (_:aI K H p xs) (_:fE xs i=some v) (_:Q v H)
inductive AV (K:PySem.W.Frag) (x:V) (y:V) (H:Hp) (Q:VK):Prop
 | mk (p xs i v:_) (_:x=.ref p) (_:y=.int i) (_:av K H p xs) (_:fE xs i=some v) (_:Q v H)
inductive CU  (x:V) (y:V) (H:Hp) (Q:VK):Prop
 | mk (z i c:_) (_:x=.str z) (_:y=.int i) (_:z.length<=sizeLine) (_:fE z.cps.toList i=some c) (_:Q (.str ⟨#[c]⟩) H)
theorem b4:sT X (CT X.K):=by
 intro value slice pins s σ H x y v u Q I rx ry h hs
 obtain⟨p,xs,i,z,rfl,rfl,hq,he,q⟩:=h
 cases rx
 obtain⟨t,rfl⟩:=ry
 obtain⟨its,r,pl,hz⟩:=I.list hq
 obtain⟨j,h1,h2,h3,h4,h5⟩:=nL he
 obtain⟨w,ew,rw'⟩:=r.get h2
 have hl:=r.length
 have hn:=gW
 have fin:EP X pins σ Q w s:=⟨z,H,I,rw',q⟩
 by_cases h0:0<=i
 ·have hj:i.toNat=j:=by
   rw [seqIndex_of h0 h5] at h1
   exact Option.some.inj h1
  exact item_listR pl.isList h0 (by omega) (by rw [hj];simpa using ew) fin hs
 ·have hj:(i+(its.toArray.size:Int)).toNat=j:=by
   rw [seqIndex_neg (by omega) h4] at h1
   rw [List.size_toArray,<-hl]
   exact Option.some.inj h1
  exact subscriptTail_builtinR (x:=w) pl.isList.typeIs slot_list_getitem.lookup
   (wpAny_getItem_list_neg (Q:=fun r s'=>r=w/\EP X pins σ Q r s') pl.isList (by omega) (by rw [List.size_toArray] <;> omega) (by omega) (by rw [hj];simpa using ew) ⟨rfl,fin⟩) hs
theorem bM:sT X (AV X.K):=by
 intro value slice pins s σ H x y v u Q I rx ry h hs
 obtain⟨p,xs,i,z,rfl,rfl,hq,he,q⟩:=h
 cases rx
 obtain⟨t,rfl⟩:=ry
 obtain⟨its,r,pl,hz⟩:=I.tuple hq
 obtain⟨j,h1,h2,h3,h4,h5⟩:=nL he
 obtain⟨w,ew,rw'⟩:=r.get h2
 have hl:=r.length
 have hn:=gW
 have fin:EP X pins σ Q w s:=⟨z,H,I,rw',q⟩
 exact subscriptTail_builtinR (x:=w) pl.typeIs slot_tuple_getitem.lookup
  (getItem_tuple (j:=j) (Q:=fun r s'=>r=w/\EP X pins σ Q r s') pl (by omega) (by omega) (by rw [List.size_toArray,<-hl];exact h1) (by simpa using ew) ⟨rfl,fin⟩) hs
theorem vQ:sT X CU:=by
  intro value slice pins s σ H x y v u Q I rx ry h hs
  obtain⟨z,i,c,rfl,rfl,hz,he,q⟩:=h
  obtain⟨t,rfl⟩:=rx
  obtain⟨t',rfl⟩:=ry
  obtain⟨j,h1,h2,h3,h4,h5⟩:=nL he
  have hl:z.cps.toList.length=z.length:=by simp [Str.length]
  rw [hl] at h1 h4 h5
  have hn:=gW
  exact tail_any (typeIs_str s z t) slot_str_getitem.lookup (getItem_str (c:=c) (by
    have e1:decide (i < -(2 ^ 63:Int))=false:=decide_eq_false (by omega)
    have e2:decide (i >= 2 ^ 63)=false:=decide_eq_false (by omega)
    rw [e1,e2,Bool.or_false]) (by rw [h1];simpa using h2) ⟨.str ⟨#[c]⟩,H,I.tok _,⟨_,rfl⟩,q⟩) hs
theorem uA (its:List Value) (n j:Nat) (u:Value):Obj.mapSeq (·.setIfInBounds j u) { cls:=.type "list",data:=.seq its.toArray n } = { cls:=.type "list",data:=.seq (its.set j u).toArray n }:=by
 simp [Obj.mapSeq]
theorem Inv.lst {pins:List (Addr × Obj)} {σ : St} {H:Hp} {s:Shared} {p:Addr} {xs:List V} (I:Inv X pins σ H s) (h:H p=some (.lst xs)) :
  ∃ (its:List Value) (n:Nat),Vals xs its/\s.heap.get? p=some { cls:=.type "list",data:=.seq its.toArray n }/\xs.length<=sizeLine:=by
 obtain⟨z,its,n,r,e⟩:=I.aJ p _ h
 exact⟨its,n,r,e,z⟩
theorem Inv.AW {pins:List (Addr × Obj)} {σ : St} {H:Hp} {s:Shared} {p:Addr} {xs ys:List V} {its its':List Value} {n n':Nat} {f:Obj->Obj} (I:Inv X pins σ H s) (h:H p=some (.lst xs))
  (ho:s.heap.get? p=some { cls:=.type "list",data:=.seq its.toArray n }) (hf:f { cls:=.type "list",data:=.seq its.toArray n } = { cls:=.type "list",data:=.seq its'.toArray n' }) (r:Vals ys its') (hz:ys.length<=sizeLine) (t:Nat) :
  Inv X pins σ (upd H p (.lst ys)) { s with heap:=s.heap.update p f,toks:=t }:=by
 have e:(s.heap.update p f).get? p=some { cls:=.type "list",data:=.seq its'.toArray n' }:=by
  rw [Heap.get?_update_self f ho (by rw [hf] <;> rfl),hf]
 refine I.write (x:=p) (e:=p) (by rw [h];trivial) (.inl rfl) (fun b u hb q=>(Heap.get?_update_other _ _ (Ne.symm hb)).trans q) ⟨_,e⟩ ?_
 exact⟨hz,its',n',r,e⟩
inductive BU  (o:V) (i:V) (v:V) (H:Hp) (Q:(Hp->Prop)):Prop
 | mk (p xs k j:_) (_:o=.ref p) (_:i=.int k) (_:H p=some (.lst xs)) (_:mC xs.length k=some j) (_:Q (upd H p (.lst (xs.set j v))))
theorem set_list:xt X BU:=by
 intro pins s σ H o i v ov iv u Q I ro ri rv h
 obtain⟨p,xs,k,j,rfl,rfl,hp,hj,q⟩:=h
 cases ro
 obtain⟨t,rfl⟩:=ri
 obtain⟨its,n,r,ho,hz⟩:=I.lst hp
 obtain⟨h1,h2,h3,h4⟩:=sR hj
 have hl:=r.length
 have hn:=gW
 have I':Inv X pins σ (upd H p (.lst (xs.set j v))) { s with heap:=s.heap.update p (Obj.mapSeq (·.setIfInBounds j u)) } :=
  I.AW hp ho (uA its n j u) (r.set rv j) (by rw [List.length_set];exact hz) s.toks
 by_cases h0:0<=k
 ·have hk:k.toNat=j:=by
   rw [seqIndex_of h0 h4] at h1
   exact Option.some.inj h1
  exact PySem.W.ki_setAt ho h0 (by omega) (by rw [List.size_toArray,<-hl];exact h4) (by rw [hk];exact⟨_,I',q⟩)
 ·have hk:(k+(its.toArray.size:Int)).toNat=j:=by
   rw [seqIndex_neg (by omega) h3] at h1
   rw [List.size_toArray,<-hl]
   exact Option.some.inj h1
  exact PySem.W.ki_setBack ho (by omega) (by rw [List.size_toArray,<-hl];exact h3) (by omega) (by rw [hk];exact⟨_,I',q⟩)
def ff:V->Bool
 | .bg=>true
 | .bl _=>true
 | .int _=>true
 | .str _=>true
 | _=>false
def oH:V->V->Bool
 | .bg,.bg=>true
 | .bl a,.bl b=>a == b
 | .bl a,.int b=>(if a then 1 else 0) == b
 | .int a,.bl b=>a == (if b then 1 else 0)
 | .int a,.int b=>a == b
 | .str a,.str b=>a == b
 | _,_=>false
theorem AX {A:Around} {s:Shared} {y x:V} {u v:Value} (ry:RelV y u) (rx:RelV x v) (fy:ff y=true) (fx:ff x=true):SeqAt.EqAt A s u v (oH y x):=by
 cases y with
 | bg =>
  cases ry
  cases x with
  | bg=>cases rx;exact SeqAt.EqAt.same _
  | bl b=>cases rx;exact SeqAt.EqAt.none_bool b
  | int b=>obtain⟨t,rfl⟩:=rx;exact SeqAt.EqAt.none_int b t
  | str b=>obtain⟨t,rfl⟩:=rx;exact SeqAt.EqAt.none_str b t
  | _=>exact absurd (show false=true from fx) Bool.false_ne_true
 | bl a =>
  cases ry
  cases x with
  | bg=>cases rx;exact SeqAt.EqAt.bool_none a
  | bl b=>cases rx;exact SeqAt.EqAt.bool_bool a b
  | int b=>obtain⟨t,rfl⟩:=rx;exact SeqAt.EqAt.bool_int a b t
  | str b=>obtain⟨t,rfl⟩:=rx;exact SeqAt.EqAt.bool_str a b t
  | _=>exact absurd (show false=true from fx) Bool.false_ne_true
 | int a =>
  obtain⟨t',rfl⟩:=ry
  cases x with
  | bg=>cases rx;exact SeqAt.EqAt.int_none a t'
  | bl b=>cases rx;exact SeqAt.EqAt.int_bool a t' b
  | int b=>obtain⟨t,rfl⟩:=rx;exact SeqAt.EqAt.int_int a t' b t
  | str b=>obtain⟨t,rfl⟩:=rx;exact SeqAt.EqAt.int_str a t' b t
  | _=>exact absurd (show false=true from fx) Bool.false_ne_true
 | str a =>
  obtain⟨t',rfl⟩:=ry
  cases x with
  | bg=>cases rx;exact SeqAt.EqAt.str_none a t'
  | bl b=>cases rx;exact SeqAt.EqAt.str_bool a t' b
  | int b=>obtain⟨t,rfl⟩:=rx;exact SeqAt.EqAt.str_int a t' b t
  | str b=>obtain⟨t,rfl⟩:=rx;exact SeqAt.EqAt.str_str a t' b t
  | _=>exact absurd (show false=true from fx) Bool.false_ne_true
 | _=>exact absurd (show false=true from fy) Bool.false_ne_true
def fV (x:V) (u:Value):Bool:=match u with
 | .none=>oH .bg x
 | .bool b=>oH (.bl b) x
 | .int i _=>oH (.int i) x
 | .str z _=>oH (.str z) x
 | _=>false
theorem vR {x y:V} {u:Value} (r:RelV y u) (f:ff y=true):fV x u=oH y x:=by
 cases y with
 | bg=>cases r;rfl
 | bl b=>cases r;rfl
 | int i=>obtain⟨t,rfl⟩:=r;rfl
 | str z=>obtain⟨t,rfl⟩:=r;rfl
 | _=>exact absurd (show false=true from f) Bool.false_ne_true
theorem iE {x:V}:∀ {xs:List V} {us:List Value},Vals xs us->xs.all ff=true->us.any (fV x)=xs.any fun y=>oH y x
 | _,_,.nil,_=>rfl
 | y :: xs,u :: us,.cons r t,f=>by
  rw [List.all_cons,Bool.and_eq_true] at f
  rw [List.any_cons,List.any_cons,vR r f.1,iE t f.2]
theorem fG {A:Around} {s:Shared} {x:V} {v:Value} (rx:RelV x v) (fx:ff x=true):∀ {xs:List V} {us:List Value},Vals xs us->xs.all ff=true->∀ u ∈ us,SeqAt.EqAt A s u v (fV x u)
 | _,_,.nil,_=>fun u hu=>by cases hu
 | y :: xs,u :: us,.cons r t,f=>fun u' hu=>by
  rw [List.all_cons,Bool.and_eq_true] at f
  rcases List.mem_cons.mp hu with rfl | hu
  ·rw [vR r f.1];exact AX r rx f.1 fx
  ·exact fG rx fx t f.2 u' hu
def eV (x:V) (xs:List V):Bool:=xs.any fun y=>oH y x
inductive zc (K:PySem.W.Frag) (neg:Bool) (x:V) (y:V) (H:Hp) (Q:VK):Prop
 | mk (p xs:_) (_:y=.ref p) (_:(aI K H p xs\/av K H p xs)) (_:ff x=true) (_:xs.all ff=true) (_:Q (.bl (if neg then !eV x xs else eV x xs)) H)
theorem ic:cY X (compareOp .In) (zc X.K false):=by
 intro pins s σ H x y v u Q I rx ry h
 obtain⟨p,xs,rfl,hq,fx,fs,q⟩:=h
 cases ry
 rcases hq with hq | hq
 ·obtain⟨its,r,pl,hz⟩:=I.list hq
  refine SeqAt.in_listAt (fV x) pl.isList (fun w hw=>fG rx fx r fs w (by simpa using hw)) ⟨.bl _,H,I,rfl,?_⟩
  rw [show its.toArray.any (fV x)=its.any (fV x) by simp,iE r fs]
  exact q
 ·obtain⟨its,r,pl,hz⟩:=I.tuple hq
  refine SeqAt.in_tupleAt (fV x) pl (fun w hw=>fG rx fx r fs w (by simpa using hw)) ⟨.bl _,H,I,rfl,?_⟩
  rw [show its.toArray.any (fV x)=its.any (fV x) by simp,iE r fs]
  exact q
theorem gY:cY X (compareOp .NotIn) (zc X.K true):=by
 intro pins s σ H x y v u Q I rx ry h
 obtain⟨p,xs,rfl,hq,fx,fs,q⟩:=h
 cases ry
 rcases hq with hq | hq
 ·obtain⟨its,r,pl,hz⟩:=I.list hq
  refine SeqAt.notIn_listAt (fV x) pl.isList (fun w hw=>fG rx fx r fs w (by simpa using hw)) ⟨.bl _,H,I,rfl,?_⟩
  rw [show its.toArray.any (fV x)=its.any (fV x) by simp,iE r fs]
  exact q
 ·obtain⟨its,r,pl,hz⟩:=I.tuple hq
  refine SeqAt.notIn_tupleAt (fV x) pl (fun w hw=>fG rx fx r fs w (by simpa using hw)) ⟨.bl _,H,I,rfl,?_⟩
  rw [show its.toArray.any (fV x)=its.any (fV x) by simp,iE r fs]
  exact q
theorem aN:cJ X (.builtin "len") (fun xs H Q=>∃ p ys,xs = [.ref p]/\(aI X.K H p ys\/av X.K H p ys)/\Q (.int ys.length) H):=by
 intro pins s σ H xs us Q I r h
 obtain⟨p,ys,rfl,hq,q⟩:=h
 obtain⟨u,rfl,rx⟩:=vals1 r
 cases rx
 have hn:=gW
 rcases hq with hq | hq
 ·obtain⟨its,r',pl,hz⟩:=I.list hq
  have hlen:=r'.length
  exact Calls.call_len_list pl.isList (by simp only [List.size_toArray] <;> omega) ⟨.int ys.length,H,I.tok _,⟨s.toks+1,by rw [List.size_toArray,hlen]⟩,q⟩
 ·obtain⟨its,r',pl,hz⟩:=I.tuple hq
  have hlen:=r'.length
  exact len_tuple pl (by simp only [List.size_toArray] <;> omega) ⟨.int ys.length,H,I.tok _,⟨s.toks+1,by rw [List.size_toArray,hlen]⟩,q⟩
theorem jO:cJ X (.type "list") (fun xs H Q=>∃ p ys,xs = [.ref p]/\(aI X.K H p ys\/av X.K H p ys)/\∀ l,H l=none->Q (.ref l) (upd H l (.lst ys))):=by
 intro pins s σ H xs us Q I r h
 obtain⟨p,ys,rfl,hq,q⟩:=h
 obtain⟨u,rfl,rx⟩:=vals1 r
 cases rx
 have fin:∀ (its:List Value),Vals ys its->ys.length<=sizeLine->∀ (h':Heap) (c':Nat),(∀ b o',s.heap.get? b=some o'->h'.get? b=some o') ->
   h'.get? s.heap.objs.size=some { cls:=.type "list",dict:=none,data:=.seq its.toArray c',slots:=#[] }->EP X pins σ Q (.ref s.heap.objs.size) { s with heap:=h' }:=fun its r' hz h' c' kp e =>
  ⟨.ref s.heap.objs.size,_,I.laid (t':=s.toks) kp (Nat.le_refl _) (show bC X.prog X.w _ h' _ (.lst ys) from ⟨hz,its,c',r',e⟩),rfl,q _ (I.aJ.fresh (Nat.le_refl _))⟩
 rcases hq with hq | hq
 ·obtain⟨its,r',pl,hz⟩:=I.list hq
  have hlen:=r'.length
  obtain⟨o,ho,hc,n,hd⟩:=pl.isList
  exact call_list_seq p (.inl rfl) ho hc hd (fun h' c' kp e=>fin its r' hz h' c' kp e) (by simp only [List.size_toArray] <;> omega)
 ·obtain⟨its,r',pl,hz⟩:=I.tuple hq
  have hlen:=r'.length
  obtain⟨o,ho,hc,n,hd⟩:=pl
  exact call_list_seq p (.inr rfl) ho hc hd (fun h' c' kp e=>fin its r' hz h' c' kp e) (by simp only [List.size_toArray] <;> omega)
theorem bu:cJ X (.type "tuple") (fun xs H Q=>∃ p ys,xs = [.ref p]/\((aI X.K H p ys/\∀ l,H l=none->Q (.ref l) (upd H l (.tup ys)))\/(av X.K H p ys/\Q (.ref p) H))):=by
 intro pins s σ H xs us Q I r h
 obtain⟨p,ys,rfl,h⟩:=h
 obtain⟨u,rfl,rx⟩:=vals1 r
 cases rx
 rcases h with ⟨hq,q⟩ | ⟨hq,q⟩
 ·obtain⟨its,r',pl,hz⟩:=I.list hq
  have hlen:=r'.length
  refine call_tuple_list pl.isList (fun h' kp=>?_) (by simp only [List.size_toArray] <;> omega)
  have I1:Inv X pins σ H { s with heap:=h' }:=I.kept (t':=s.toks) kp
  have I2:Inv X pins σ (upd H h'.objs.size (.tup ys)) { s with heap:=h'.push { cls:=.type "tuple",data:=.seq its.toArray } } :=
   I1.laid (t':=s.toks) (fun b o e=>Heap.get?_push_of_some _ e) (Nat.le_refl _) (show bC X.prog X.w _ _ _ (.tup ys) from ⟨hz,its,r',⟨_,Heap.get?_push_size _ rfl,rfl,_,rfl,rfl⟩⟩)
  exact⟨.ref h'.objs.size,_,I2,rfl,q _ (I1.aJ.fresh (Nat.le_refl _))⟩
 ·obtain⟨its,r',pl,hz⟩:=I.tuple hq
  exact call_tuple_same pl ⟨.ref p,H,I,rfl,q⟩
def AY (K:PySem.W.Frag) (T:String) (x:V) (H:Hp):Prop:=match x with
 | .str _=>T = "str"
 | .int _=>T = "int"
 | .ref p=>(T = "list" /\ ∃ xs,aI K H p xs)\/(T = "tuple" /\ ∃ o,K.lookup p=some o/\o.cls=.type "tuple" /\ o.dict=none) \/
   (T = "dict" /\ ((∃ kvs,H p=some (.dK kvs))\/∃ kvs,H p=some (.dT kvs)))\/(T = "set" /\ ∃ S n,H p=some (.set S n))
 | _=>False
theorem vS {pins:List (Addr × Obj)} {σ : St} {H:Hp} {s:Shared} {T:String} {x:V} {v:Value} (I:Inv X pins σ H s) (r:RelV x v) (ty:AY X.K T x H) :
  s.TypeIs v T/\∀ a,v=.ref a->∃ ob,s.heap.get? a=some ob/\ob.dict=none:=by
 cases x with
 | str z =>
  obtain⟨t,rfl⟩:=r
  cases (show T = "str" from ty)
  exact⟨typeIs_str s z t,fun _ e=>nomatch e⟩
 | int i =>
  obtain⟨t,rfl⟩:=r
  cases (show T = "int" from ty)
  exact⟨typeIs_int s i t,fun _ e=>nomatch e⟩
 | ref p =>
  cases r
  rcases ty with ⟨rfl,xs,hq⟩ | ⟨rfl,o,hk,hc,hd⟩ | ⟨rfl,hk⟩ | ⟨rfl,S,n,hk⟩
  ·obtain⟨its,_,pl,_⟩:=I.list hq
   refine⟨pl.isList.typeIs,fun a e=>?_⟩
   cases e
   obtain⟨o,n,e,c,hd,_⟩:=pl
   exact⟨o,e,hd⟩
  ·refine⟨⟨o,I.gu p o hk,hc⟩,fun a e=>?_⟩
   cases e
   exact⟨o,I.gu _ o hk,hd⟩
  ·have z:∃ o,s.heap.get? p=some o/\o.ExactDict:=by
    rcases hk with ⟨kvs,hk⟩ | ⟨kvs,hk⟩
    ·obtain⟨_,_,_,_,o,_,_,e,ex,_⟩:=I.aJ p _ hk
     exact⟨o,e,ex⟩
    ·obtain⟨_,_,_,_,o,_,_,e,ex,_⟩:=I.aJ p _ hk
     exact⟨o,e,ex⟩
   obtain⟨o,e,ex⟩:=z
   refine⟨⟨o,e,ex.1⟩,fun a e2=>?_⟩
   cases e2
   exact⟨o,e,ex.2.1⟩
  ·obtain⟨o,_,_,_,e,ex,_⟩:=I.aJ p _ hk
   refine⟨⟨o,e,ex.1⟩,fun a e2=>?_⟩
   cases e2
   exact⟨o,e,ex.2.1⟩
 | _=>exact False.elim ty
def CV (K:PySem.W.Frag) (T:String) (r:V->List V->Hp->VK->Prop) (to:TE):TE:=fun σ H Q=>to σ H fun x H1=>AY K T x H1/\r x [] H1 Q
def Dd (K:PySem.W.Frag) (T:String) (r:V->List V->Hp->VK->Prop) (to:TE) (t:TA):TE:=fun σ H Q=>to σ H fun x H1=>AY K T x H1/\t σ H1 fun xs H2=>r x xs H2 Q
variable {o e:Expr} {es:List Expr} {to:TE} {t:TA} {name:Str} {apos cpos:Pos} {T id:String} {r:V->List V->Hp->VK->Prop}
theorem AZ (pa:PlainAttrs T) (slot:Slot T name id) (hty:typeOf (.builtin id)=pure (.type "method_descriptor")) (hm:AU X id r) (ho:PE X o to)
  (hbase:attributeBase o name X.env (eval o X.env)=eval o X.env:=by rfl) (hline:(apos.endLine == cpos.line)=true:=by rfl):PE X (.Call (.Attribute o name apos) [] [] cpos) (CV X.K T r to):=by
 intro pins s σ H Q I h
 refine wpAny_Call_method0_late hbase hline (aT (ho pins s σ H _ I h) fun v s1 ⟨x,H1,I1,r1,ty,q1⟩=>?_)
 obtain⟨h1,h2⟩:=vS I1 r1 ty
 exact⟨T,id,pa,slot,hty,h1,h2,Calls.callWith_builtin rfl (PySem.evalArgs_none (hm pins s1 σ H1 x [] v [] Q I1 r1 .nil q1))⟩
theorem eJ (pa:PlainAttrs T) (slot:Slot T name id) (hty:typeOf (.builtin id)=pure (.type "method_descriptor")) (hm:AU X id r) (ho:PE X o to) (ha:PA X (e :: es) t)
  (hbase:attributeBase o name X.env (eval o X.env)=eval o X.env:=by rfl)
  (hfew:((backTo cpos (starEach (e :: es) X.env)).all (fun x=>!x.1) && (backToKw cpos (keywordEach [] X.env)).all (fun x=>x.1.isSome)
   && decide ((e :: es).length+([]:List Keyword).length+(if ([]:List Keyword).isEmpty then 0 else 1) < 30))=true:=by rfl)
  (hline:(apos.endLine == cpos.line)=true:=by rfl) (hs:starEach (e :: es) X.env=(false,eval e X.env) :: starEach es X.env:=by rfl) (hplain:(backTo cpos (starEach es X.env)).any (·.1)=false:=by rfl) :
  PE X (.Call (.Attribute o name apos) (e :: es) [] cpos) (Dd X.K T r to t):=by
 intro pins s σ H Q I h
 refine wpAny_Call_method_late hbase hfew hline rfl (aT (ho pins s σ H _ I h) fun v s1 ⟨x,H1,I1,r1,ty,q1⟩=>?_)
 obtain⟨h1,h2⟩:=vS I1 r1 ty
 refine⟨T,id,pa,slot,hty,h1,h2,?_⟩
 have hA:=ha cpos pins s1 σ H1 _ I1 q1
 rw [hs] at hA ⊢
 refine Calls.callWith_builtin (by show (false || (backTo cpos (starEach es X.env)).any (·.1))=false;rw [hplain] <;> rfl) (Calls.evalArgs_plain ?_)
 exact aT hA fun us s2 ⟨vs,H2,I2,r2,q2⟩=>hm pins s2 σ H2 x vs v us Q I2 r1 r2 q2
end
def sU (X:Cx) (id:String) (r:V->List V->Hp->VK->Prop):Prop :=
 ∀ (pins:List (Addr × Obj)) (s:Shared) (σ : St) (H:Hp) (x:V) (xs:List V) (v:Value) (us:List Value) (Q:VK),Inv X pins σ H s->RelV x v->Vals xs us->r x xs H Q ->
  wpAny (model X.prog X.w) X.A (call (.builtin id) (v :: us)) (EP X pins σ Q) X.xe s
theorem Vals.one:∀ {x:V} {us:List Value},Vals [x] us->∃ u,us = [u]/\RelV x u
 | _,_,.cons r .nil=>⟨_,rfl,r⟩
theorem Vals.zero:∀ {us:List Value},Vals [] us->us = []
 | _,.nil=>rfl
theorem Vals.dropLast {xs:List V} {us:List Value} (h:Vals xs us):Vals xs.dropLast us.dropLast:=by
 induction h with
 | nil=>exact .nil
 | cons r t ih =>
  cases t with
  | nil=>exact .nil
  | cons q t'=>exact .cons r ih
theorem uB {α : Type} (l:List α):l.eraseIdx (l.length - 1)=l.dropLast:=by
 induction l with
 | nil=>rfl
 | cons a r ih =>
  cases r with
  | nil=>rfl
  | cons b r =>
   have e:(a :: b :: r).length - 1=((b :: r).length - 1)+1:=by
    have h1:(a :: b :: r).length=r.length+2:=rfl
    have h2:(b :: r).length=r.length+1:=rfl
    omega
   rw [e,List.eraseIdx_cons_succ,ih]
   all_goals rfl
section
variable {X:Cx} {pins:List (Addr × Obj)} {σ : St} {H:Hp} {s:Shared} {l b:Addr} {xs ys zs:List V}
theorem Inv.xM {its its':List Value} {n:Nat} {f:Array Value->Array Value} {t':Nat} (I:Inv X pins σ H s) (hH:H l=some (.lst xs))
  (e:s.heap.get? l=some { cls:=.type "list",data:=.seq its.toArray n }) (hf:f its.toArray=its'.toArray) (hv:Vals ys its') (hz:ys.length<=sizeLine) :
  Inv X pins σ (upd H l (.lst ys)) { s with heap:=s.heap.update l (Obj.mapSeq f),toks:=t' }:=by
 have q:=PySem.IsL.update e f
 rw [hf] at q
 refine I.write (x:=l) (e:=l) (by rw [hH];exact trivial) (.inl rfl) (fun b' u hb hu=>(Heap.get?_update_other s.heap (Obj.mapSeq f) (Ne.symm hb)).trans hu) ⟨_,q⟩ ?_
 exact⟨hz,its',_,hv,q⟩
theorem Inv.fresh (I:Inv X pins σ H s):H s.heap.objs.size=none:=I.aJ.fresh (Nat.le_refl _)
theorem Inv.qt (I:Inv X pins σ H s) (hH:H l=some (.lst xs)):xs.length<=sizeLine/\∃ (its:List Value) (n:Nat),Vals xs its/\xs.length=its.length/\s.heap.get? l=some { cls:=.type "list",data:=.seq its.toArray n }:=by
 obtain⟨z,its,n,r,e⟩:=I.aJ l _ hH
 exact⟨z,its,n,r,r.length,e⟩
theorem xN {n:Nat} (h:n<=sizeLine):Builtin.List.listTooLong n=false:=by
 unfold Builtin.List.listTooLong
 exact decide_eq_false (by omega)
end
section
variable {X:Cx}
inductive zK  (x:V) (vs:List V) (H:Hp) (Q:VK):Prop
 | mk (l xs y:_) (_:x=.ref l) (_:vs = [y]) (_:H l=some (.lst xs)) (_:xs.length < sizeLine) (_:Q .bg (upd H l (.lst (xs ++ [y]))))
theorem dJ:sU X "list.append" zK:=by
 intro pins s σ H x vs v us Q I rx rv h
 obtain⟨l,xs,y,rfl,rfl,hH,hz,q⟩:=h
 cases rx
 obtain⟨u,rfl,ru⟩:=rv.one
 obtain⟨z,its,n,r,hl,e⟩:=I.qt hH
 refine call_meets F.slot_list_append ⟨_,e,rfl⟩ F.entry_list_append (F.args_list_append_2 _ _) (PySem.list_append l its.toArray n u (by rw [List.size_toArray];omega)) ⟨e,?_⟩
 refine⟨.bg,_,I.xM (its':=its ++ [u]) hH e (by simp) (r.append (.cons ru .nil)) ?_,rfl,q⟩
 rw [List.length_append,List.length_singleton]
 omega
inductive zL  (x:V) (vs:List V) (H:Hp) (Q:VK):Prop
 | mk (l b xs zs:_) (_:x=.ref l) (_:vs = [.ref b]) (_:H l=some (.lst xs)) (_:H b=some (.lst zs)) (_:xs.length+zs.length<=sizeLine) (_:Q .bg (upd H l (.lst (xs++zs))))
theorem oJ:sU X "list.extend" zL:=by
 intro pins s σ H x vs v us Q I rx rv h
 obtain⟨l,b,xs,zs,rfl,rfl,hH,hB,hz,q⟩:=h
 cases rx
 obtain⟨u,rfl,ru⟩:=rv.one
 cases ru
 obtain⟨z,its,n,r,hl,e⟩:=I.qt hH
 obtain⟨z2,its2,n2,r2,hl2,e2⟩:=I.qt hB
 have hsz:its.toArray.size+its2.toArray.size<=sizeLine:=by rw [List.size_toArray,List.size_toArray];omega
 have hlong:¬ (!its.toArray.isEmpty && Builtin.List.listTooLong (its.toArray.size+its2.toArray.size))=true:=by
  rw [xN hsz,Bool.and_false]
  exact Bool.false_ne_true
 refine call_meets F.slot_list_extend ⟨_,e,rfl⟩ F.entry_list_extend (F.args_list_extend_2 _ _)
  (AutoSeq1.list_extend_list_list_0 l its.toArray n b its2.toArray n2 hlong (by rw [List.size_toArray];omega) (by omega)) ⟨e,e2,?_⟩
 refine⟨.bg,_,I.xM (its':=its++its2) hH e (by simp) (r.append r2) ?_,rfl,q⟩
 rw [List.length_append]
 omega
inductive CW  (x:V) (vs:List V) (H:Hp) (Q:VK):Prop
 | mk (l xs y:_) (_:x=.ref l) (_:vs = []) (_:H l=some (.lst xs)) (_:xs[xs.length - 1]? = some y) (_:Q y (upd H l (.lst xs.dropLast)))
theorem A0:sU X "list.pop" CW:=by
 intro pins s σ H x vs v us Q I rx rv h
 obtain⟨l,xs,y,rfl,rfl,hH,hy,q⟩:=h
 cases rx
 have hus:=rv.zero
 subst hus
 obtain⟨z,its,n,r,hl,e⟩:=I.qt hH
 obtain⟨u,hu,ru⟩:=r.get hy
 have hy':its.toArray[its.toArray.size - 1]? = some u:=by
  show its.toArray[its.length - 1]? = some u
  rw [<-Array.getElem?_toList,<-hl]
  exact hu
 refine call_meets F.slot_list_pop ⟨_,e,rfl⟩ F.entry_list_pop (F.args_list_pop_1 _) (MeetsSeq.list_pop_last l its.toArray n u hy' (by rw [List.size_toArray];omega)) ⟨e,?_⟩
 refine⟨y,_,I.xM (its':=its.dropLast) hH e ?_ r.dropLast ?_,ru,q⟩
 ·show its.toArray.eraseIdxIfInBounds (its.toArray.size - 1)=its.dropLast.toArray
  rw [List.size_toArray,List.eraseIdxIfInBounds_toArray,uB]
 ·rw [List.length_dropLast]
  omega
end
section
variable {prog:Program} {w:World} {A:Around} {E:Value->Shared->Prop} {s:Shared}
end
section
variable {X:Cx}
end
end L2
namespace Ck
open PySem PySem.W PySem.Calls PyProof.Rows
theorem mD {P:Params} {h:Heap}:∀ (ns:List Int) (vs:List Value),WellAll P h vs (ns.map WData.int)->IntsAre vs ns:=by
 intro ns
 induction ns with
 | nil =>
  intro vs w
  rw [List.map_nil] at w
  cases w
  exact .nil
 | cons n ns ih =>
  intro vs w
  rw [List.map_cons] at w
  cases w with
  | cons a b =>
   cases a
   exact .cons _ _ (ih _ b)
theorem vT {l:OpenLaw} {n:Nat} (hn:l.most=some n) {P:Params} {h:Heap} {args:List WData} {vals:List Value}
  (hpre:l.row.toRowW.claim.pre args=true) (hwl:WellAll P h vals args) :
  ∃ a vs ns,vals = [Value.ref a]/\args = [WData.list (ns.map WData.int)]/\h.get? a=some { cls:=.type "list",data:=.seq vs.toArray }/\IntsAre vs ns/\ns.length<=n:=by
 have hsh:WShape.hasAll [] args [.list .int] = true:=(pre_splitW hpre).1
 have hc:l.pre.holds [] { args:=args }=true:=(pre_splitW hpre).2
 obtain⟨d,r,rfl,h1,h2⟩:=hasAllW_cons hsh
 obtain rfl:=hasAllW_nil h2
 obtain⟨xs,rfl,h3⟩:=hasW_list h1
 obtain⟨ns,rfl⟩:=items_int h3
 have hlen:ns.length<=n:=by
  unfold OpenLaw.pre at hc
  have h4:(WTm.not (.lt (.lit (.int (n:Int))) (.len (.arg 0)))).holds [] { args:=[.list (ns.map .int)] }=true:=by
   have h4:=(holds_andW hc).1
   rw [hn] at h4
   exact h4
  have h5:=condW_of h4 (w_not (w_lt w_lit (w_len_list (w_arg rfl))))
  rw [List.length_map] at h5
  refine Nat.le_of_not_lt fun q=>?_
  have q':(n:Int) < ((ns.length:Nat):Int):=by omega
  first
   | (rw [decide_eq_true q'] at h5;exact absurd h5 (by decide))
   | (simp at h5;omega)
 cases hwl with
 | cons w1 w2 =>
  cases w2
  cases w1 with
  | list ho hall=>exact⟨_,_,ns,rfl,rfl,ho,mD ns _ hall,hlen⟩
theorem vU (l:OpenLaw) (args:List WData):l.row.toRowW.claim.post args (.bool true) args=true :=
 postW_of (r:=l.row.toRowW) (X:=(true == true))
  (show WShape.has [] (.bool true) .bool=true by first | rfl | decide | simp [WShape.has,WShape.arms,WShape.armsAll])
  (show (WTm.eq .res (.lit (.bool true))).value [] { args:=args,res:=some (.bool true),after:=args }=some (.bool (true == true)) from w_eq_bool (w_res rfl) w_lit) rfl
theorem rS {l:OpenLaw} {n:Nat} {q:Program} {loose:List Str} {XP:(Str->Option Value)->Heap->Prop} {YP:World->Heap->Prop} {d:DefRec}
  (hn:l.most=some n) (hdf:d.params.defaults = [])
  (call:∀ (w:World) (cX s₁ : Shared) (mg mb:Str->Option Value) (fa:Addr) (o:Obj) (pm cd doc:Value) (a:Addr) (vs:List Value) (ns:List Int),
   Ground q loose [] XP w cX mg mb s₁.heap->YP w s₁.heap ->
   s₁.heap.get? fa=some o->o.data=.func (docDef d.name d.params d.body d.scope pm cd doc)->s₁.heap.CodeRec cd d.name->mg d.name=some (.ref fa) ->
   s₁.heap.get? a=some { cls:=.type "list",data:=.seq vs.toArray }->IntsAre vs ns->ns.length<=n->s₁.gens = #[] ->
   codeAny (model l.prog w) callerA (.call (.ref fa) ⟨[.ref a],[]⟩) (fun r s'=>r=.ok (.ret (.bool true))/\OldK s₁.heap s'.heap/\s'.os=s₁.os/\AllBare s'.gens) s₁) :
  WalkO q loose XP YP l.row.toRowW d [] (fun f vs=>PySem.call f vs):=by
 intro w cX s₁ mg mb G Y fa o pm cd doc dV kV ho hd hcd hD hmg hg args vals as hpre hlay hrd hwl hlo
 obtain rfl:dV=.none:=Dflts.none hD hdf
 obtain rfl:kV=.none:=Dflts.noKw hD
 obtain⟨a,vs,ns,rfl,rfl,hobj,hints,hlen⟩:=vT hn hpre hwl
 refine enter_call (codeAny_mono (call w cX s₁ mg mb fa o pm cd doc a vs ns G Y ho (fd_plain hd) hcd hmg hobj hints hlen hg) fun r s' hq=>?_)
 obtain⟨rfl,h2,h3,h4⟩:=hq
 exact⟨.inl ⟨.bool true,.bool true,[],rfl,fun _=>rfl,.bool true,vU l _,fun _=>⟨List.Pairwise.nil,fun _ hm=>(nomatch hm)⟩⟩,h2,h3,h4⟩
section
variable {prog:Program} {w:World} {A:Around} {E:Value->Shared->Prop} {s:Shared} {K:Frag}
def ledger (h:Heap) (L d:Addr):List (Addr × Obj):=(List.range h.objs.size).filterMap fun a=>if a=L\/a=d then none else (h.get? a).map fun o=>(a,o)
end
end Ck
namespace L2
open PySem PySem.Spec PyProof.Rows
theorem fW:∀ {vs:List Value} {ns:List Int},IntsAre vs ns->Vals (ns.map V.int) vs
 | _,_,.nil=>.nil
 | _,_,.cons n t h=>.cons ⟨t,rfl⟩ (fW h)
def xO (H:Hp):Prop:=∀ b,H b=none\/∃ o xs,H b=some (.kX o (.lst xs))
theorem xP {P:Program} {w:World} {K:PySem.W.Frag} {mg mb:Str->Option Value} {CX:jN} {k:Nat} {fa a:Addr} {fd:FuncData} {x:Str} {sp:Sp} {s₁ : Shared} {vs:List Value} {ns:List Int}
    (KX:K.In s₁.heap) (hns:s₁.heap.Ns mainGlobals mg) (hb:s₁.heap.Ns builtinsNs mb) (hbb:∀ x:Str,x ≠ "__name__" -> mb x=bootBuiltins x) (hlim:s₁.heap.NoLimit) (hg:s₁.gens = #[])
    (ha:s₁.heap.get? a=some { cls:=.type "list",data:=.seq vs.toArray }) (hi:IntsAre vs ns) (hl:ns.length<=sizeLine) (hr:cb k callerA)
    (F:∀ base:Heap,K.In base->base.Ns mainGlobals mg->ba P w K mg base CX k fa fd [x] sp) (hbind:∀ (s:Shared) (u:Value),BindsTo s fd ⟨[u],[]⟩ [(x,u)])
    (hsp:∀ H:Hp,xO H->aI K H a (ns.map V.int)->sp [.ref a] H (fun v _=>v=.bl true) fun _ _ _=>False)
    (hCX:∀ H e s',CX [] H s₁ (fun _ _ _=>False) e s'->False) :
    codeAny (model P w) callerA (.call (.ref fa) ⟨[.ref a],[]⟩) (fun r s'=>r=.ok (.ret (.bool true))/\OldK s₁.heap s'.heap/\s'.os=s₁.os/\AllBare s'.gens) s₁:=by
  have rv:=fW hi
  have lenV:=hi.length
  have core:∀ H:Hp,xO H->aI K H a (ns.map V.int)->cR P w H s₁.heap->(∀ b,H b ≠ none->b=a)->(H a ≠ none->K.lookup a=none) ->
      codeAny (model P w) callerA (.call (.ref fa) ⟨[.ref a],[]⟩) (fun r s'=>r=.ok (.ret (.bool true))/\OldK s₁.heap s'.heap/\s'.os=s₁.os/\AllBare s'.gens) s₁:=by
    intro H hO hS aJ hA hK
    have base_of:∀ {b:Addr} {o:Obj},s₁.heap.get? b=some o->H b=none->(iR s₁.heap H).get? b=some o:=fun e n=>xm e n
    have noA:∀ {b:Addr} {o:Obj} {es:Array DictEntry} {ep:Nat},s₁.heap.get? b=some o->o.data=.dict es ep->H b=none:=fun {b o es ep} e d=>by
      cases q:H b with
      | none=>rfl
      | some u =>
        have e':b=a:=hA b (by rw [q];simp)
        subst e'
        rw [ha] at e;cases e
        have d':Data.seq vs.toArray _=Data.dict es ep:=d
        cases d'
    have nsK:∀ {b:Addr} {m:Str->Option Value},s₁.heap.Ns b m->(iR s₁.heap H).Ns b m:=fun {b m} ⟨o,es,ep,e,d,r⟩=>⟨o,es,ep,base_of e (noA e d),d,r⟩
    have hKb:K.In (iR s₁.heap H):=fun b o e=>base_of (KX b o e) (by
      cases q:H b with
      | none=>rfl
      | some u =>
        have e':b=a:=hA b (by rw [q];simp)
        subst e'
        rw [hK (by rw [q];simp)] at e;cases e)
    have hM:Mod K mg (iR s₁.heap H):=⟨hKb,nsK hns,⟨mb,nsK hb,hbb⟩,let ⟨mc,h1,h2⟩:=hlim;⟨mc,nsK h1,h2⟩⟩
    have e0:lO P w K mg (iR s₁.heap H) callerA [] s₁ H:=⟨rfl,hM,fun b o e=>zu e,Nat.le_of_eq (vB _ _),trivial,fun b hb=>absurd (show b ∈ ([]:List Addr) from hb) (by simp),aJ,.of_eq hg⟩
    refine codeAny_mono ((F _ hKb (nsK hns)).run callerA [] s₁ H ⟨[.ref a],[]⟩ [.ref a] [.ref a] _ _ hr e0 (hbind s₁ (.ref a)) (.cons rfl .nil) (hsp H hO hS)) fun r s' h=>?_
    cases r with
    | error e=>exact (hCX H e s' h).elim
    | ok fl =>
      cases fl with
      | next=>exact False.elim h
      | brk=>exact False.elim h
      | cont=>exact False.elim h
      | ret u =>
        obtain⟨v,H',os,bare,un,hok',r',q⟩:=h
        have q':v=.bl true:=q
        subst q'
        obtain rfl:u=Value.bool true:=r'
        refine⟨rfl,OldK.of_keep fun b o e=>?_,os,bare⟩
        cases q:H b with
        | none=>exact un.keep b o e q (by intro z;exact absurd (show b ∈ ([]:List Addr) from z) (by simp)) (by simp)
        | some u =>
          rcases hO b with z | ⟨ob,xs,z⟩
          · rw [q] at z;cases z
          · have z2:=un.iQ b ob _ z
            obtain⟨e1,_⟩:=aJ b _ z
            obtain⟨e2,_⟩:=hok' b _ z2
            rw [e] at e1;cases e1
            exact e2
  cases hk:K.lookup a with
  | some o =>
    have e:=KX a o hk
    rw [ha] at e
    cases e
    refine core (fun _=>none) (fun _=>.inl rfl) (.inr ⟨_,vs.toArray,_,hk,rfl,rfl,rfl,by rw [List.size_toArray,lenV];exact hl,by simpa using rv⟩) (fun b u z=>by have z':(none:Option HO)=some u:=z;cases z') (fun b z=>absurd rfl z) fun z=>absurd rfl z
  | none =>
    refine core (fun b=>if b=a then some (.kX { cls:=.type "list",data:=.seq vs.toArray } (.lst (ns.map V.int))) else none) (fun b=>?_) (.inl (.inr ⟨{ cls:=.type "list",data:=.seq vs.toArray },if_pos rfl⟩)) (fun b u z=>?_) (fun b z=>?_) fun _=>hk
    · by_cases hb:b=a
      · exact .inr ⟨_,_,if_pos hb⟩
      · exact .inl (if_neg hb)
    · by_cases hb:b=a
      · have z':=(if_pos hb).symm.trans z
        cases z'
        subst hb
        exact⟨ha,by rw [List.length_map];exact hl,vs,_,rv,ha⟩
      · have z':=(if_neg hb).symm.trans z
        cases z'
    · by_cases hb:b=a
      · exact hb
      · exact absurd (if_neg hb) z
abbrev KOf {K:PySem.W.Frag} {h:Heap} (_:K.In h):PySem.W.Frag:=K
theorem zM {l:PySem.W.OpenLaw} {n k:Nat} {q:Program} {loose:List Str} {XP:(Str->Option Value)->Heap->Prop} {YP:World->Heap->Prop} {d:DefRec} {K:Params->PySem.W.Frag} {CX:World->jN} {sp:World->Sp} {x:Str}
  (hn:l.most=some n) (hn2:n<=sizeLine) (hdf:d.params.defaults = []) (hr:cb k callerA)
  (hY:∀ (w:World) (h:Heap),YP w h->(K w.params).In h)
  (F:∀ (w:World) (mg:Str->Option Value) (fa:Addr) (h:Heap),(K w.params).In h->h.Ns mainGlobals mg->mg d.name=some (.ref fa) ->
   ∃ fd:FuncData,(∀ (s:Shared) (u:Value),BindsTo s fd ⟨[u],[]⟩ [(x,u)]) /\
    ∀ base:Heap,(K w.params).In base->base.Ns mainGlobals mg->ba l.prog w (K w.params) mg base (CX w) k fa fd [x] (sp w))
  (hsp:∀ (w:World) (H:Hp) (a:Addr) (ns:List Int),ns.length<=n->xO H->aI (K w.params) H a (ns.map V.int)->sp w [.ref a] H (fun v _=>v=.bl true) fun _ _ _=>False)
  (hCX:∀ (w:World) (H:Hp) (s:Shared) (e:Value) (s':Shared),CX w [] H s (fun _ _ _=>False) e s'->False) :
  PySem.W.WalkO q loose XP YP l.row.toRowW d [] (fun f vs=>PySem.call f vs):=by
 refine Ck.rS hn hdf fun w cX s₁ mg mb fa o pm cd doc a vs ns G Y ho hd hcd hmg hobj hints hlen hg=>?_
 have KX:=hY w _ Y
 obtain⟨fd,hb,hF⟩:=F w mg fa _ KX G.T.g hmg
 exact xP KX G.T.g G.T.b G.T.builtins G.T.nolimit hg hobj hints (Nat.le_trans hlen hn2) hr hF hb (fun H hO hS=>hsp w H a ns hlen hO hS) fun H e s'=>hCX w H s₁ e s'
def inClass (s:Stmt) (j:Nat):Stmt:=match s with
 | .ClassDef _ _ _ body _ _ _ _ _ _ _=>body.getD j (.Pass ⟨0,0,0,0⟩)
 | _=>.Pass ⟨0,0,0,0⟩
def cK (s:Stmt):Arguments:=match s with
 | .FunctionDef _ a _ _ _ _ _ _ _ _=>a
 | _=>{ posonlyargs:=[],args:=[],vararg:=none,kwonlyargs:=[],kw_defaults:=[],kwarg:=none,defaults:=[] }
def cx (s:Stmt):List Stmt:=match s with
 | .FunctionDef _ _ b _ _ _ _ _ _ _=>b
 | _=>[]
def au (s:Stmt):Scope:=match s with
 | .FunctionDef _ _ _ _ _ _ sc _ _ _=>sc
 | _=>{ kind:=.function,names:=[],isGenerator:=false,isCoroutine:=false }
abbrev bN:jN:=fun _ _ _ _ _ _=>False
abbrev E0:XK:=fun _ _ _=>False
theorem uC {X:Cx}:Passes bN X E0:=fun _ _ _ _ _ _ _ h=>h.elim
structure bQ (K:PySem.W.Frag) (x qual:Str) (st:Stmt) (f:Addr) (fd:FuncData):Prop where
 ex:∃ (oc:Value) (od:Option Addr) (kV doc pm:Value) (an:Option Addr) (cdv ct:Value) (osl:Array (Option Value)),
  fd=PySem.W.fnOf x qual (cK st) (cx st) (au st) .none kV doc pm an cdv ct/\K.lookup f=some ⟨oc,od,.func fd,osl⟩/\PySem.W.codeIn K cdv qual=true
 kp:PySem.W.keepIn K (.ref f)=true
section
variable {P:Program} {w:World} {K:PySem.W.Frag} {mg:Str->Option Value} {base:Heap}
theorem bQ.ok {x qual:Str} {st:Stmt} {f:Addr} {fd:FuncData} {N ps:List Str} {k:Nat} {sp:Sp} (F:bQ K x qual st f fd) (S:aM N ps (au st)) (len:∀ vs H Q E,sp vs H Q E->vs.length=ps.length)
  (hbody:∀ (cdv:Value) (A:Around) (outer:List Env) (s:Shared) (H:Hp) (vs:List V) (Q:VK) (E:XK),cb k (A.deeper (envOfC qual (au st) s.heap.objs.size f cdv))->sp vs H Q E ->
   ∃ t,ib (lP bN P w K mg base N qual (au st) f cdv A outer s H E).sG (cx st) t/\t { nx:=fun _ H'=>Q .bg H',rt:=Q } (start N vs) H):ba P w K mg base bN (k+1) f fd ps sp:=by
 obtain⟨oc,od,kV,doc,pm,an,cdv,ct,osl,rfl,lk,hcd⟩:=F.ex
 refine za lk hcd S len fun A outer s H vs Q E hr hsp=>?_
 obtain⟨t,h,q⟩:=hbody cdv A outer s H vs Q E hr hsp
 exact⟨t,h.sG,q⟩
theorem bQ.binds {x qual:Str} {st:Stmt} {f:Addr} {fd:FuncData} {ps:List Str} (F:bQ K x qual st f fd)
  (h:∀ (kV doc pm:Value) (an:Option Addr) (cdv ct:Value) (us:List Value),us.length=ps.length->bindArgs (PySem.W.fnOf x qual (cK st) (cx st) (au st) .none kV doc pm an cdv ct) ⟨us,[]⟩=pure (ps.zip us)):Binds K fd ps []:=by
 obtain⟨oc,od,kV,doc,pm,an,cdv,ct,osl,rfl,lk,hcd⟩:=F.ex
 exact .all (h kV doc pm an cdv ct)
theorem vV {x qual:Str} {st:Stmt} {f:Addr} {oc:Value} {od an:Option Addr} {osl:Array (Option Value)} {kV doc pm cdv ct:Value} (l:K.lookup f=some ⟨oc,od,.func (PySem.W.fnOf x qual (cK st) (cx st) (au st) .none kV doc pm an cdv ct),osl⟩)
  (c:PySem.W.codeIn K cdv qual=true) (k:PySem.W.keepIn K (.ref f)=true):bQ K x qual st f (PySem.W.fnOf x qual (cK st) (cx st) (au st) .none kV doc pm an cdv ct):=⟨⟨oc,od,kV,doc,pm,an,cdv,ct,osl,rfl,l,c⟩,k⟩
end
theorem gF {A:Around} {k:Nat} (hr:cb k A):A.units+1 < cLine:=Nat.lt_of_le_of_lt (Nat.add_le_add_left (by decide:1<=64) _) hr.units
theorem aX {n:Nat} (h:n<=1000):n < sizeLine:=Nat.lt_of_le_of_lt h (by decide)
section
variable {X:Cx}
theorem pv (i:Nat) {x:Str} {pos:Pos} (hN:X.N[i]? = some x:=by rfl) (hv:Az X.env.scope x:=by first | exact Or.inl rfl | exact Or.inr (Or.inl rfl) | exact Or.inr (Or.inr rfl)) (hd:(x == ("__debug__" : Str))=false:=by decide)
  (hcd:(x == ("__classdict__" : Str))=false:=by decide):PE X (.Name x pos) (AA i):=AB hN hv hd hcd
end
theorem bJ {A B:Prop} (h:B):if false=true then A else B:=by
 rw [if_neg Bool.false_ne_true]
 exact h
theorem bT {A B:Prop} (h:A):if true=true then A else B:=by
 rw [if_pos rfl]
 exact h
theorem du {c A B:Prop} [Decidable c] (h1:c->A) (h2:¬ c->B):if c then A else B:=by
 by_cases h:c
 ·rw [if_pos h]
  exact h1 h
 ·rw [if_neg h]
  exact h2 h
def ae (H H':Hp):Prop:=∀ b o,H b=some o->H' b=some o
theorem ae.refl (H:Hp):ae H H:=fun _ _ h=>h
theorem ae.trans {H H1 H2:Hp} (a:ae H H1) (b:ae H1 H2):ae H H2:=fun c o h=>b c o (a c o h)
theorem ae.free {H H':Hp} (e:ae H H') {l:Addr} (h:H' l=Option.none):H l=Option.none:=by
 cases q:H l with
 | none=>rfl
 | some o =>
  rw [e l o q] at h
  cases h
theorem ae.seq {K:PySem.W.Frag} {H H':Hp} {a:Addr} {xs:List V} (e:ae H H') (h:aI K H a xs):aI K H' a xs:=by
 rcases h with (h | ⟨o,h⟩) | h
 ·exact .inl (.inl (e _ _ h))
 ·exact .inl (.inr ⟨o,e _ _ h⟩)
 ·exact .inr h
section
variable {X:Cx}
theorem zN:cY X (binaryOp .Mult) (rI IntMulOk fun i j=>.int (i * j)):=sL fun _ _ _ _ _ _ _ hc q=>mul_int q hc
def BW (_i j:Int):Prop:=0 < j/\j.natAbs.log2 < 9000
theorem xQ:cY X (binaryOp .FloorDiv) (rI BW fun i j=>.int (i / j)):=sL fun i j _ _ _ _ _ hc q=>by
 have h1:(0:Int) < j:=hc.1
 exact floordiv_int (by omega) (by rw [Int.fdiv_eq_ediv_of_nonneg i (by omega)];exact q) (.inl (PyProof.noPylong_of_log2 hc.2))
structure Own (P:Program) (w:World) (K:PySem.W.Frag) (mg:Str->Option Value) (base:Heap) (x:Str) (k:Nat) (ps:List Str) (sp:Sp):Prop where
 ex:∃ f fd,ba P w K mg base bN k f fd ps sp/\mg x=some (.ref f)/\PySem.W.keepIn K (.ref f)=true/\Binds K fd ps []
variable {x:Str} {k:Nat} {ps:List Str} {sp:Sp} {e:Expr} {es:List Expr} {t:TA} {p pos:Pos}
theorem A1 (o:Own X.prog X.w X.K X.mg X.base x k ps sp) (hr:cb k X.A) (hg:Gl X x) (ha:PA X (e :: es) t)
  (hdb:(x == ("__debug__" : Str))=false:=by decide) (he:starEach (e :: es) X.env=(false,eval e X.env) :: starEach es X.env:=by rfl)
  (hpl:(backTo pos (starEach es X.env)).any (·.1)=false:=by rfl):PE X (.Call (.Name x p) (e :: es) [] pos) (uw sp [] E0 t):=by
 obtain⟨f,fd,F,hm,hk,hb⟩:=o.ex
 exact zF F hr hg hm hk hb .nil uC ha hdb he hpl
end
theorem eW {α : Type} {x:α} {xs:List α}:fE (x :: xs) 0=some x:=bO (j:=0) rfl
theorem eX {α : Type} {x y:α} {xs:List α}:fE (x :: y :: xs) 1=some y:=bO (j:=1) rfl
theorem at2 {α : Type} {x y z:α} {xs:List α}:fE (x :: y :: z :: xs) 2=some z:=bO (j:=2) rfl
theorem uD {α : Type} {xs:List α} {i:Int} (h0:0<=i) (h1:i < xs.length):∃ v,fE xs i=some v/\v ∈ xs:=by
 obtain⟨j,rfl⟩:∃ j:Nat,i=j:=⟨i.toNat,by omega⟩
 have hj:j < xs.length:=by omega
 exact⟨xs[j],bO (by simp [hj]),List.getElem_mem hj⟩
theorem bE:bootBuiltins "len" = some (.builtin "len"):=by decide +kernel
theorem vW:bootBuiltins "min" = some (.builtin "min"):=by decide +kernel
theorem A5:bootBuiltins "max" = some (.builtin "max"):=by decide +kernel
theorem cm:bootBuiltins "tuple" = some (.type "tuple"):=by decide +kernel
theorem sV:bootBuiltins "list" = some (.type "list"):=by decide +kernel
def cT (H:Hp) (b:Addr):Prop:=∃ x y:Int,H b=some (.lst [.int x,.int y])/\0<=y/\y < 2147483648
def Fix (b:Addr) (H H':Hp):Prop:=∀ c o,H c=some o->c ≠ b->H' c=some o
theorem Fix.trans {b:Addr} {H H1 H2:Hp} (u:Fix b H H1) (v:Fix b H1 H2):Fix b H H2:=fun c o h n=>v c o (u c o h n) n
theorem Fix.zd {b:Addr} {H:Hp} {o:HO}:Fix b H (upd H b o):=fun c u h n=>by rw [ao n];exact h
theorem Fix.new {b p:Addr} {H:Hp} {o:HO} (hp:H p=none):Fix b H (upd H p o):=fun c u h _=>by rw [ao (aw h hp)];exact h
theorem Fix.of_same {b:Addr} {H H':Hp} (h:ae H H'):Fix b H H':=fun c o e _=>h c o e
theorem ae.new {p:Addr} {H:Hp} {o:HO} (hp:H p=none):ae H (upd H p o):=fun c u h=>by rw [ao (aw h hp)];exact h
theorem cT.new {b p:Addr} {H:Hp} {o:HO} (h:cT H b) (hp:H p=none):cT (upd H p o) b:=by
 obtain⟨x,y,e,q⟩:=h
 exact⟨x,y,by rw [ao (aw e hp)];exact e,q⟩
theorem cT.same {b:Addr} {H H':Hp} (h:cT H b) (s:ae H H'):cT H' b:=by
 obtain⟨x,y,e,q⟩:=h
 exact⟨x,y,s _ _ e,q⟩
theorem ze {α : Type} {x0:α}:[x0].length<=sizeLine:=by show 1<=sizeLine;decide
theorem ln2 {α : Type} {x0 x1:α}:[x0,x1].length<=sizeLine:=by show 2<=sizeLine;decide
theorem sW {α : Type} {x0 x1 x2:α}:[x0,x1,x2].length<=sizeLine:=by show 3<=sizeLine;decide
theorem De {α : Type} {x0 x1 x2 x3 x4:α}:[x0,x1,x2,x3,x4].length<=sizeLine:=by show 5<=sizeLine;decide
theorem Df {α : Type} {x0 x1 x2 x3 x4 x5 x6:α}:[x0,x1,x2,x3,x4,x5,x6].length<=sizeLine:=by show 7<=sizeLine;decide
theorem ae.qu {b:Addr} {H H1 H2:Hp} (s:ae H H1) (n:H b=none) (f:Fix b H1 H2):ae H H2:=fun c o e=>f c o (s c o e) (aw e n)
theorem cT.vX {b p:Addr} {H:Hp} {xs:List V} (h:cT H b) (e:H p=some (.tup xs)):p ≠ b:=by
 obtain⟨x,y,e1,_⟩:=h
 exact bH e e1 (by intro z;cases z)
theorem cT.dP {b p:Addr} {H:Hp} (h:cT H b) (e:H p=none):p ≠ b:=by
 obtain⟨x,y,e1,_⟩:=h
 exact fun z=>aw e1 e z.symm
inductive zf (K:PySem.W.Frag) (vs:List V) (H:Hp) (Q:VK) (_:XK):Prop
 | mk (a:Addr) (ns:List Int) (k:Int) (_:vs = [.ref a,.int k]) (_:aI K H a (ns.map V.int)) (_:0<=k) (_:∀ b H',H b=none->cT H' b->ae H H'->Q (.ref b) H')
inductive fX  (vs:List V) (H:Hp) (Q:VK) (_:XK):Prop
 | mk (b:Addr) (m:Int) (_:vs = [.ref b,.int m]) (_:cT H b) (_:(0 < m/\m.natAbs.log2 < 9000)) (_:∀ r H',0<=r->r < m->cT H' b->Fix b H H'->Q (.int r) H')
inductive pZ (K:PySem.W.Frag) (vs:List V) (H:Hp) (Q:VK) (_:XK):Prop
 | mk (a:Addr) (ns:List Int) (_:vs = [.ref a]) (_:aI K H a (ns.map V.int)) (_:ns.length<=63) (_:∀ H',Q (.bl true) H')
def iF (cells:List (Str × Addr)):List (Str × NameKind)->List (Str × Addr)->List (Str × Addr)
 | [],cs=>cs
 | (n,k) :: r,cs=>iF cells r (if k == .free then (n,(cells.lookup n).getD 0) :: cs else cs)
theorem mE {scope:Scope} {env:Env} (hf:∀ y ∈ scope.names,y.2=.free->∃ c,env.cells.lookup y.1=some c):closureFor scope env=pure (iF env.cells scope.names []):=by
 have key:∀ (names:List (Str × NameKind)) (cs:List (Str × Addr)),(∀ y ∈ names,y.2=.free->∃ c,env.cells.lookup y.1=some c) ->
   (forIn names cs fun x r=>match x with
    | (name,kind)=>if (kind == NameKind.free)=true then (do let a <-cellOf env name;pure (ForInStep.yield ((name,a) :: r))) else pure (ForInStep.yield r):Sem (List (Str × Addr)))=pure (iF env.cells names cs):=by
  intro names
  induction names with
  | nil=>intro cs _;rfl
  | cons y r ih =>
   intro cs hy
   obtain⟨n,k⟩:=y
   have ih':=fun cs=>ih cs fun z hz=>hy z (List.mem_cons_of_mem _ hz)
   rw [List.forIn_cons]
   by_cases hk:(k == NameKind.free)=true
   ·have e:k=.free:=by simpa using hk
    obtain⟨c,hc⟩:=hy (n,k) List.mem_cons_self e
    have hc':env.cells.lookup n=some c:=hc
    simp only [hk,if_true,cellOf,hc',pure_bind,iF,Option.getD_some]
    exact ih' _
   ·have hk':(k == NameKind.free)=false:=by simpa using hk
    simp only [hk',Bool.false_eq_true,if_false,pure_bind,iF]
    exact ih' _
 unfold closureFor
 have e:=key scope.names [] hf
 show ((forIn scope.names ([]:List (Str × Addr)) fun x r=>match x with
    | (name,kind)=>if (kind == NameKind.free)=true then (do let a <-cellOf env name;pure (ForInStep.yield ((name,a) :: r))) else pure (ForInStep.yield r):Sem (List (Str × Addr))) >>= fun r=>pure r)=_
 rw [e,pure_bind]
theorem jP {cells:List (Str × Addr)}:∀ (names:List (Str × NameKind)) (cs:List (Str × Addr)),(∀ y ∈ names,y.2=.free->∃ c,cells.lookup y.1=some c) ->
  (∀ x c,cs.lookup x=some c->cells.lookup x=some c)->∀ x c,(iF cells names cs).lookup x=some c->cells.lookup x=some c
 | [],_,_,h,x,c,e=>h x c e
 | (n,k) :: r,cs,hf,h,x,c,e=>by
  refine jP r _ (fun y hy=>hf y (List.mem_cons_of_mem _ hy)) (fun z d hz=>?_) x c e
  by_cases hk:(k == NameKind.free)=true
  ·rw [if_pos hk] at hz
   obtain⟨c',hc⟩:=hf (n,k) List.mem_cons_self (by simpa using hk)
   have hc':cells.lookup n=some c':=hc
   rw [List.lookup_cons] at hz
   cases hzn:z == n with
   | true =>
    rw [hzn] at hz
    have:z=n:=by simpa using hzn
    subst this
    rw [hc'] at hz ⊢
    simpa using hz
   | false=>rw [hzn] at hz;exact h z d hz
  ·rw [if_neg hk] at hz;exact h z d hz
theorem nM {cells:List (Str × Addr)} {x:Str}:∀ (names:List (Str × NameKind)) (cs:List (Str × Addr)),((x,NameKind.free) ∈ names\/∃ c,cs.lookup x=some c)->∃ c,(iF cells names cs).lookup x=some c
 | [],_,h=>by
  rcases h with h | h
  ·cases h
  ·exact h
 | (n,k) :: r,cs,h=>by
  refine nM r _ ?_
  by_cases hk:(k == NameKind.free)=true
  ·rw [if_pos hk]
   cases hxn:x == n with
   | true=>exact .inr ⟨_,by rw [List.lookup_cons,hxn]⟩
   | false =>
    rcases h with h | ⟨c,h⟩
    ·rcases List.mem_cons.mp h with h | h
     ·have:x=n:=(Prod.mk.inj h).1
      subst this
      simp at hxn
     ·exact .inl h
    ·exact .inr ⟨c,by rw [List.lookup_cons,hxn];exact h⟩
  ·rw [if_neg hk]
   rcases h with h | h
   ·rcases List.mem_cons.mp h with h | h
    ·have:NameKind.free=k:=(Prod.mk.inj h).2
     subst this
     simp at hk
    ·exact .inl h
   ·exact .inr h
theorem gZ {env:Env} {x:Str} {k:NameKind} (hk:k=.cell\/k=.free):∀ {names:List (Str × NameKind)},(∀ y ∈ names,y.2 ≠ .cell) ->
  (names.map fun (n,k)=>if (k == NameKind.free && env.scope.kind == .function && env.kindOf n == some .cell) then (n,NameKind.cell) else (n,k)).lookup x=some k->(x,NameKind.free) ∈ names
 | [],_,h=>by simp at h
 | (n,q) :: r,hc,h=>by
  have ih:=gZ (env:=env) (x:=x) hk (names:=r) (fun y hy=>hc y (List.mem_cons_of_mem _ hy))
  have h':List.lookup x ((if (q == NameKind.free && env.scope.kind == .function && env.kindOf n == some .cell)=true then (n,NameKind.cell) else (n,q)) :: _)=some k:=h
  by_cases hq:(q == NameKind.free && env.scope.kind == .function && env.kindOf n == some .cell)=true
  ·rw [if_pos hq,List.lookup_cons] at h'
   have eq:q=.free:=by
    rw [Bool.and_eq_true,Bool.and_eq_true] at hq
    simpa using hq.1.1
   cases hxn:x == n with
   | true =>
    have:x=n:=by simpa using hxn
    subst this;subst eq
    exact List.mem_cons_self
   | false=>rw [hxn] at h';exact List.mem_cons_of_mem _ (ih h')
  ·rw [if_neg hq,List.lookup_cons] at h'
   cases hxn:x == n with
   | true =>
    rw [hxn] at h'
    have:x=n:=by simpa using hxn
    subst this
    have e:q=k:=Option.some.inj h'
    subst e
    rcases hk with hk | hk
    ·exact absurd hk (hc (x,q) List.mem_cons_self)
    ·subst hk;exact List.mem_cons_self
   | false=>rw [hxn] at h';exact List.mem_cons_of_mem _ (ih h')
theorem jQ {env:Env} {x:Str}:∀ {names:List (Str × NameKind)},names.lookup x=some .free ->
  (names.map fun (n,k)=>if (k == NameKind.free && env.scope.kind == .function && env.kindOf n == some .cell) then (n,NameKind.cell) else (n,k)).lookup x=some .cell \/
  (names.map fun (n,k)=>if (k == NameKind.free && env.scope.kind == .function && env.kindOf n == some .cell) then (n,NameKind.cell) else (n,k)).lookup x=some .free
 | [],h=>by simp at h
 | (n,q) :: r,h=>by
  have ih:=jQ (env:=env) (x:=x) (names:=r)
  show List.lookup x ((if (q == NameKind.free && env.scope.kind == .function && env.kindOf n == some .cell)=true then (n,NameKind.cell) else (n,q)) :: _)=some .cell \/
   List.lookup x ((if (q == NameKind.free && env.scope.kind == .function && env.kindOf n == some .cell)=true then (n,NameKind.cell) else (n,q)) :: _)=some .free
  rw [List.lookup_cons] at h
  by_cases hq:(q == NameKind.free && env.scope.kind == .function && env.kindOf n == some .cell)=true
  ·rw [if_pos hq,List.lookup_cons]
   cases hxn:x == n with
   | true=>exact .inl rfl
   | false=>rw [hxn] at h;exact ih h
  ·rw [if_neg hq,List.lookup_cons]
   cases hxn:x == n with
   | true=>rw [hxn] at h;exact .inr h
   | false=>rw [hxn] at h;exact ih h
def fg (X:Cx) (scope:Scope) (C:Addr) (N':List Str) (fp:List Addr) (s₁ : Shared) (H₁ : Hp):Cx where
 prog:=X.prog
 w:=X.w
 K:=X.K
 mg:=X.mg
 base:=X.base
 A:=X.A
 N:=N'
 cX:=s₁
 qe:=H₁
 env:=compEnvC scope (iF X.env.cells scope.names []) C X.env
 outer:=X.stack
 stack:=X.stack
 ex:=fp
 fn:=fun _=>false
 calm:=X.calm
 pn:=[]
 xe:=fun _ _=>False
def fH (X:Cx) (scope:Scope):List Str->List Nat->Prop
 | [],[]=>True
 | x :: fr,j :: js=>(X.N[j]? = some x/\(X.env.kindOf x=some .cell\/X.env.kindOf x=some .free)/\scope.names.lookup x=some .free)/\fH X scope fr js
 | _,_=>False
theorem fH.len {X:Cx} {scope:Scope}:∀ {fr:List Str} {js:List Nat},fH X scope fr js->fr.length=js.length
 | [],[],_=>rfl
 | _ :: _,_ :: _,h=>by simp [fH.len h.2]
 | [],_ :: _,h=>h.elim
 | _ :: _,[],h=>h.elim
theorem fH.mem {X:Cx} {scope:Scope} {x:Str}:∀ {fr:List Str} {js:List Nat},fH X scope fr js->x ∈ fr->X.env.kindOf x=some .cell\/X.env.kindOf x=some .free
 | [],[],_,h=>by cases h
 | a :: fr,b :: js,h,hm=>by
  rcases List.mem_cons.mp hm with rfl | hm
  ·exact h.1.2.1
  ·exact fH.mem h.2 hm
 | [],_ :: _,h,_=>h.elim
 | _ :: _,[],h,_=>h.elim
theorem fH.get {X:Cx} {scope:Scope}:∀ {fr:List Str} {js:List Nat} {i:Nat} {x:Str} {j:Nat},fH X scope fr js->fr[i]? = some x->js[i]? = some j ->
  X.N[j]? = some x/\(X.env.kindOf x=some .cell\/X.env.kindOf x=some .free)/\scope.names.lookup x=some .free
 | [],[],_,_,_,_,h,_=>by simp at h
 | a :: fr,b :: js,0,x,j,h,h1,h2=>by
  simp at h1 h2
  subst h1;subst h2
  exact h.1
 | a :: fr,b :: js,i+1,x,j,h,h1,h2=>fH.get h.2 (by simpa using h1) (by simpa using h2)
 | [],_ :: _,_,_,_,h,_,_=>h.elim
 | _ :: _,[],_,_,_,h,_,_=>h.elim
def lg (n:Nat) (js:List Nat) (σ : St):St:=List.replicate n none++js.map fun j=>σ.getD j none
theorem Ba {X:Cx} {pins:List (Addr × Obj)} {σ : St} {H:Hp} {s:Shared} {scope:Scope} {fp:List Addr} {C:Addr} {N':List Str} (I:Inv X pins σ H s) (hk:scope.kind=.function) (hcell:∀ y ∈ scope.names,y.2 ≠ .cell)
  (hf:∀ y ∈ scope.names,y.2=.free->∃ c,X.env.cells.lookup y.1=some c) (hC:s.heap.objs.size<=C) (hfp:∀ b ∈ fp,gQ X pins H b) (hlt:∀ b ∈ fp,b < s.heap.objs.size):(fg X scope C N' fp s H).Ok:=by
 have ag:∀ x c,(iF X.env.cells scope.names []).lookup x=some c->X.env.cells.lookup x=some c:=jP scope.names [] hf fun x c e=>by simp at e
 refine⟨I.ok.mod,hk,I.ok.glob,I.ok.blt,hC,fun x y c h1 h2=>I.ok.inj x y c (ag x c h1) (ag y c h2),fun x hx=>?_,(fun x c h=>(by cases h)),I.ok.hd,I.ok.frames,.inl rfl,fun b hb=>?_,I.bs,?_,fun b o e hb=>?_,fun b hb=>?_,I.stack,I.sE⟩
 ·refine nM scope.names [] (.inl ?_)
  rcases hx with hx | hx
  ·exact gZ (.inl rfl) hcell hx
  ·exact gZ (.inr rfl) hcell hx
 ·obtain⟨h1,h2,h3,h4,h5,h6⟩:=hfp b hb
  exact⟨Nat.ne_of_lt (Nat.lt_of_lt_of_le (hlt b hb) hC),fun x c e=>h5 x c (ag x c e)⟩
 ·exact Nat.le_trans I.ok.mn I.sz
 ·obtain⟨h1,h2,h3,h4,h5,h6⟩:=hfp b hb
  rcases h4 with h4 | h4
  ·exact I.ok.qf b o e h4
  ·exact absurd (Nat.lt_of_lt_of_le (Heap.lt_size e) (Nat.le_trans I.ok.mn h4)) (Nat.lt_irrefl _)
 ·obtain⟨h1,h2,h3,h4,h5,h6⟩:=hfp b hb
  intro z
  rcases List.mem_cons.mp (I.mq b z) with z | z
  ·exact h2 z
  ·exact h3 z
def sY (J:It) (n:Nat) (js:List Nat) (g:TG) (ct:TT) (te:TE) (acc:Addr) (σ : St) (H1:Hp) (Q:VK):Prop :=
 ∃ W:Nat->Nat->List V->St->Hp->Prop,(∃ m,W 0 m [] (lg n js σ) (upd H1 acc (.lst [])))/\∀ i m ys τ H2,W i m ys τ H2->H2 acc=some (.lst ys)/\ys.length < sizeLine /\
  ((J.stop i H2/\Q (.ref acc) H2)\/(J.go i H2/\∃ N:List V->St->Hp->Prop,(∀ ys' τ' H',N ys' τ' H'->∃ m',m' < m/\W (i+1) m' ys' τ' H')/\∀ x H3,J.sH i H2 x H3->g x τ H3 fun τ1 H4=>ct τ1 H4 fun b H5 =>
   if b=true then te τ1 H5 fun y H6=>H6 acc=some (.lst ys)/\N (ys ++ [y]) τ1 (upd H6 acc (.lst (ys ++ [y]))) else N ys τ1 H5))
def Cm (n:Nat) (js:List Nat) (wi:TI) (g:TG) (ct:TT) (te:TE):TE:=fun σ H Q=>wi σ H fun J H1=>∀ acc,H1 acc=none->sY J n js g ct te acc σ H1 Q
def vY (X:Cx) (ifs:List Expr) (t:TT):Prop :=
 ∀ (pins:List (Addr × Obj)) (s:Shared) (σ : St) (H:Hp) (Q:Bool->Hp->Prop),Inv X pins σ H s->t σ H Q ->
  wpAny (model X.prog X.w) X.A (forIn ifs true fun c r=>if r=true then do let ok <-isTrue c X.env (eval c X.env);pure (ForInStep.yield ok) else pure (ForInStep.yield r)) (TP X pins σ Q) X.xe s
def Bb:TT:=fun _ H Q=>Q true H
theorem eY {X:Cx}:vY X [] Bb:=fun _ _ σ H Q I h=>wpAny_pure ⟨H,I,h⟩
theorem d9 {X:Cx} {c:Expr} {t:TT} (h:PT X c t):vY X [c] t:=by
 intro pins s σ H Q I q
 rw [List.forIn_cons]
 simp only [if_true,bind_assoc,pure_bind]
 refine wpAny_bind (aT (h pins s σ H Q I q) fun b s1 h1=>?_)
 exact wpAny_pure h1
section
variable {X:Cx} {pos:Pos}
theorem jE {prog:Program} {w:World} {A:Around} {R:Result->Shared->Prop} {s:Shared} {elt target iter:Expr} {ifs:List Expr} {scope:Scope} {pos:Pos} {it acc:Value} {env:Env} (I:Nat->Shared->Prop)
  (turn:∀ n s,I n s->wpAny (model prog w) A (pyNext it) (fun r s₁=>match r with
   | none=>R (.ok .next) s₁
   | some v=>wpAny (model prog w) A (letOwnedTupleGo target it v) (fun _ s₁'=>wpAny (model prog w) A (assign target env v) (fun _ s₂ =>
     wpAny (model prog w) A (forIn ifs true fun c r=>if r=true then do let ok <-isTrue c env (eval c env);pure (ForInStep.yield ok) else pure (ForInStep.yield r)) (fun ok s₃ =>
      if ok=true then wpAny (model prog w) A (eval elt env) (fun x s₄ =>
       wpAny (model prog w) A (call (.builtin "list.append") [acc,x]) (fun _ s₅=>∃ m,m < n/\I m s₅) (fun _ _=>False) s₄) (fun _ _=>False) s₃
      else ∃ m,m < n/\I m s₃) (fun _ _=>False) s₂) (fun _ _=>False) s₁') (fun _ _=>False) s₁) (fun _ _=>False) s)
  (n:Nat) (h:I n s) :
  codeAny (model prog w) A (.compLoop (.ListComp elt [⟨target,iter,ifs,0⟩] scope pos) 0 it acc env) R s:=by
 refine codeAny_loop rfl I (fun n s hI=>?_) n h
 show wpAny _ A ((compTurn (.ListComp elt [⟨target,iter,ifs,0⟩] scope pos) 0 it acc env).onRaise (fun x=>do noteFrame x env;theTreesLotGoes x)) _ _ s
 refine wpAny_noted ?_
 rw [compTurn_list]
 refine wpAny_bind (wpAny_standAt (wpAny_bind (wpAny_mono (turn n s hI) (fun r s₁ h₁=>?_) fun _ _ h'=>h'.elim)))
 cases r with
 | none=>exact wpAny_pure h₁
 | some v =>
  refine wpAny_bind (wpAny_mono h₁ (fun _ s₁' h₁'=>?_) fun _ _ h'=>h'.elim)
  refine wpAny_bind (wpAny_mono h₁' (fun _ s₂ h₂=>wpAny_bind (wpAny_mono h₂ (fun ok s₃ h₃=>?_) fun _ _ h'=>h'.elim)) fun _ _ h'=>h'.elim)
  cases ok with
  | false=>exact wpAny_pure ⟨rfl,h₃⟩
  | true =>
   exact wpAny_bind (wpAny_bind (wpAny_mono h₃ (fun x s₄ h₄=>wpAny_bind (wpAny_mono h₄ (fun _ s₅ h₅=>wpAny_pure (wpAny_pure ⟨rfl,h₅⟩)) fun _ _ h'=>h'.elim)) fun _ _ h'=>h'.elim))
theorem sZ {pins:List (Addr × Obj)} {σ : St} {H:Hp} {s:Shared} {E:Value->Shared->Prop} {tg elt iter:Expr} {ifs:List Expr} {scope:Scope} {g:TG} {ct:TT} {te:TE} {ts fr:List Str} {js:List Nat}
    {it:Addr} {fp:List Addr} {tn:Nat->Heap->Prop} {J:It} {Q:VK} {RR:Value->Addr->Result->Shared->Prop}
    (hc:X.calm=true) (hkind:scope.kind=.function) (hcell:∀ y ∈ scope.names,y.2 ≠ .cell) (hfree:∀ y ∈ scope.names,y.2=.free->X.env.kindOf y.1=some .cell\/X.env.kindOf y.1=some .free)
    (hfr:fH X scope fr js) (htg:∀ C fp s₁ H₁,PG (fg X scope C (ts++fr) fp s₁ H₁) tg g) (hct:∀ C fp s₁ H₁,vY (fg X scope C (ts++fr) fp s₁ H₁) ifs ct) (hte:∀ C fp s₁ H₁,PE (fg X scope C (ts++fr) fp s₁ H₁) elt te)
    (I:Inv X pins σ H s) (T:Turn X.prog X.w X.K tg J fp it tn) (st:tn 0 s.heap) (hfp:∀ b ∈ fp,gQ X pins H b)
    (h:∀ acc,H acc=none->sY J ts.length js g ct te acc σ H Q)
    (hRR:∀ acc C H' s' m,Inv X pins σ H' s'->s'.heap.Ns C m->H' C=none->s.heap.objs.size<=C->Q (.ref acc) H'->RR (.ref acc) C (.ok .next) s') :
    wpAny (model X.prog X.w) X.A (newList []) (fun acc s₃=>wpAny (model X.prog X.w) X.A (newFunctionEnv scope X.env.globals (iF X.env.cells scope.names []) [] X.env.qual none .none (some X.env)) (fun cenv s₄ =>
      codeAny (model X.prog X.w) X.A (.compStart (.ListComp elt [⟨tg,iter,ifs,0⟩] scope pos) 0 (.ref it) acc { cenv with scope:=relabel scope X.env }) (RR acc cenv.locals) s₄) E s₃) E s:=by
  have hf:∀ y ∈ scope.names,y.2=.free->∃ c,X.env.cells.lookup y.1=some c:=fun y hy e=>I.ok.has y.1 (hfree y hy e)
  have ag:∀ x c,(iF X.env.cells scope.names []).lookup x=some c->X.env.cells.lookup x=some c:=jP scope.names [] hf fun x c e=>by simp at e
  have hlt:∀ b ∈ fp,b < s.heap.objs.size:=fun b hb=>by
    obtain⟨o,e,_⟩:=T.obj _ _ st b hb
    exact Heap.lt_size e
  refine wpAny_newObj_type (wpAny_newFunctionEnv hcell (by intro y hy;simp at hy) (fun h₁ hns₁ hsb₁=>?_) hkind)
  dsimp only at hns₁ hsb₁ ⊢
  generalize hH2:s.heap.push { cls:=.type "list",dict:=none,data:=.seq ([]:List Value).toArray }=G2 at hns₁ hsb₁ ⊢
  have hC:G2.objs.size=s.heap.objs.size+1:=by rw [<-hH2,Heap.size_push]
  have hDC:s.heap.objs.size ≠ G2.objs.size:=by rw [hC];exact Nat.ne_of_lt (Nat.lt_succ_self _)
  have hCle:s.heap.objs.size<=G2.objs.size:=by rw [hC];exact Nat.le_succ _
  have below:∀ b,b < s.heap.objs.size->b ≠ G2.objs.size/\b ≠ s.heap.objs.size:=fun b hb=>⟨by rw [hC];exact Nat.ne_of_lt (Nat.lt_succ_of_lt hb),Nat.ne_of_lt hb⟩
  have old:∀ b o,s.heap.get? b=some o->h₁.get? b=some o:=fun b o e=>hsb₁.extBut b o (below b (Heap.lt_size e)).1 (Heap.get?_push_of_some _ (hH2 ▸ Heap.get?_push_of_some _ e))
  have hacc:h₁.get? s.heap.objs.size=some { cls:=.type "list",data:=.seq ([]:List Value).toArray }:=hsb₁.extBut _ _ hDC (Heap.get?_push_of_some _ (hH2 ▸ Heap.get?_push_size _ rfl))
  have nD:H s.heap.objs.size=none:=I.aJ.fresh (Nat.le_refl _)
  have nC:H G2.objs.size=none:=I.aJ.fresh hCle
  obtain⟨W,⟨m0,w0⟩,turn⟩:=h s.heap.objs.size nD
  generalize hXb:fg X scope G2.objs.size (ts++fr) fp s H=Xb
  have Ib:∀ tk,Inv Xb [] (lg ts.length js σ) (upd H s.heap.objs.size (.lst [])) { s with heap:=h₁,toks:=tk }:=by
    intro tk
    subst hXb
    refine⟨Ba I hkind hcell hf hCle hfp hlt,rfl,I.bare,Un.laid old (Nat.le_refl _) nD,⟨_,hns₁,fun i x v e1 e2 e3=>?_⟩,fun x c e=>?_,?_,fun x c e=>?_,fun p hp=>absurd (show p ∈ ([]:List (Addr × Obj)) from hp) (by simp),I.aJ.laid old (Nat.le_refl _) ⟨by show 0<=sizeLine;decide,[],_,.nil,hacc⟩,?_⟩
    · have hi:ts.length<=i:=by
        refine Nat.le_of_not_lt fun hi=>?_
        unfold lg at e2
        rw [List.getElem?_append_left (by simpa using hi),List.getElem?_replicate] at e2
        split at e2 <;> cases e2
      have e1':fr[i - ts.length]? = some x:=by
        have e1'':(ts++fr)[i]? = some x:=e1
        rw [List.getElem?_append_right hi] at e1''
        exact e1''
      unfold lg at e2
      rw [List.getElem?_append_right (by simpa using hi),List.length_replicate,List.getElem?_map] at e2
      cases ej:js[i - ts.length]? with
      | none=>rw [ej] at e2;cases e2
      | some j =>
        rw [ej] at e2
        have e2':σ.getD j none=some v:=by simpa using e2
        obtain⟨q1,q2,q3⟩:=hfr.get e1' ej
        have e2'':σ[j]? = some (some v):=by
          rw [List.getD_eq_getElem?_getD] at e2'
          cases ez:σ[j]? with
          | none=>rw [ez] at e2';cases e2'
          | some z=>rw [ez] at e2';rw [show z=some v from e2']
        obtain⟨m,hn,hl⟩:=I.loc
        obtain⟨u,r,l⟩:=hl j x v q1 e2'' (by
          rcases q2 with q2 | q2
          · exact .inr (.inl q2)
          · exact .inr (.inr q2))
        refine⟨u,r,.inr ⟨jQ q3,?_⟩⟩
        rcases l with ⟨l,_⟩ | ⟨_,c,lc,lv⟩
        · rcases q2 with q2 | q2 <;> (rw [l] at q2;cases q2)
        · obtain⟨c',hc'⟩:=nM (cells:=X.env.cells) scope.names [] (.inl (PySem.mem_of_lookup q3))
          have:=ag x c' hc'
          rw [lc] at this
          cases this
          obtain⟨o,ho,hd⟩:=lv
          exact⟨c,hc',o,old _ _ ho,hd⟩
    · obtain⟨v,o,ho,hd⟩:=I.cell x c (ag x c e)
      exact⟨v,o,old _ _ ho,hd⟩
    · show upd H s.heap.objs.size (.lst []) G2.objs.size=none
      rw [ao hDC.symm];exact nC
    · obtain⟨v,o,ho,hd⟩:=I.cell x c (ag x c e)
      rw [ao (Nat.ne_of_lt (Heap.lt_size ho))]
      exact I.eI x c (ag x c e)
    · show (lg ts.length js σ).length=(ts++fr).length
      unfold lg
      rw [List.length_append,List.length_replicate,List.length_map,List.length_append,hfr.len]
  have fpB:∀ {H':Hp},(∀ b ∈ fp,H' b=none)->∀ b ∈ fp,gQ Xb [] H' b:=fun {H'} hn b hb=>by
    subst hXb
    obtain⟨h1,h2,h3,h4,h5,h6⟩:=hfp b hb
    refine⟨hn b hb,(below b (hlt b hb)).1,fun z=>?_,.inl hb,fun x c e=>h5 x c (ag x c e),fun p hp=>absurd (show p ∈ ([]:List (Addr × Obj)) from hp) (by simp)⟩
    rcases List.mem_cons.mp (I.mq b z) with z | z
    · exact h2 z
    · exact h3 z
  have fin:∀ {τ : St} {H':Hp} {s':Shared},Inv Xb [] τ H' s'->Q (.ref s.heap.objs.size) H'->RR (.ref s.heap.objs.size) G2.objs.size (.ok .next) s':=fun {τ H' s'} Jb q=>by
    subst hXb
    obtain⟨m,hn,_⟩:=Jb.loc
    refine hRR _ _ H' s' m (I.BE (ch:=fp) Jb.os Jb.base Jb.aJ Jb.bare fun b hb=>?_) hn Jb.free hCle q
    obtain⟨h1,h2,h3,h4,h5,h6⟩:=hfp b hb
    exact⟨h4,h2,h5,h6⟩
  have loop:∀ tk,codeAny (model X.prog X.w) X.A (.compLoop (.ListComp elt [⟨tg,iter,ifs,0⟩] scope pos) 0 (.ref it) (.ref s.heap.objs.size) (compEnvC scope (iF X.env.cells scope.names []) G2.objs.size X.env))
        (RR (.ref s.heap.objs.size) G2.objs.size) { s with heap:=h₁,toks:=tk }:=by
    intro tk
    refine jE (fun n s'=>∃ i ys τ H',Inv Xb [] τ H' s'/\tn i s'.heap/\(∀ b ∈ fp,H' b=none)/\W i n ys τ H') ?_ m0 ⟨0,[],_,_,Ib tk,T.keep _ _ _ st fun b hb o e=>old b o e,fun b hb=>?_,w0⟩
    · rintro n s3 ⟨i,ys,τ,H3,I3,st3,fr3,w3⟩
      have htg':=htg G2.objs.size fp s H
      have hct':=hct G2.objs.size fp s H
      have hte':=hte G2.objs.size fp s H
      rw [hXb] at htg' hct' hte'
      have eP:Xb.prog=X.prog:=by subst hXb;rfl
      have ew:Xb.w=X.w:=by subst hXb;rfl
      have eK:Xb.K=X.K:=by subst hXb;rfl
      have eA:Xb.A=X.A:=by subst hXb;rfl
      have ec:Xb.calm=true:=by subst hXb;exact hc
      have ee:Xb.env=compEnvC scope (iF X.env.cells scope.names []) G2.objs.size X.env:=by subst hXb;rfl
      have ex:Xb.xe=fun _ _=>False:=by subst hXb;rfl
      rw [<-eP,<-ew,<-eA,<-ee]
      obtain⟨ha,hl,turn'⟩:=turn i n ys τ H3 w3
      rcases turn' with ⟨stop,q⟩ | ⟨go,N,hN,step⟩
      · have hd:=T.done Xb eP ew eK ec i [] s3 τ H3 (fun _ _=>False) I3 (fpB fr3) st3 stop
        rw [<-eP,<-ew] at hd
        refine wpAny_mono hd (fun r s4 hr4=>?_) fun _ _ z=>z
        obtain⟨hr,I4⟩:=hr4
        subst hr
        exact fin I4 q
      · have hd:=T.item Xb eP ew eK ec i [] s3 τ H3 (fun _ _=>False) I3 (fpB fr3) st3 go
        rw [<-eP,<-ew] at hd
        refine wpAny_mono hd (fun r s4 hr4=>?_) fun _ _ z=>z
        obtain⟨u,hr,h4⟩:=hr4
        subst hr
        refine wpAny_mono h4 (fun _ s5 ⟨x,H5,I5,r5,y5,st5,fr5⟩=>?_) fun _ _ z=>z
        have I5':=I5.pinned (fpB fr5) (T.obj _ _ st5)
        have keepT:∀ {σ7:St} {H7:Hp} {s7:Shared},Inv Xb ([] ++ jK fp s5.heap) σ7 H7 s7->tn (i+1) s7.heap/\∀ b ∈ fp,H7 b=none:=fun {σ7 H7 s7} I7=>by
          refine⟨T.keep _ _ _ st5 fun b hb o e=>(I7.pin (b,o) (List.mem_append_right _ (List.mem_append_right _ (gB hb e)))).1,fun b hb=>?_⟩
          obtain⟨o,e,d⟩:=T.obj _ _ st5 b hb
          exact (I7.pin (b,o) (List.mem_append_right _ (List.mem_append_right _ (gB hb e)))).2.1
        refine wpAny_mono (htg' _ s5 τ H5 x u _ I5' r5 (step x H5 y5)) (fun _ s6 ⟨τ6,H6,I6,q6⟩=>?_) (fun _ _ z=>by rw [ex] at z;exact z)
        refine wpAny_mono (hct' _ s6 τ6 H6 _ I6 q6) (fun ok s7 ⟨H7,I7,q7⟩=>?_) (fun _ _ z=>by rw [ex] at z;exact z)
        cases ok with
        | false =>
          have q7':N ys τ6 H7:=by rw [if_neg (by simp)] at q7;exact q7
          rw [if_neg (by simp)]
          obtain⟨m',hm,w7⟩:=hN _ _ _ q7'
          exact⟨m',hm,i+1,ys,τ6,H7,I7.gR,(keepT I7).1,(keepT I7).2,w7⟩
        | true =>
          rw [if_pos rfl] at q7 ⊢
          refine wpAny_mono (hte' _ s7 τ6 H7 _ I7 q7) (fun v s8 ⟨y,H8,I8,r8,ha8,n8⟩=>?_) (fun _ _ z=>by rw [ex] at z;exact z)
          refine wpAny_mono (dJ (X:=Xb) _ s8 τ6 H8 (.ref s.heap.objs.size) [y] (.ref s.heap.objs.size) [v] (fun _ H9=>H9=upd H8 s.heap.objs.size (.lst (ys ++ [y]))) I8 rfl (.cons r8 .nil) ⟨_,ys,y,rfl,rfl,ha8,hl,rfl⟩) (fun _ s9 ⟨_,H9,I9,_,e9⟩=>?_) (fun _ _ z=>by rw [ex] at z;exact z)
          subst e9
          obtain⟨m',hm,w8⟩:=hN _ _ _ n8
          exact⟨m',hm,i+1,_,τ6,_,I9.gR,(keepT I9).1,(keepT I9).2,w8⟩
    · rw [ao (Nat.ne_of_lt (hlt b hb))]
      exact (hfp b hb).1
  exact codeAny_compStart_list (loop _) (T.self _ 0 _ _ _ (T.keep _ _ _ st fun b hb o e=>old b o e) (loop _))
theorem Inv.vZ {pins:List (Addr × Obj)} {σ : St} {H H':Hp} {s s':Shared} {C:Addr} {h':Heap} (I:Inv X pins σ H s) {σ':St} (I':Inv X pins σ' H' s') (hC:H' C=none) (hle:s.heap.objs.size<=C) (hsb:Heap.SameBut C s'.heap h') :
  Inv X pins σ' H' { s' with heap:=h' }:=by
 obtain⟨h1,h2,h3,h4,h5,h6⟩:=I.nG (H':=H') hle hC
 exact I'.turned (t':=s'.toks) (fun b o hb e=>hsb.extBut b o hb e) hC h2 h4 h5 h6
theorem cE {tg elt iter:Expr} {ifs:List Expr} {scope:Scope} {wi:TI} {g:TG} {ct:TT} {te:TE} (ts fr:List Str) (js:List Nat)
  (hc:X.calm=true) (hi:PI X tg iter wi) (hkind:scope.kind=.function) (hcell:∀ y ∈ scope.names,y.2 ≠ .cell) (hnames:∀ y ∈ scope.names,y.2=.local->scope.names.lookup y.1=some .local)
  (hfree0:∀ y ∈ scope.names,y.2=.free->y.1 ∈ fr) (hfr:fH X scope fr js)
  (htg:∀ C fp s₁ H₁,PG (fg X scope C (ts++fr) fp s₁ H₁) tg g) (hct:∀ C fp s₁ H₁,vY (fg X scope C (ts++fr) fp s₁ H₁) ifs ct) (hte:∀ C fp s₁ H₁,PE (fg X scope C (ts++fr) fp s₁ H₁) elt te)
  (hs:∀ x,foldedSetIterable iter X.env x=pure x:=by intro _;rfl):PE X (.ListComp elt [⟨tg,iter,ifs,0⟩] scope pos) (Cm ts.length js wi g ct te):=by
 have hfree:∀ y ∈ scope.names,y.2=.free->X.env.kindOf y.1=some .cell\/X.env.kindOf y.1=some .free:=fun y hy e=>hfr.mem (hfree0 y hy e)
 intro pins s σ H Q I h
 rw [eval_ListComp]
 refine wpAny_comprehension_free (use:=none) rfl hs (mE fun y hy e=>I.ok.has y.1 (hfree y hy e)) hkind hnames (aT (hi pins s σ H _ I h) fun xv s1 h1=>aT h1 fun itv s2 h2=>?_)
 obtain⟨it,fp,tn,J,H2,e,I2,T,st2,f2,hW⟩:=h2
 subst e
 refine sZ (RR:=fun acc C=>compPost (model X.prog X.w) X.A X.xe none (EP X pins σ Q) acc C) hc hkind hcell hfree hfr htg hct hte I2 T st2 f2 hW ?_
 intro acc C H' s' m I' hn hC hle q
 exact⟨m,hn,fun h' hsb=>⟨.ref acc,H',I2.vZ I' hC hle hsb,rfl,q⟩⟩
theorem iV {tg elt iter:Expr} {ifs:List Expr} {scope:Scope} {wi:TI} {g:TG} {ct:TT} {te:TE} {i:Nat} {y:Str} {py spos:Pos} (ts fr:List Str) (js:List Nat)
  (hsw:swapsWith (.ListComp elt [⟨tg,iter,ifs,0⟩] scope pos) (some (.Name y py)) spos.line X.env=pure true) (hN:X.N.Nodup) (hi0:X.N[i]? = some y) (hx:X.env.scope.names.lookup y=some .local)
  (hc:X.calm=true) (hi:PI X tg iter wi) (hkind:scope.kind=.function) (hcell:∀ y ∈ scope.names,y.2 ≠ .cell) (hnames:∀ y ∈ scope.names,y.2=.local->scope.names.lookup y.1=some .local)
  (hfree0:∀ y ∈ scope.names,y.2=.free->y.1 ∈ fr) (hfr:fH X scope fr js)
  (htg:∀ C fp s₁ H₁,PG (fg X scope C (ts++fr) fp s₁ H₁) tg g) (hct:∀ C fp s₁ H₁,vY (fg X scope C (ts++fr) fp s₁ H₁) ifs ct) (hte:∀ C fp s₁ H₁,PE (fg X scope C (ts++fr) fp s₁ H₁) elt te)
  (hs:∀ x,foldedSetIterable iter X.env x=pure x:=by intro _;rfl):PS X (.Assign [.Name y py] (.ListComp elt [⟨tg,iter,ifs,0⟩] scope pos) spos) (ug (Cm ts.length js wi g ct te) (kB i)):=by
 have hfree:∀ y ∈ scope.names,y.2=.free->X.env.kindOf y.1=some .cell\/X.env.kindOf y.1=some .free:=fun y hy e=>hfr.mem (hfree0 y hy e)
 intro pins s σ H D I h
 rw [exec_Assign_Name_used _ _ _ _ hsw]
 refine wpAny_bind (wpAny_standAt (wpAny_bind ?_))
 show wpAny _ X.A (do let _ <-comprehension (.ListComp elt [⟨tg,iter,ifs,0⟩] scope pos) scope X.env _ (newList []) false (eval iter X.env) (some (assign (.Name y py) X.env))) _ _ s
 refine wpAny_bind (wpAny_mono (wpAny_comprehension_free (use:=some (assign (.Name y py) X.env)) (Q:=fun _ s'=>SP X pins D .next s') rfl hs (mE fun y hy e=>I.ok.has y.1 (hfree y hy e)) hkind hnames
  (aT (hi pins s σ H _ I h) fun xv s1 h1=>aT h1 fun itv s2 h2=>?_)) (fun _ s' hq=>wpAny_pure (wpAny_pure hq)) fun _ _ e=>e)
 obtain⟨it,fp,tn,J,H2,e,I2,T,st2,f2,hW⟩:=h2
 subst e
 refine sZ (Q:=fun v H'=>D.nx (σ.set i (some v)) H') (RR:=fun acc C=>compPost (model X.prog X.w) X.A X.xe (some (assign (.Name y py) X.env)) (fun _ s'=>SP X pins D .next s') acc C) hc hkind hcell hfree hfr htg hct hte I2 T st2 f2 hW ?_
 intro acc C H' s' m I' hn hC hle q
 show wpAny _ X.A (assign (.Name y py) X.env (.ref acc)) _ _ _
 refine wpAny_assign_Name (oy I' hN hi0 (.inl hx) (v:=.ref acc) rfl (fun s'' I'' hch=>?_) (.inr hx))
 obtain⟨h1,h2,h3,h4,h5,h6⟩:=I2.nG (H':=H') hle hC
 obtain⟨a,hsb,ha⟩:=hch
 refine⟨m,hn.sameBut hsb ?_,fun h' hsb'=>⟨_,H',I2.vZ I'' hC hle hsb',q⟩⟩
 rcases ha with ha | ha
 ·rw [ha];exact h2
 ·exact fun z=>h5 y a ha z.symm
end
theorem iG {K:PySem.W.Frag} {a acc:Addr} {xs:List V} {n:Nat} {js:List Nat} {g:TG} {ct:TT} {te:TE} {σ : St} {H1:Hp} {Q:VK} (Pv:Nat->List V->St->Hp->Prop) (h0:Pv 0 [] (lg n js σ) (upd H1 acc (.lst [])))
  (hl:∀ i ys τ H,i<=xs.length->Pv i ys τ H->aI K H a xs/\H acc=some (.lst ys)/\ys.length < sizeLine)
  (hs:∀ i x ys τ H,xs[i]? = some x->Pv i ys τ H->g x τ H fun τ1 H4=>ct τ1 H4 fun b H5=>if b=true then te τ1 H5 fun y H6=>H6 acc=some (.lst ys)/\Pv (i+1) (ys ++ [y]) τ1 (upd H6 acc (.lst (ys ++ [y]))) else Pv (i+1) ys τ1 H5)
  (hd:∀ ys τ H,Pv xs.length ys τ H->Q (.ref acc) H) :
  sY (sI K a) n js g ct te acc σ H1 Q:=by
 refine⟨fun i m ys τ H=>m=xs.length - i/\i<=xs.length/\Pv i ys τ H,⟨xs.length,by simp,Nat.zero_le _,h0⟩,?_⟩
 rintro i m ys τ H ⟨rfl,hi,p⟩
 obtain⟨q,q2,q3⟩:=hl i ys τ H hi p
 refine⟨q2,q3,?_⟩
 by_cases hlt:i < xs.length
 ·refine .inr ⟨⟨xs,xs[i],q,by simp [hlt]⟩,Pv (i+1),fun ys' τ' H' p'=>⟨xs.length - (i+1),by omega,rfl,hlt,p'⟩,fun x H' y=>?_⟩
  obtain⟨e,y⟩:=y
  subst e
  exact hs i x ys τ _ (y xs q) p
 ·have e:i=xs.length:=by omega
  subst e
  exact .inl ⟨⟨xs,q,Nat.le_refl _⟩,hd ys τ H p⟩
theorem iH {K:PySem.W.Frag} {a acc:Addr} {xs:List V} {n:Nat} {js:List Nat} {g:TG} {ct:TT} {te:TE} {σ : St} {H1:Hp} {Q:VK} (Pv:Nat->List V->St->Hp->Prop) (h0:Pv 0 [] (lg n js σ) (upd H1 acc (.lst [])))
  (hl:∀ i ys τ H,i<=xs.length->Pv i ys τ H->av K H a xs/\H acc=some (.lst ys)/\ys.length < sizeLine)
  (hs:∀ i x ys τ H,xs[i]? = some x->Pv i ys τ H->g x τ H fun τ1 H4=>ct τ1 H4 fun b H5=>if b=true then te τ1 H5 fun y H6=>H6 acc=some (.lst ys)/\Pv (i+1) (ys ++ [y]) τ1 (upd H6 acc (.lst (ys ++ [y]))) else Pv (i+1) ys τ1 H5)
  (hd:∀ ys τ H,Pv xs.length ys τ H->Q (.ref acc) H) :
  sY (sJ K a) n js g ct te acc σ H1 Q:=by
 refine⟨fun i m ys τ H=>m=xs.length - i/\i<=xs.length/\Pv i ys τ H,⟨xs.length,by simp,Nat.zero_le _,h0⟩,?_⟩
 rintro i m ys τ H ⟨rfl,hi,p⟩
 obtain⟨q,q2,q3⟩:=hl i ys τ H hi p
 refine⟨q2,q3,?_⟩
 by_cases hlt:i < xs.length
 ·refine .inr ⟨⟨xs,xs[i],q,by simp [hlt]⟩,Pv (i+1),fun ys' τ' H' p'=>⟨xs.length - (i+1),by omega,rfl,hlt,p'⟩,fun x H' y=>?_⟩
  obtain⟨e,y⟩:=y
  subst e
  exact hs i x ys τ _ (y xs q) p
 ·have e:i=xs.length:=by omega
  subst e
  exact .inl ⟨⟨xs,q,Nat.le_refl _⟩,hd ys τ H p⟩
theorem iW {lo:Int} {k:Nat} {acc:Addr} {n:Nat} {js:List Nat} {g:TG} {ct:TT} {te:TE} {σ : St} {H1:Hp} {Q:VK} (Pv:Nat->List V->St->Hp->Prop) (h0:Pv 0 [] (lg n js σ) (upd H1 acc (.lst [])))
  (hl:∀ i ys τ H,i<=k->Pv i ys τ H->H acc=some (.lst ys)/\ys.length < sizeLine)
  (hs:∀ i ys τ H,i < k->Pv i ys τ H->g (.int (lo+i)) τ H fun τ1 H4=>ct τ1 H4 fun b H5=>if b=true then te τ1 H5 fun y H6=>H6 acc=some (.lst ys)/\Pv (i+1) (ys ++ [y]) τ1 (upd H6 acc (.lst (ys ++ [y]))) else Pv (i+1) ys τ1 H5)
  (hd:∀ ys τ H,Pv k ys τ H->Q (.ref acc) H) :
  sY (qq lo k) n js g ct te acc σ H1 Q:=by
 refine⟨fun i m ys τ H=>m=k - i/\i<=k/\Pv i ys τ H,⟨k,by simp,Nat.zero_le _,h0⟩,?_⟩
 rintro i m ys τ H ⟨rfl,hi,p⟩
 obtain⟨q2,q3⟩:=hl i ys τ H hi p
 refine⟨q2,q3,?_⟩
 by_cases hlt:i < k
 ·refine .inr ⟨hlt,Pv (i+1),fun ys' τ' H' p'=>⟨k - (i+1),by omega,rfl,hlt,p'⟩,fun x H' y=>?_⟩
  obtain⟨e,y⟩:=y
  subst e y
  exact hs i ys τ _ hlt p
 ·have e:i=k:=by omega
  subst e
  exact .inl ⟨Nat.le_refl _,hd ys τ H p⟩
section
variable {X:Cx}
end
def CY (t:TS):TS:=fun D σ H=>∃ M:St->Hp->Prop,t { D with nx:=M } σ H/\∀ σ' H',M σ' H'->D.nx σ' H'
theorem qv {X:Cx} {st:Stmt} {t:TS} (h:PS X st t):PS X st (CY t):=by
 intro pins s σ H D I q
 obtain⟨M,q,hM⟩:=q
 refine aT (h pins s σ H _ I q) fun f s' hs=>?_
 cases f with
 | next =>
  obtain⟨σ',H',I',m⟩:=hs
  exact⟨σ',H',I',hM _ _ m⟩
 | brk=>exact hs
 | cont=>exact hs
 | ret u=>exact hs
theorem fY {m:Int} (h0:0 < m) (h1:m < 1073741824):m.natAbs.log2 < 9000:=by
 have h:m.natAbs.log2 < 30:=(Nat.log2_lt (by omega)).mpr (by omega)
 omega
theorem tj {X:Cx} {K:PySem.W.Frag} {es:List Expr} {k:Nat} {t:qp} {n:Nat} {pos:Pos} (hK:X.K=K) (h:PG X (.Tuple es k pos) (xu X.K n t)):PG X (.Tuple es k pos) (xu K n t):=by
 subst hK
 exact h
mutual
inductive aP (H:Hp):V->PyData->Prop
 | bg:aP H .bg .none
 | bl (b:Bool):aP H (.bl b) (.bool b)
 | int (i:Int):aP H (.int i) (.int i)
 | str (x:Str):aP H (.str x) (.str x)
 | lst {p:Addr} {xs:List V} {ds:List PyData}:H p=some (.lst xs)->aU H xs ds->aP H (.ref p) (.list ds)
 | tup {p:Addr} {xs:List V} {ds:List PyData}:H p=some (.tup xs)->aU H xs ds->aP H (.ref p) (.tuple ds)
inductive aU (H:Hp):List V->List PyData->Prop
 | nil:aU H [] []
 | cons {x:V} {xs:List V} {d:PyData} {ds:List PyData}:aP H x d->aU H xs ds->aU H (x :: xs) (d :: ds)
end
section
variable {P:Program} {w:World} {H:Hp} {h:Heap}
mutual
theorem aP.reads (ok:cR P w H h):∀ {x:V} {d:PyData} {v:Value},aP H x d->RelV x v->∃ as,Reads h v d as
 | _,_,v,.bg,r=>by
  cases (show v=Value.none from r)
  exact⟨_,.none⟩
 | _,_,v,.bl b,r=>by
  cases (show v=Value.bool b from r)
  exact⟨_,.bool b⟩
 | _,_,v,.int i,r=>by
  obtain⟨t,e⟩:=(show ∃ t,v=Value.int i t from r)
  cases e
  exact⟨_,.int i t⟩
 | _,_,v,.str x,r=>by
  obtain⟨t,e⟩:=(show ∃ t,v=Value.str x t from r)
  cases e
  exact⟨_,.str x t⟩
 | _,_,v,.lst (p:=p) (xs:=xs) e ds,r=>by
  cases (show v=Value.ref p from r)
  obtain⟨_,its,n,rv,h1⟩:=(show bC P w H h p (.lst xs) from ok p _ e)
  obtain⟨as,ra⟩:=aU.reads ok ds rv
  exact⟨_,.list (vs:=its.toArray) h1 rfl rfl (by simpa using ra)⟩
 | _,_,v,.tup (p:=p) (xs:=xs) e ds,r=>by
  cases (show v=Value.ref p from r)
  obtain⟨_,its,rv,o,h1,h2,n,h3⟩:=(show bC P w H h p (.tup xs) from ok p _ e)
  obtain⟨as,ra⟩:=aU.reads ok ds rv
  exact⟨_,.tuple (vs:=its.toArray) h1 h2 h3.1 (by simpa using ra)⟩
theorem aU.reads (ok:cR P w H h):∀ {xs:List V} {ds:List PyData} {vs:List Value},aU H xs ds->Vals xs vs->∃ as,ReadsAll h vs ds as
 | _,_,_,.nil,.nil=>⟨_,.nil⟩
 | _,_,_,.cons r rs,.cons q qs=>by
  obtain⟨as,ra⟩:=aP.reads ok r q
  obtain⟨bs,rb⟩:=aU.reads ok rs qs
  exact⟨_,.cons ra rb⟩
end
end
section
variable {X:Cx}
inductive CZ (neg:Bool) (x:V) (y:V) (H:Hp) (Q:VK):Prop
 | mk (dx dy:_) (_:aP H x dx) (_:aP H y dy) (_:dx.canLay0=true) (_:dy.canLay0=true) (_:min dx.depth dy.depth<=60) (_:Q (.bl (if neg then !PyData.eqv dx dy else PyData.eqv dx dy)) H)
theorem iI (hu:X.A.units+64 < cLine):cY X (compareOp .NotEq) (CZ true):=by
 intro pins s σ H x y v u Q I rx ry h
 obtain⟨dx,dy,r1,r2,c1,c2,hd,q⟩:=h
 obtain⟨as,ra⟩:=r1.reads I.aJ rx
 obtain⟨bs,rb⟩:=r2.reads I.aJ ry
 exact PySem.SeqAt.neOverData X.prog X.w X.A X.xe s v u dx dy as bs _ ra rb c1 c2 (by omega) ⟨.bl _,H,I,rfl,q⟩
end
def one (c:Nat):Str:=⟨#[c]⟩
theorem qw (rest:List Str):∀ a:Array Nat,(rest.foldl (fun acc p=>acc++Str.empty.cps++p.cps) a).toList=a.toList++rest.flatMap (·.cps.toList):=by
 induction rest with
 | nil=>intro a;simp
 | cons x r ih =>
  intro a
  rw [List.foldl_cons,ih]
  have e:Str.empty.cps = #[]:=rfl
  simp [e]
theorem join_ones (cs:List Nat):(Txt.join Str.empty (cs.map one)).cps.toList=cs:=by
 cases cs with
 | nil=>rfl
 | cons c r =>
  show (List.foldl (fun acc p=>acc++Str.empty.cps++p.cps) (#[c]:Array Nat) (r.map one)).toList=c :: r
  rw [qw]
  simp only [List.flatMap_map,one]
  simp
theorem xR:Str.ofString "" = Str.empty:=by decide +kernel
theorem uE {ys:List Str}:∀ {us:List Value},Vals (ys.map V.str) us->StrsAre us ys:=by
 induction ys with
 | nil=>intro us r;cases r;exact .nil
 | cons y ys ih =>
  intro us r
  cases r with
  | cons h t =>
   obtain⟨k,e⟩:=h
   subst e
   exact .cons y k (ih t)
section
variable {X:Cx}
inductive rJoin (K:PySem.W.Frag) (x:V) (vs:List V) (H:Hp) (Q:VK):Prop
 | mk (z:Str) (p:Addr) (ys:List Str) (_:x=.str z) (_:vs = [.ref p]) (_:aI K H p (ys.map V.str)) (_:(ys.map (·.length)).sum+ys.length * z.length<=16777216) (_:Q (.str (Txt.join z ys)) H)
theorem tm:AU X "str.join" (rJoin X.K):=by
 intro pins s σ H x vs v us Q I rx rv h
 obtain⟨z,p,ys,rfl,rfl,hS,hz,q⟩:=h
 obtain⟨t,e⟩:=(show ∃ t,v=Value.str z t from rx)
 subst e
 obtain⟨u,rfl,ru⟩:=vals1 rv
 cases (show u=Value.ref p from ru)
 obtain⟨its,rv',pl,_⟩:=I.list hS
 exact join_list pl.isList (by simpa using uE rv') hz fun t' k=>⟨.str _,H,I.tok k,⟨_,rfl⟩,q⟩
end
inductive cG where
 | put (x:Str) (n:Int)
 | copy (x y:Str)
 | add (x:Str) (n:Int)
 | read (x:Str)
 | tell (x:Str)
inductive End where
 | stop
 | go (p:Nat)
 | cH (less:Bool) (x:Str) (n:Int) (p q:Nat)
abbrev Piece:=List cG × End
def wT (b:Bool):Str:=if b=true then "less" else "is"
def ef:cG->PyData
 | .put x n=>.tuple [.str "put",.str x,.int n]
 | .copy x y=>.tuple [.str "copy",.str x,.str y]
 | .add x n=>.tuple [.str "add",.str x,.int n]
 | .read x=>.tuple [.str "read",.str x]
 | .tell x=>.tuple [.str "tell",.str x]
def nN:End->PyData
 | .stop=>.tuple [.str "stop"]
 | .go p=>.tuple [.str "go",.int p]
 | .cH b x n p q=>.tuple [.str (wT b),.str x,.int n,.int p,.int q]
def dQ (p:Piece):PyData:=.tuple [.tuple (p.1.map ef),nN p.2]
def eM (ps:List Piece):PyData:=.tuple (ps.map dQ)
structure hG (x:Str):Prop where
 lo:1<=x.length
 hi:x.length<=8
 az:∀ c ∈ x.cps.toList,97<=c/\c<=122
def iX (n:Int):Prop:=-(10 ^ 40) < n/\n < 10 ^ 40
def eF (xs:List Str):cG->Prop
 | .put x n=>x ∈ xs/\iX n
 | .copy x y=>x ∈ xs/\y ∈ xs
 | .add x n=>x ∈ xs/\iX n
 | .read x=>x ∈ xs
 | .tell x=>x ∈ xs
def iY (xs:List Str) (count:Nat):End->Prop
 | .stop=>True
 | .go p=>p < count
 | .cH _ x n p q=>x ∈ xs/\iX n/\p < count/\q < count
structure bY (xs:List Str) (most:Nat) (ps:List Piece):Prop where
 gG:∀ p ∈ ps,p.1.length<=most/\∀ d ∈ p.1,eF xs d
 ends:∀ p ∈ ps,iY xs ps.length p.2
mutual
def bR:PyData->Bool
 | .list _=>false
 | .tuple xs=>bV xs
 | _=>true
def bV:List PyData->Bool
 | []=>true
 | x :: xs=>bR x && bV xs
end
mutual
theorem aP.aW {H H':Hp} (k:∀ p xs,H p=some (.tup xs)->H' p=some (.tup xs)):∀ {x:V} {d:PyData},aP H x d->bR d=true->aP H' x d
 | _,_,.bg,_=>.bg
 | _,_,.bl b,_=>.bl b
 | _,_,.int i,_=>.int i
 | _,_,.str x,_=>.str x
 | _,_,.lst _ _,h=>nomatch h
 | _,_,.tup e ds,h=>.tup (k _ _ e) (aU.aW k ds h)
theorem aU.aW {H H':Hp} (k:∀ p xs,H p=some (.tup xs)->H' p=some (.tup xs)):∀ {xs:List V} {ds:List PyData},aU H xs ds->bV ds=true->aU H' xs ds
 | _,_,.nil,_=>.nil
 | _,_,.cons r rs,h=>by
  simp only [bV,Bool.and_eq_true] at h
  exact .cons (aP.aW k r h.1) (aU.aW k rs h.2)
end
theorem aP.fix {b:Addr} {H H':Hp} {x:V} {d:PyData} (r:aP H x d) (hb:cT H b) (f:Fix b H H') (n:bR d=true):aP H' x d :=
 r.aW (fun p xs e=>f p _ e (hb.vX e)) n
theorem aP.same {H H':Hp} {x:V} {d:PyData} (r:aP H x d) (f:ae H H') (n:bR d=true):aP H' x d :=
 r.aW (fun p xs e=>f p _ e) n
theorem aU.fix {b:Addr} {H H':Hp} {xs:List V} {ds:List PyData} (r:aU H xs ds) (hb:cT H b) (f:Fix b H H') (n:bV ds=true):aU H' xs ds :=
 r.aW (fun p xs e=>f p _ e (hb.vX e)) n
theorem aU.same {H H':Hp} {xs:List V} {ds:List PyData} (r:aU H xs ds) (f:ae H H') (n:bV ds=true):aU H' xs ds :=
 r.aW (fun p xs e=>f p _ e) n
theorem aU.put {H:Hp} {xs ys:List V} {ds:List PyData} {l:Addr} {o:HO} (r:aU H xs ds) (hl:H l=some (.lst ys)) (n:bV ds=true):aU (upd H l o) xs ds :=
 r.aW (fun p zs e=>by rw [ao (bH e hl (by intro z;cases z))];exact e) n
theorem aU.app {H:Hp} {x:V} {d:PyData}:∀ {xs:List V} {ds:List PyData},aU H xs ds->aP H x d->aU H (xs ++ [x]) (ds ++ [d])
 | _,_,.nil,q=>.cons q .nil
 | _,_,.cons r rs,q=>.cons r (aU.app rs q)
theorem aU.len {H:Hp}:∀ {xs:List V} {ds:List PyData},aU H xs ds->xs.length=ds.length
 | _,_,.nil=>rfl
 | _,_,.cons _ rs=>by simp [aU.len rs]
theorem lh (d:cG):bR (ef d)=true:=by cases d <;> rfl
theorem iZ (e:End):bR (nN e)=true:=by cases e <;> rfl
theorem cN:∀ ds:List cG,bV (ds.map ef)=true
 | []=>rfl
 | d :: ds=>by show (bR (ef d) && bV (ds.map ef))=true;rw [lh,cN ds];rfl
theorem hJ (p:Piece):bR (dQ p)=true:=by
 show (bV (p.1.map ef) && (bR (nN p.2) && true))=true
 rw [cN,iZ];rfl
theorem bW:∀ ps:List Piece,bV (ps.map dQ)=true
 | []=>rfl
 | p :: ps=>by show (bR (dQ p) && bV (ps.map dQ))=true;rw [hJ,bW ps];rfl
theorem dz (ps:List Piece):bR (eM ps)=true:=bW ps
structure eh (H:Hp) (b l:Addr) (xs:List Str):Prop where
 at_:H l=some (.lst (xs.map V.str))
 ne:l ≠ b
 uF:xs ≠ []
 b0:xs.length<=1000
 ok:∀ x ∈ xs,hG x
theorem eh.fix {H H':Hp} {b l:Addr} {xs:List Str} (h:eh H b l xs) (f:Fix b H H'):eh H' b l xs:=⟨f l _ h.at_ h.ne,h.ne,h.uF,h.b0,h.ok⟩
theorem eh.pos {H:Hp} {b l:Addr} {xs:List Str} (h:eh H b l xs):0 < ((xs.map V.str).length:Int)/\((xs.map V.str).length:Int) < 1073741824:=by
 have h1:=h.uF
 have h2:=h.b0
 have h3:0 < xs.length:=by cases xs with | nil=>exact absurd rfl h1 | cons _ _=>simp
 rw [List.length_map]
 omega
inductive tq  (vs:List V) (H:Hp) (Q:VK) (_:XK):Prop
 | mk (b:Addr) (_:vs = [.ref b]) (_:cT H b) (_:∀ l xs H',eh H' b l xs->xs.length<=4->cT H' b->Fix b H H'->Q (.ref l) H')
inductive lR  (vs:List V) (H:Hp) (Q:VK) (_:XK):Prop
 | mk (b:Addr) (_:vs = [.ref b]) (_:cT H b) (_:∀ n H',iX n->cT H' b->Fix b H H'->Q (.int n) H')
inductive v3  (vs:List V) (H:Hp) (Q:VK) (_:XK):Prop
 | mk (b l:Addr) (xs:List Str) (_:vs = [.ref b,.ref l]) (_:cT H b) (_:eh H b l xs) (_:∀ v d H',aP H' v (ef d)->eF xs d->cT H' b->Fix b H H'->Q v H')
inductive v5  (vs:List V) (H:Hp) (Q:VK) (_:XK):Prop
 | mk (b l:Addr) (xs:List Str) (c:Nat) (_:vs = [.ref b,.ref l,.int c]) (_:cT H b) (_:eh H b l xs) (_:0 < c) (_:c < 1073741824) (_:∀ v e H',aP H' v (nN e)->iY xs c e->cT H' b->Fix b H H'->Q v H')
inductive v7  (vs:List V) (H:Hp) (Q:VK) (_:XK):Prop
 | mk (b:Addr) (c m:Nat) (_:vs = [.ref b,.int c,.int m]) (_:cT H b) (_:0 < c) (_:c<=1000) (_:m<=1000) (_:∀ v xs ps H',aP H' v (eM ps)->ps.length=c->bY xs m ps->((∀ x ∈ xs,hG x)/\xs.length<=4)->cT H' b->Fix b H H'->Q v H')
inductive tu  (vs:List V) (H:Hp) (Q:VK) (_:XK):Prop
 | mk (b:Addr) (m:Nat) (_:vs = [.ref b,.int m]) (_:cT H b) (_:0 < m) (_:m<=1000) (_:∀ (n:Nat) H',0 < n->n<=max m 4->cT H' b->Fix b H H'->Q (.int n) H')
def mF:Str := "abcdefghijklmnopqrstuvwxyz"
theorem qx:mF.cps.toList=(List.range 26).map (· + 97):=by decide +kernel
theorem tw:mF.length<=sizeLine:=by decide +kernel
theorem v8 {r:Int} (h0:0<=r) (h1:r < 26):∃ c,fE mF.cps.toList r=some c/\97<=c/\c<=122:=by
 have hl:mF.cps.toList.length=26:=by rw [qx];simp
 obtain⟨c,hc,hm⟩:=uD (xs:=mF.cps.toList) h0 (by rw [hl];exact h1)
 refine⟨c,hc,?_⟩
 rw [qx] at hm
 obtain⟨k,hk,rfl⟩:=List.mem_map.mp hm
 have:=List.mem_range.mp hk
 omega
theorem lS {xs:List Str} {r:Int} (h0:0<=r) (h1:r < ((xs.map V.str).length:Int)):∃ x,fE (xs.map V.str) r=some (V.str x)/\x ∈ xs:=by
 obtain⟨v,hv,hm⟩:=uD h0 h1
 obtain⟨x,hx,rfl⟩:=List.mem_map.mp hm
 exact⟨x,hv,hx⟩
theorem jR {σ : L2.St} {H:Hp} {Q:Bool->Hp->Prop} (h:Q true H):Bb σ H Q:=h
theorem bF {i:Nat} {v:V} {σ : L2.St} {H:Hp} {Q:L2.St->Hp->Prop} (h:Q (σ.set i (some v)) H):kB i v σ H Q:=h
section
variable {κ : Type} [DecidableEq κ]
def cn (kvs:List (κ × V)) (k:κ):Option V:=(kvs.find? fun kv=>decide (kv.1=k)).map (·.2)
def putK (kvs:List (κ × V)) (k:κ) (v:V):List (κ × V) :=
 if (kvs.any fun kv=>decide (kv.1=k))=true then kvs.map (fun kv=>if kv.1=k then (kv.1,v) else kv) else kvs ++ [(k,v)]
theorem cO {p:κ × V} {r:List (κ × V)} {k:κ} (e:p.1=k):cn (p :: r) k=some p.2:=by simp [cn,List.find?_cons,e]
theorem cP {p:κ × V} {r:List (κ × V)} {k:κ} (e:¬ p.1=k):cn (p :: r) k=cn r k:=by simp [cn,List.find?_cons,e]
theorem i0 (k:κ):∀ kvs:List (κ × V),(kvs.any fun kv=>decide (kv.1=k))=(cn kvs k).isSome
 | []=>rfl
 | p :: r=>by
  rw [List.any_cons]
  by_cases e:p.1=k
  ·simp only [cO e,decide_eq_true e,Bool.true_or,Option.isSome_some]
  ·rw [cP e,decide_eq_false e,Bool.false_or];exact i0 k r
theorem qy (k j:κ) (y:V):∀ kvs:List (κ × V),cn (kvs.map fun kv=>if kv.1=k then (kv.1,y) else kv) j=(cn kvs j).map fun x=>if j=k then y else x
 | []=>rfl
 | p :: r=>by
  have ih:=qy k j y r
  rw [List.map_cons]
  by_cases h:p.1=k
  ·rw [if_pos h]
   by_cases e:p.1=j
   ·rw [cO (p:=(p.1,y)) e,cO e,Option.map_some,if_pos (e.symm.trans h)]
   ·rw [cP (p:=(p.1,y)) e,cP e,ih]
  ·rw [if_neg h]
   by_cases e:p.1=j
   ·rw [cO (p:=p) e,cO e,Option.map_some,if_neg (fun z=>h (e.trans z))]
   ·rw [cP (p:=p) e,cP e,ih]
theorem oM (k j:κ) (y:V):∀ kvs:List (κ × V),cn kvs k=none->cn (kvs ++ [(k,y)]) j=if j=k then some y else cn kvs j
 | [],_=>by
  by_cases e:k=j
  ·rw [if_pos e.symm];exact cO (p:=(k,y)) e
  ·rw [if_neg (fun z=>e z.symm)];exact cP (p:=(k,y)) e
 | p :: r,hn=>by
  rw [List.cons_append]
  have hk:¬ p.1=k:=fun z=>by rw [cO z] at hn;cases hn
  rw [cP hk] at hn
  have ih:=oM k j y r hn
  by_cases e:p.1=j
  ·rw [cO e,cO e,if_neg (fun z=>hk (e.trans z))]
  ·rw [cP e,cP e,ih]
theorem xS (kvs:List (κ × V)) (k j:κ) (y:V):cn (putK kvs k y) j=if j=k then some y else cn kvs j:=by
 unfold putK
 by_cases a:(kvs.any fun kv=>decide (kv.1=k))=true
 ·rw [if_pos a,qy]
  rw [i0] at a
  by_cases e:j=k
  ·obtain⟨x,hx⟩:=Option.isSome_iff_exists.mp a
   rw [if_pos e,e,hx,Option.map_some,if_pos rfl]
  ·rw [if_neg e]
   cases cn kvs j with
   | none=>rfl
   | some x=>rw [Option.map_some,if_neg e]
 ·rw [if_neg a]
  refine oM k j y kvs ?_
  rw [i0] at a
  cases q:cn kvs k with
  | none=>rfl
  | some x=>rw [q] at a;exact (a rfl).elim
theorem lj (kvs:List (κ × V)) (k:κ) (v:V):(putK kvs k v).length<=kvs.length+1:=by
 unfold putK
 split
 ·rw [List.length_map];omega
 ·rw [List.length_append,List.length_cons,List.length_nil];omega
theorem dX.v9 {o:Option V} {u:Option Value} (r:dX o u):o.isSome=u.isSome:=by
 cases o with
 | none=>cases u with
  | none=>rfl
  | some _=>exact (show False from r).elim
 | some _=>cases u with
  | none=>exact (show False from r).elim
  | some _=>rfl
theorem dX.getD {o:Option V} {u:Option Value} {d:V} {d':Value} (r:dX o u) (rd:RelV d d'):RelV (o.getD d) (u.getD d'):=by
 cases o with
 | none=>cases u with
  | none=>exact rd
  | some _=>exact (show False from r).elim
 | some _=>cases u with
  | none=>exact (show False from r).elim
  | some _=>exact r
theorem KV.val {kvs:List (κ × V)} {vs:List (κ × Value)} (r:KV kvs vs) (k:κ):dX (cn kvs k) (valueAt vs k):=by
 unfold KV at r
 induction r with
 | nil=>exact True.intro
 | @cons p q ps qs h t ih =>
  obtain⟨h1,h2⟩:=h
  by_cases e:p.1=k
  ·have e':q.1=k:=h1.symm.trans e
   have b:valueAt (q :: qs) k=some q.2:=by simp [valueAt,List.find?_cons,e']
   rw [cO e,b];exact h2
  ·have e':¬ q.1=k:=fun z=>e (h1.trans z)
   have b:valueAt (q :: qs) k=valueAt qs k:=by simp [valueAt,List.find?_cons,e']
   rw [cP e,b];exact ih
theorem KV.any {kvs:List (κ × V)} {vs:List (κ × Value)} (r:KV kvs vs) (k:κ):(kvs.any fun kv=>decide (kv.1=k))=vs.any fun kv=>decide (kv.1=k):=by
 unfold KV at r
 induction r with
 | nil=>rfl
 | cons h t ih=>rw [List.any_cons,List.any_cons,ih,h.1]
theorem KV.xT {kvs:List (κ × V)} {vs:List (κ × Value)} (r:KV kvs vs) (k:κ) {y:V} {u:Value} (ry:RelV y u) :
  KV (kvs.map fun kv=>if kv.1=k then (kv.1,y) else kv) (vs.map fun kv=>if kv.1=k then (kv.1,u) else kv):=by
 unfold KV at r ⊢
 induction r with
 | nil=>exact .nil
 | @cons p q ps qs h t ih =>
  rw [List.map_cons,List.map_cons]
  refine .cons ?_ ih
  obtain⟨h1,h2⟩:=h
  by_cases e:p.1=k
  ·rw [if_pos e,if_pos (h1.symm.trans e)];exact⟨h1,ry⟩
  ·rw [if_neg e,if_neg (fun z=>e (h1.trans z))];exact⟨h1,h2⟩
theorem KV.put {kvs:List (κ × V)} {vs:List (κ × Value)} (r:KV kvs vs) (k:κ) {y:V} {u:Value} (ry:RelV y u):KV (putK kvs k y) (stored vs k u):=by
 unfold putK stored
 rw [r.any k]
 by_cases e:(vs.any fun kv=>decide (kv.1=k))=true
 ·rw [if_pos e,if_pos e];exact r.xT k ry
 ·rw [if_neg e,if_neg e];exact Paired.snoc r ⟨rfl,ry⟩
theorem KV.keys {kvs:List (κ × V)} {vs:List (κ × Value)} (r:KV kvs vs):kvs.map (·.1)=vs.map (·.1):=by
 unfold KV at r
 induction r with
 | nil=>rfl
 | cons h t ih=>rw [List.map_cons,List.map_cons,ih,h.1]
theorem KV.length {kvs:List (κ × V)} {vs:List (κ × Value)} (r:KV kvs vs):kvs.length=vs.length:=Paired.length r
end
theorem mG {P:Program} {w:World} {k:Key} {u:Value} (r:RelV (kV k) u):(aG P w).is k u=true:=by
 cases k with
 | inl i=>obtain⟨t,e⟩:=(show ∃ t,u=Value.int i t from r);subst e;exact kU P w i t
 | inr x=>obtain⟨t,e⟩:=(show ∃ t,u=Value.str x t from r);subst e;exact kW P w x t
theorem oO {P:Program} {w:World}:∀ {ks:List Key} {us:List Value},Vals (ks.map kV) us->ItemsAre (aG P w) ks us
 | [],_,r=>by rw [List.map_nil] at r;cases r;exact .nil
 | k :: ks,_,r=>by
  rw [List.map_cons] at r
  cases r with
  | cons h t=>exact .cons (mG h) (oO t)
abbrev KT (H:Hp):List (List Key × V)->List (List Key × Addr × Value)->Prop:=Paired fun p q=>p.1=q.1/\H q.2.1=some (.tup (p.1.map kV))/\RelV p.2 q.2.2
theorem KT.val {H:Hp} {kvs:List (List Key × V)} {xs:List (List Key × Addr × Value)} (r:KT H kvs xs) (k:List Key):dX (cn kvs k) ((atKey xs k).map (·.2)):=by
 induction r with
 | nil=>exact True.intro
 | @cons p q ps qs h t ih =>
  obtain⟨h1,_,h2⟩:=h
  by_cases e:p.1=k
  ·have e':q.1=k:=h1.symm.trans e
   have b:atKey (q :: qs) k=some q.2:=by simp [atKey,List.find?_cons,e']
   rw [cO e,b];exact h2
  ·have e':¬ q.1=k:=fun z=>e (h1.trans z)
   have b:atKey (q :: qs) k=atKey qs k:=by simp [atKey,List.find?_cons,e']
   rw [cP e,b];exact ih
theorem KT.xT {H:Hp} {kvs:List (List Key × V)} {xs:List (List Key × Addr × Value)} (r:KT H kvs xs) (k:List Key) {y:V} {u:Value} (ry:RelV y u) :
  KT H (kvs.map fun kv=>if kv.1=k then (kv.1,y) else kv) (xs.map (putAt k u)):=by
 induction r with
 | nil=>exact .nil
 | @cons p q ps qs h t ih =>
  rw [List.map_cons,List.map_cons]
  refine .cons ?_ ih
  obtain⟨h1,h2,h3⟩:=h
  unfold putAt
  by_cases e:p.1=k
  ·rw [if_pos e,if_pos (h1.symm.trans e)];exact⟨h1,h2,ry⟩
  ·rw [if_neg e,if_neg (fun z=>e (h1.trans z))];exact⟨h1,h2,h3⟩
theorem KT.put {H:Hp} {kvs:List (List Key × V)} {xs:List (List Key × Addr × Value)} (r:KT H kvs xs) (k:List Key) {b:Addr} {y:V} {u:Value} (hb:H b=some (.tup (k.map kV))) (ry:RelV y u) :
  KT H (putK kvs k y) (storedH xs k b u):=by
 have e:(kvs.any fun kv=>decide (kv.1=k))=(atKey xs k).isSome:=by
  rw [i0,(r.val k).v9,Option.isSome_map]
 unfold putK storedH
 rw [e]
 by_cases q:(atKey xs k).isSome=true
 ·rw [if_pos q,if_pos q];exact r.xT k ry
 ·rw [if_neg q,if_neg q];exact Paired.snoc r ⟨rfl,hb,ry⟩
theorem KT.keeps {H H':Hp} {kvs:List (List Key × V)} {xs:List (List Key × Addr × Value)} (r:KT H kvs xs) (ht:∀ b ys,H b=some (.tup ys)->H' b=some (.tup ys)):KT H' kvs xs :=
 Paired.xl r fun _ _ z=>⟨z.1,ht _ _ z.2.1,z.2.2⟩
section
variable {P:Program} {w:World} {H:Hp} {h:Heap} {a:Addr}
theorem zg {u:HO} (ok:cR P w H h) (e:Rd H a u):bC P w H h a u:=e.ok ok
theorem mH {kvs:List (Key × V)} (ok:cR P w H h) (e:Rd H a (.dK kvs)):kvs.length<=sizeLine/\(a == sysModules)=false/\∃ vs,KV kvs vs/\h.DictOf (aG P w) a vs :=
 show bC P w H h a (.dK kvs) from zg ok e
theorem uG {kvs:List (Key × V)} (ok:cR P w H h) (e:H a=some (.dK kvs)):kvs.length<=sizeLine/\(a == sysModules)=false/\∃ vs,KV kvs vs/\h.DictOf (aG P w) a vs:=mH ok (.inl e)
theorem mI {ks:List Key} (ok:cR P w H h) (e:H a=some (.tup (ks.map kV))):(tupleKind (aG P w)).is h ks a:=by
 obtain⟨_,its,r,o,h1,h2,n,h3⟩:=(show bC P w H h a (.tup (ks.map kV)) from ok a _ e)
 exact⟨o,its.toArray,n,h1,h2,h3.1,by simpa using oO r⟩
theorem mJ {kvs:List (List Key × V)} (ok:cR P w H h) (e:Rd H a (.dT kvs)):kvs.length<=sizeLine/\(a == sysModules)=false /\
  ∃ xs,KT H kvs xs/\h.DictOfH (tupleKind (aG P w)) a xs:=by
 obtain⟨z,y,xs,r,o,es,ep,h1,h2,h3,h4,h5⟩:=(show bC P w H h a (.dT kvs) from zg ok e)
 refine⟨z,y,xs,r,o,es,ep,h1,h2,h3,h4,fun x hx=>?_,h5⟩
 have all:∀ {l:List (List Key × V)} {m:List (List Key × Addr × Value)},KT H l m->∀ x ∈ m,(tupleKind (aG P w)).is h x.1 x.2.1:=by
  intro l m q
  induction q with
  | nil=>intro x hx;exact nomatch hx
  | @cons p q ps qs hq t ih =>
   intro x hx
   rcases List.mem_cons.mp hx with e | hx
   ·subst e
    exact mI ok (by rw [<-hq.1];exact hq.2.1)
   ·exact ih x hx
 exact all r x hx
theorem BX {kvs:List (List Key × V)} (ok:cR P w H h) (e:H a=some (.dT kvs)):kvs.length<=sizeLine/\(a == sysModules)=false /\
  ∃ xs,KT H kvs xs/\h.DictOfH (tupleKind (aG P w)) a xs:=mJ ok (.inl e)
end
def fI (H:Hp) (a:Addr) (y:V) (r:Option V):Prop :=
 (∃ kvs k,Rd H a (.dK kvs)/\y=kV k/\r=cn kvs k)\/∃ kvs k b,Rd H a (.dT kvs)/\y=.ref b/\H b=some (.tup (k.map kV))/\r=cn kvs k
def lT (H:Hp) (a:Addr) (y v:V) (H':Hp):Prop :=
 (∃ kvs k,H a=some (.dK kvs)/\y=kV k/\kvs.length < sizeLine/\H' = upd H a (.dK (putK kvs k v))) \/
 ∃ kvs k b,H a=some (.dT kvs)/\y=.ref b/\H b=some (.tup (k.map kV))/\kvs.length < sizeLine/\H' = upd H a (.dT (putK kvs k v))
theorem fI.k {H:Hp} {a:Addr} {kvs:List (Key × V)} {k:Key} (e:H a=some (.dK kvs)):fI H a (kV k) (cn kvs k):=.inl ⟨kvs,k,.inl e,rfl,rfl⟩
theorem lT.k {H:Hp} {a:Addr} {kvs:List (Key × V)} {k:Key} {v:V} (e:H a=some (.dK kvs)) (hl:kvs.length < sizeLine):lT H a (kV k) v (upd H a (.dK (putK kvs k v))):=.inl ⟨kvs,k,e,rfl,hl,rfl⟩
section
variable {X:Cx} {pins:List (Addr × Obj)} {σ : St} {H:Hp} {s:Shared} {a:Addr} {y v:V} {u r:Value} {o:Option V} {A:Around} {E:Value->Shared->Prop}
theorem Inv.big (I:Inv X pins σ H s):sysModules < s.heap.objs.size:=by
 have h:mainGlobals < s.heap.objs.size:=(I.mod.glob.keeps I.bk).lt
 exact Nat.lt_trans (by decide) h
theorem wa {Q:Value->Shared->Prop} (hu:A.units+1 < cLine) (I:Inv X pins σ H s) (g:fI H a y (some v)) (ry:RelV y u) (h:∀ w' s',Inv X pins σ H s'->RelV v w'->Q w' s') :
  wpAny (model X.prog X.w) A (getItem (.ref a) u) Q E s:=by
 rcases g with ⟨kvs,k,e,ey,l⟩ | ⟨kvs,k,b,e,ey,eb,l⟩
 ·subst ey
  obtain⟨z,hd,vs,rel,dd⟩:=mH I.aJ e
  obtain⟨w',hw,rw'⟩:=dX.some_of (v:=v) (o:=valueAt vs k) (by rw [l];exact rel.val k)
  exact wpAny_getItem_of (mG ry) dd.mapOf hw (h w' _ (I.tok _) rw')
 ·subst ey
  cases (show u=Value.ref b from ry)
  obtain⟨z,hd,xs,rel,dd⟩:=mJ I.aJ e
  obtain⟨w',hw,rw'⟩:=dX.some_of (v:=v) (o:=(atKey xs k).map (·.2)) (by rw [l];exact rel.val k)
  obtain⟨p,hp,hp2⟩:=Option.map_eq_some_iff.mp hw
  refine wpAny_getItem_heap (tupleKind_room_in1 hu) (mI I.aJ eb) dd hp ?_
  rw [hp2]
  exact h w' _ (I.tok _) rw'
theorem tD {h':Heap} {t':Nat} {ob:HO} (I:Inv X pins σ H s) (mu:vA (H a)) (hs:Heap.SameBut a s.heap h') (he:∃ q,h'.get? a=some q) (new:bC X.prog X.w (upd H a ob) h' a ob) :
  Inv X pins σ (upd H a ob) { s with heap:=h',toks:=t' } :=
 I.write (x:=a) (e:=a) mu (.inl rfl) (fun b q hb z=>(hs.2 b hb).trans z) he new
theorem wb {P:Program} {w:World} {H':Hp} {h':Heap} {kvs:List (Key × V)} {vs:List (Key × Value)} (z:kvs.length<=sizeLine) (hd:(a == sysModules)=false) (rel:KV kvs vs) (dd:h'.DictOf (aG P w) a vs) :
  bC P w H' h' a (.dK kvs):=⟨z,hd,vs,rel,dd⟩
theorem wc {H':Hp} {Q:Unit->Shared->Prop} (hu:A.units+1 < cLine) (I:Inv X pins σ H s) (g:lT H a y v H') (ry:RelV y u) (rv:RelV v r) (h:∀ s',Inv X pins σ H' s'->Q () s') :
  wpAny (model X.prog X.w) A (setItem (.ref a) u r) Q E s:=by
 rcases g with ⟨kvs,k,e,ey,l,eH⟩ | ⟨kvs,k,b,e,ey,eb,l,eH⟩
 ·subst ey eH
  obtain⟨z,hd,vs,rel,dd⟩:=uG I.aJ e
  have hz:vs.length<=sizeLine:=by rw [<-rel.length];exact z
  have hl:(putK kvs k v).length<=sizeLine:=by have:=lj kvs k v;omega
  refine wpAny_setItem_pairs (hsz:=hz) (mG ry) dd fun h' dd' hs=>h _ ?_
  have he:∃ q,h'.get? a=some q:=let ⟨q,_,_,hq,_⟩:=dd';⟨q,hq⟩
  exact tD I (by rw [e];exact True.intro) hs he (wb hl hd (rel.put k rv) dd')
 ·subst ey eH
  cases (show u=Value.ref b from ry)
  obtain⟨z,hd,xs,rel,dd⟩:=BX I.aJ e
  have hz:xs.length<=sizeLine:=by rw [<-Paired.length rel];exact z
  have hl:(putK kvs k v).length<=sizeLine:=by have:=lj kvs k v;omega
  refine wpAny_setItem_heap (hsz:=hz) (tupleKind_room_in1 hu) (mI I.aJ eb) dd fun h' dd' hs=>h _ ?_
  obtain⟨q,es,ep,hq,h2,h3,h4,_,h5⟩:=dd'
  refine tD I (by rw [e];exact True.intro) hs ⟨q,hq⟩ ⟨hl,hd,_,(rel.put k eb rv).keeps fun c ys ec=>?_,q,es,ep,hq,h2,h3,h4,h5⟩
  rw [ao (bH ec e (fun z=>nomatch z))]
  exact ec
end
section
variable {X:Cx} {pins:List (Addr × Obj)} {σ : St} {H:Hp} {s:Shared} {a:Addr} {kvs:List (Key × V)} {k:Key} {u:Value} {A:Around} {E:Value->Shared->Prop}
end
def uH (i:Expr):Prop:=∀ ov iv,subscripted i false ov iv=operate [ov,iv] (getItem ov iv)
theorem nO {prog:Program} {w:World} {A:Around} {E:Value->Shared->Prop} {s:Shared} {env:Env} {value slice:Expr} {pos:Pos} {T id:String} {Q:Value->Shared->Prop}
  (hl:typeLookup (.type T) "__getitem__" = pure (some (.builtin id))) (hs:uH slice)
  (h:wpAny (model prog w) A (eval value env) (fun o s₁=>wpAny (model prog w) A (eval slice env) (fun i s₂=>s₂.TypeIs o T/\wpAny (model prog w) A (getItem o i) Q E s₂) E s₁) E s) :
  wpAny (model prog w) A (eval (.Subscript value slice pos) env) Q E s:=by
 refine Subscript_ (wpAny_mono h (fun o s₁ h₁=>wpAny_mono h₁ (fun i s₂ h₂=>?_) fun _ _ x=>x) fun _ _ x=>x)
 obtain⟨hT,h₂⟩:=h₂
 unfold subscriptTail
 refine wpAny_bind ?_
 rw [getitemInPython_of_ne hT.not_modules]
 refine wpAny_bind (wpAny_specialOf hT hl ?_)
 have fin:wpAny (model prog w) A (subscripted slice false o i) (fun r s₃=>wpAny (model prog w) A (letTemporaryGo value o r >>= fun _=>pure r) Q E s₃) E s₂:=by
  rw [hs o i]
  exact wpAny_operating (wpAny_mono h₂ (fun r s₃ h₃=>wpAny_bind (wpAny_letTemporaryGo (wpAny_pure h₃))) fun _ _ x=>x)
 first
  | exact wpAny_pure (wpAny_bind fin)
  | exact wpAny_bind (wpAny_pure (wpAny_bind fin))
  | exact wpAny_bind fin
theorem rT {X:Cx} {pins:List (Addr × Obj)} {σ : St} {H:Hp} {s:Shared} {a:Addr} {y:V} {o:Option V} (I:Inv X pins σ H s) (g:fI H a y o):s.TypeIs (.ref a) "dict" := by
 rcases g with ⟨kvs,k,e,_,_⟩ | ⟨kvs,k,b,e,_,_,_⟩
 ·obtain⟨_,_,vs,_,dd⟩:=mH I.aJ e
  exact dd.typeIs
 ·obtain⟨_,_,xs,_,dd⟩:=mJ I.aJ e
  exact dd.typeIs
inductive xU (Q:VK) (x:V) (y:V) (H2:Hp):Prop
 | mk (a v:_) (_:x=.ref a) (_:fI H2 a y (some v)) (_:Q v H2)
def BY (td ty:TE):TE:=fun σ H Q=>td σ H fun x H1=>ty σ H1 fun y H2=>xU Q x y H2
def BZ (td ty tv:TE):TS:=fun D σ H=>tv σ H fun v H1=>td σ H1 fun x H2=>ty σ H2 fun y H3=>∃ a H4,x=.ref a/\lT H3 a y v H4/\D.nx σ H4
section
variable {X:Cx} {o i e value:Expr} {pos pos' tpos:Pos} {td ty tv:TE}
theorem tE (hu:X.A.units+1 < cLine) (ho:PE X o td) (hi:PE X i ty) (hs:uH i):PE X (.Subscript o i pos) (BY td ty):=by
 intro pins s σ H Q I h
 refine nO PySem.F.slot_dict_getitem.lookup hs (aT (ho pins s σ H _ I h) fun u s1 ⟨x,H1,I1,rx,q1⟩=>aT (hi pins s1 σ H1 _ I1 q1) fun iv s2 ⟨y,H2,I2,ry,a,v,ex,g,q2⟩=>?_)
 subst ex
 obtain rfl:u=Value.ref a:=rx
 exact⟨rT I2 g,wa hu I2 g ry fun w' s3 I3 rw'=>⟨v,H2,I3,rw',q2⟩⟩
theorem nP (hu:X.A.units+1 < cLine) (ho:PE X o td) (hi:PE X i ty) (hv:PE X value tv) (hs:swapsWith value (some (.Subscript o i pos')) pos.line X.env=pure false) :
  PS X (.Assign [.Subscript o i pos'] value pos) (BZ td ty tv):=by
 intro pins s σ H D I h
 refine wpAny_Assign_Subscript (aT (hv pins s σ H _ I h) fun r s1 ⟨v,H1,I1,rv,q1⟩=>aT (ho pins s1 σ H1 _ I1 q1) fun u s2 ⟨x,H2,I2,rx,q2⟩=>aT (hi pins s2 σ H2 _ I2 q2) fun iv s3 ⟨y,H3,I3,ry,a,H4,ex,g,q3⟩=>?_) hs
 subst ex
 obtain rfl:u=Value.ref a:=rx
 exact wc hu I3 g ry rv fun s4 I4=>⟨σ,H4,I4,q3⟩
end
theorem qA {P:Program} {w:World} {H:Hp} (h:Heap) (hb:sysModules < h.objs.size):bC P w H (h.push { cls:=.type "dict",data:=.dict #[] }) h.objs.size (.dK []) :=
 ⟨Nat.zero_le _,beq_eq_false_iff_ne.mpr (Ne.symm (Nat.ne_of_lt hb)),[],.nil,Heap.DictOf.new h⟩
def Bc:TE:=fun _ H Q=>∀ p,H p=none->Q (.ref p) (upd H p (.dK []))
section
variable {X:Cx} {pos:Pos}
theorem xV:PE X (.Dict [] [] pos) Bc:=fun pins s σ H Q I h =>
 wpAny_Dict_empty ⟨.ref s.heap.objs.size,_,I.laid (a:=s.heap.objs.size) (o:=.dK []) (t':=s.toks) (fun _ _ q=>Heap.get?_push_of_some _ q) (Nat.le_refl _) (qA s.heap I.big),rfl,h _ (I.aJ.fresh (Nat.le_refl _))⟩
end
def qB:List (TE × TE)->St->Hp->(List (V × V)->Hp->Prop)->Prop
 | [],_,H,Q=>Q [] H
 | (tk,tv) :: r,σ,H,Q=>tk σ H fun x H1=>tv σ H1 fun y H2=>qB r σ H2 fun ps H3=>Q ((x,y) :: ps) H3
abbrev VV:List (V × V)->List (Value × Value)->Prop:=Paired fun p q=>RelV p.1 q.1/\RelV p.2 q.2
def zh (X:Cx) (pos:Pos) (keys:List (Option Expr)) (values:List Expr) (trs:List (TE × TE)):Prop :=
 ∀ (pins:List (Addr × Obj)) (s:Shared) (σ : St) (H:Hp) (Q:List (V × V)->Hp->Prop),Inv X pins σ H s->qB trs σ H Q ->
  wpAny (model X.prog X.w) X.A (evalPairs (pairTrees keys values X.env pos)) (fun vs s'=>∃ ps H',Inv X pins σ H' s'/\VV ps vs/\Q ps H') X.xe s
theorem zO {X:Cx} {pos:Pos}:zh X pos [] [] []:=fun pins s σ H Q I h=>pairTrees_nil_walk ⟨[],H,I,.nil,h⟩
theorem xW {X:Cx} {pos:Pos} {k v:Expr} {ks:List (Option Expr)} {vs:List Expr} {tk tv:TE} {trs:List (TE × TE)} (hk:PE X k tk) (hv:PE X v tv) (hr:zh X pos ks vs trs) :
  zh X pos (some k :: ks) (v :: vs) ((tk,tv) :: trs):=fun pins s σ H Q I h =>
 pairTrees_cons_walk (aT (hk pins s σ H _ I h) fun u s1 ⟨x,H1,I1,rx,q1⟩=>aT (hv pins s1 σ H1 _ I1 q1) fun w2 s2 ⟨y,H2,I2,ry,q2⟩ =>
  aT (hr pins s2 σ H2 _ I2 q2) fun ws s3 ⟨ps,H3,I3,rel,q3⟩=>⟨(x,y) :: ps,H3,I3,.cons ⟨rx,ry⟩ rel,q3⟩)
structure M2 (X:Cx) (o:Expr) (m:Str) (apos:Pos) (e f:Expr) (cpos:Pos):Prop where
 base:attributeBase o m X.env (eval o X.env)=eval o X.env
 b0:((backTo cpos (starEach [e,f] X.env)).all (fun x=>!x.1) && (backToKw cpos (keywordEach [] X.env)).all (fun x=>x.1.isSome)
  && decide (([e,f]:List Expr).length+([]:List Keyword).length+(if ([]:List Keyword).isEmpty then 0 else 1) < 30))=true
 line:(apos.endLine == cpos.line)=true
 trees:backTo cpos (starEach [e,f] X.env) = [(false,eval e X.env),(false,eval f X.env)]
def Cn (H:Hp) (a:Addr):Prop:=(∃ kvs,Rd H a (.dK kvs))\/∃ kvs,Rd H a (.dT kvs)
theorem Bd {X:Cx} {pins:List (Addr × Obj)} {σ : St} {H:Hp} {s:Shared} {a:Addr} (I:Inv X pins σ H s) (d:Cn H a) :
  s.TypeIs (.ref a) "dict" /\ (∀ b,Value.ref a=.ref b->∃ ob,s.heap.get? b=some ob/\ob.dict=none)/\(a == sysModules)=false:=by
 rcases d with ⟨kvs,e⟩ | ⟨kvs,e⟩
 ·obtain⟨_,hd,vs,_,dd⟩:=mH I.aJ e
  refine⟨dd.typeIs,fun b q=>?_,hd⟩
  cases q
  obtain⟨ob,_,_,h1,h2,_⟩:=dd
  exact⟨ob,h1,h2.2.1⟩
 ·obtain⟨_,hd,xs,_,dd⟩:=mJ I.aJ e
  refine⟨dd.typeIs,fun b q=>?_,hd⟩
  cases q
  obtain⟨ob,_,_,h1,h2,_⟩:=dd
  exact⟨ob,h1,h2.2.1⟩
section
variable {X:Cx} {pins:List (Addr × Obj)} {σ : St} {H:Hp} {s:Shared} {a:Addr} {y d:V} {u r:Value} {o:Option V} {A:Around} {E:Value->Shared->Prop}
theorem Be {Q:Value->Shared->Prop} (hu:A.units+1 < cLine) (I:Inv X pins σ H s) (g:fI H a y o) (ry:RelV y u) (rd:RelV d r) (h:∀ w' s',Inv X pins σ H s'->RelV (o.getD d) w'->Q w' s') :
  wpAny (model X.prog X.w) A (call (.builtin "dict.get") [.ref a,u,r]) Q E s:=by
 rcases g with ⟨kvs,k,e,ey,l⟩ | ⟨kvs,k,b,e,ey,eb,l⟩
 ·subst ey
  obtain⟨z,hd,vs,rel,dd⟩:=mH I.aJ e
  refine call_meetsIn PySem.F.slot_dict_get dd.typeIs PySem.F.entry_dict_get (PySem.F.args_dict_get_3 _ _ _) (meets_dict_get_default (aG X.prog X.w) a (mG ry) hd r) ⟨_,dd.mapOf,h _ _ (I.tok _) ?_⟩
  rw [l]
  exact (rel.val k).getD rd
 ·subst ey
  cases (show u=Value.ref b from ry)
  obtain⟨z,hd,xs,rel,dd⟩:=mJ I.aJ e
  refine call_meetsIn PySem.F.slot_dict_get dd.typeIs PySem.F.entry_dict_get (PySem.F.args_dict_get_3 _ _ _) (meetsH_dict_get_default (tupleKind (aG X.prog X.w)) a b hd r) ⟨tupleKind_room_in1 hu,k,xs,mI I.aJ eb,dd,h _ _ (I.tok _) ?_⟩
  rw [l]
  exact (rel.val k).getD rd
end
section
variable {X:Cx} {o e f:Expr} {apos cpos:Pos} {td ty tx:TE}
end
section
variable {X:Cx} {pins:List (Addr × Obj)} {σ : St} {H:Hp} {s:Shared} {a:Addr} {kvs:List (Key × V)} {A:Around} {E:Value->Shared->Prop}
end
section
variable {X:Cx} {pins:List (Addr × Obj)} {σ : St} {H:Hp} {s:Shared} {a:Addr} {y:V} {u:Value} {A:Around} {E:Value->Shared->Prop}
end
section
variable {X:Cx}
end
section
variable {κ : Type} [DecidableEq κ]
end
theorem aP.bx {H:Hp} {v:V} {ds:List PyData} (h:aP H v (.tuple ds)):∃ p xs,v=.ref p/\H p=some (.tup xs)/\aU H xs ds:=by
 cases h with
 | tup e r=>exact⟨_,_,rfl,e,r⟩
theorem aP.int_inv {H:Hp} {v:V} {i:Int} (h:aP H v (.int i)):v=.int i:=by cases h;rfl
theorem aP.str_inv {H:Hp} {v:V} {x:Str} (h:aP H v (.str x)):v=.str x:=by cases h;rfl
theorem aU.cons_inv {H:Hp} {xs:List V} {d:PyData} {ds:List PyData} (h:aU H xs (d :: ds)):∃ x r,xs=x :: r/\aP H x d/\aU H r ds:=by
 cases h with
 | cons a b=>exact⟨_,_,rfl,a,b⟩
theorem aU.nil_inv {H:Hp} {xs:List V} (h:aU H xs []):xs = []:=by cases h;rfl
theorem aU.get {H:Hp}:∀ {xs:List V} {ds:List PyData} {i:Nat} {d:PyData},aU H xs ds->ds[i]? = some d->∃ x,xs[i]? = some x/\aP H x d
 | _,_,_,_,.nil,e=>by simp at e
 | _,_,0,_,.cons r _,e=>by
  simp at e
  subst e
  exact⟨_,rfl,r⟩
 | _,_,i+1,d,.cons _ t,e=>by
  obtain⟨x,h1,h2⟩:=aU.get (i:=i) (d:=d) t (by simpa using e)
  exact⟨x,by simpa using h1,h2⟩
def p7:cG->List V
 | .put x n=>[.str "put",.str x,.int n]
 | .copy x y=>[.str "copy",.str x,.str y]
 | .add x n=>[.str "add",.str x,.int n]
 | .read x=>[.str "read",.str x]
 | .tell x=>[.str "tell",.str x]
def eO:End->List V
 | .stop=>[.str "stop"]
 | .go p=>[.str "go",.int p]
 | .cH b x n p q=>[.str (wT b),.str x,.int n,.int p,.int q]
theorem tF {H:Hp} {v:V} {d:cG} (h:aP H v (ef d)):∃ p,v=.ref p/\H p=some (.tup (p7 d)):=by
  cases d <;> (
    obtain⟨p,xs,rfl,e,r⟩:=aP.bx h
    obtain⟨x1,r1,rfl,h1,r⟩:=r.cons_inv
    obtain⟨x2,r2,rfl,h2,r⟩:=r.cons_inv
    first
      | (obtain⟨x3,r3,rfl,h3,r⟩:=r.cons_inv
         have z:=r.nil_inv
         subst z
         refine⟨p,rfl,?_⟩
         first
           | rw [e,h1.str_inv,h2.str_inv,h3.int_inv];rfl
           | rw [e,h1.str_inv,h2.str_inv,h3.str_inv];rfl)
      | (have z:=r.nil_inv
         subst z
         refine⟨p,rfl,?_⟩
         rw [e,h1.str_inv,h2.str_inv];rfl))
theorem Bf {H:Hp} {v:V} {e:End} (h:aP H v (nN e)):∃ p,v=.ref p/\H p=some (.tup (eO e)):=by
 cases e with
 | stop =>
  obtain⟨p,xs,rfl,e,r⟩:=aP.bx h
  obtain⟨x1,r1,rfl,h1,r⟩:=r.cons_inv
  have z:=r.nil_inv
  subst z
  exact⟨p,rfl,by rw [e,h1.str_inv];rfl⟩
 | go q =>
  obtain⟨p,xs,rfl,e,r⟩:=aP.bx h
  obtain⟨x1,r1,rfl,h1,r⟩:=r.cons_inv
  obtain⟨x2,r2,rfl,h2,r⟩:=r.cons_inv
  have z:=r.nil_inv
  subst z
  exact⟨p,rfl,by rw [e,h1.str_inv,h2.int_inv];rfl⟩
 | cH b x n q q' =>
  obtain⟨p,xs,rfl,e,r⟩:=aP.bx h
  obtain⟨x1,r1,rfl,h1,r⟩:=r.cons_inv
  obtain⟨x2,r2,rfl,h2,r⟩:=r.cons_inv
  obtain⟨x3,r3,rfl,h3,r⟩:=r.cons_inv
  obtain⟨x4,r4,rfl,h4,r⟩:=r.cons_inv
  obtain⟨x5,r5,rfl,h5,r⟩:=r.cons_inv
  have z:=r.nil_inv
  subst z
  exact⟨p,rfl,by rw [e,h1.str_inv,h2.str_inv,h3.int_inv,h4.int_inv,h5.int_inv];rfl⟩
theorem d6 {H:Hp} {v:V} {ps:List Piece} {i:Nat} {ds:List cG} {e:End} (h:aP H v (eM ps)) (hi:ps[i]? = some (ds,e)) :
  ∃ p xs pc da ea vs,v=.ref p/\H p=some (.tup xs)/\xs.length=ps.length/\xs[i]? = some (.ref pc)/\H pc=some (.tup [.ref da,.ref ea])/\H da=some (.tup vs)/\aU H vs (ds.map ef)/\H ea=some (.tup (eO e)):=by
 obtain⟨p,xs,rfl,e1,r⟩:=aP.bx h
 have hl:=r.len
 obtain⟨x,hx,rx⟩:=r.get (i:=i) (d:=dQ (ds,e)) (by rw [List.getElem?_map,hi];rfl)
 obtain⟨pc,ys,rfl,e2,r2⟩:=aP.bx rx
 obtain⟨y1,t1,rfl,q1,r2⟩:=r2.cons_inv
 obtain⟨y2,t2,rfl,q2,r2⟩:=r2.cons_inv
 have z:=r2.nil_inv
 subst z
 obtain⟨da,vs,rfl,e3,r3⟩:=aP.bx q1
 obtain⟨ea,rfl,e4⟩:=Bf q2
 exact⟨p,xs,pc,da,ea,vs,rfl,e1,by rw [hl,List.length_map],hx,e2,e3,r3,e4⟩
theorem fh {n:Nat} (h:n<=1000000):n < sizeLine:=Nat.lt_of_le_of_lt h (by decide)
theorem bB {c:Bool} {A B:Prop} (hc:c=false) (h:B):if c=true then A else B:=by subst hc;exact bJ h
theorem cL {c:Bool} {A B:Prop} (hc:c=true) (h:A):if c=true then A else B:=by subst hc;exact bT h
inductive uI (Q:VK) (a:Addr) (y:V) (z:V) (H3:Hp):Prop
 | mk (o v:_) (_:fI H3 a y o) (_:o.getD z=v) (_:Q v H3)
inductive uJ (ty:TE) (tx:TE) (σ : St) (Q:VK) (x:V) (H1:Hp):Prop
 | mk (a:_) (_:x=.ref a) (_:Cn H1 a) (_:ty σ H1 fun y H2=>tx σ H2 fun z H3=>uI Q a y z H3)
def zP (td ty tx:TE):TE:=fun σ H Q=>td σ H fun x H1=>uJ ty tx σ Q x H1
theorem ie {X:Cx} {o e f:Expr} {apos cpos:Pos} {td ty tx:TE} (hu:X.A.units+1 < cLine) (ho:PE X o td) (he:PE X e ty) (hf:PE X f tx) (m:M2 X o "get" apos e f cpos):PE X (.Call (.Attribute o "get" apos) [e,f] [] cpos) (zP td ty tx):=by
 intro pins s σ H Q I h
 refine wpAny_Call_method m.base m.b0 m.line PySem.F.plainAttrs_dict PySem.F.slot_dict_get PySem.F.type_dict_get (aT (ho pins s σ H _ I h) fun u s1 ⟨x,H1,I1,rx,a,ex,d,q1⟩=>?_)
 subst ex
 obtain rfl:u=Value.ref a:=rx
 obtain⟨t1,t2,_⟩:=Bd I1 d
 refine⟨t1,t2,?_⟩
 rw [m.trees]
 refine Calls.callWith_builtin rfl (Calls.evalArgs_plain (Calls.spliced_cons (aT (he pins s1 σ H1 _ I1 q1) fun iv s2 ⟨y,H2,I2,ry,q2⟩ =>
  Calls.spliced_cons (aT (hf pins s2 σ H2 _ I2 q2) fun fv s3 ⟨z,H3,I3,rz,ov,v,g,ev,q3⟩=>Calls.spliced_nil ?_))))
 exact Be hu I3 g ry rz fun w' s4 I4 rw'=>⟨v,H3,I4,by rw [<-ev];exact rw',q3⟩
structure RS where
 B0:Nat
 place:Nat
 w:Str->Int
 taken:Nat
 told:List Int
 word:Str
 xX:List Nat
def DW (kvs:List (Key × V)) (w:Str->Int):Prop:=∀ x:Str,(cn kvs (Sum.inr x:Key)).getD (.int 0)=.int (w x)
def fi (ps:List Piece):Prop:=∀ p ∈ ps,match p.2 with
 | .stop=>True
 | .go q=>q < ps.length
 | .cH _ _ _ q r=>q < ps.length/\r < ps.length
theorem bY.qC {xs:List Str} {m:Nat} {ps:List Piece} (h:bY xs m ps):fi ps:=fun p hp=>by
 have:=h.ends p hp
 cases e:p.2 with
 | stop=>exact True.intro
 | go q=>rw [e] at this;exact this
 | cH b x n q r=>rw [e] at this;exact⟨this.2.2.1,this.2.2.2⟩
def vO:Option Int->V
 | none=>.bg
 | some i=>.int i
def qD:Option Int->Option Int->Prop
 | some a,some b=>a<=b
 | _,_=>True
def i5 (n:Int) (lo hi:Option Int):Bool:=(match lo with | none=>true | some a=>decide (a<=n)) && (match hi with | none=>true | some a=>decide (n<=a))
abbrev Rs:=Option (Option Int × Option Int)
def i6 (hi:Option Int) (n:Int):Int:=match hi with | none=>n - 1 | some h=>if n - 1 < h then n - 1 else h
def i7 (lo:Option Int) (n:Int):Int:=match lo with | none=>n | some l=>if n > l then n else l
def fj (lo hi:Option Int) (n:Int):Rs :=
 match lo with | none=>some (none,some (i6 hi n)) | some l=>if i6 hi n < l then none else some (some l,some (i6 hi n))
def gH (lo hi:Option Int) (n:Int):Rs :=
 match hi with | none=>some (some (i7 lo n),none) | some h=>if h < i7 lo n then none else some (some (i7 lo n),some h)
def qE (lo hi:Option Int) (n:Int):Rs:=if i5 n lo hi=true then some (some n,some n) else none
def i8 (lo hi:Option Int) (n:Int):Rs:=if lo=some n then (if hi=some n then none else some (some (n+1),hi)) else if hi=some n then some (lo,some (n - 1)) else some (lo,hi)
def mK (lo hi:Option Int) (n:Int) (side:Bool):Rs:=if side=true then fj lo hi n else gH lo hi n
def we (lo hi:Option Int) (n:Int) (side:Bool):Rs:=if side=true then qE lo hi n else i8 lo hi n
def fk (w:Str) (lo hi:Option Int) (n:Int) (side:Bool):Rs:=if w = "less" then mK lo hi n side else we lo hi n side
theorem xY {w:Str} {lo hi:Option Int} {n:Int} (le:qD lo hi) (h1:fk w lo hi n true=none) (h2:fk w lo hi n false=none):False:=by
 unfold fk at h1 h2
 by_cases hw:w = "less"
 ·rw [if_pos hw] at h1 h2
  simp only [mK,if_true,Bool.false_eq_true,if_false] at h1 h2
  unfold fj i6 at h1
  unfold gH i7 at h2
  cases lo <;> cases hi <;> simp only [reduceCtorEq] at h1 h2
  rename_i l h
  simp only [qD] at le
  by_cases c1:n - 1 < h
  ·simp only [c1,if_true] at h1
   by_cases c2:n - 1 < l
   ·by_cases c3:n > l
    ·simp only [c3,if_true] at h2
     split at h2
     ·omega
     ·cases h2
    ·simp only [c3,if_false] at h2
     split at h2
     ·omega
     ·cases h2
   ·rw [if_neg c2] at h1;cases h1
  ·simp only [c1,if_false] at h1
   split at h1
   ·omega
   ·cases h1
 ·rw [if_neg hw] at h1 h2
  simp only [we,if_true,Bool.false_eq_true,if_false] at h1 h2
  unfold i8 at h2
  by_cases c1:lo=some n
  ·rw [if_pos c1] at h2
   by_cases c2:hi=some n
   ·subst c1;subst c2
    simp [qE,i5] at h1
   ·rw [if_neg c2] at h2;cases h2
  ·rw [if_neg c1] at h2
   split at h2 <;> cases h2
def RV (H:Hp) (v:V) (r:Rs):Prop:=match r with
 | none=>v=.bg
 | some (a,b)=>∃ p,v=.ref p/\H p=some (.tup [vO a,vO b])
theorem RV.same {H H':Hp} {v:V} {r:Rs} (h:RV H v r) (s:ae H H'):RV H' v r:=by
 cases r with
 | none=>exact h
 | some ab =>
  obtain⟨p,e,h⟩:=h
  exact⟨p,e,s _ _ h⟩
theorem RV.put {H:Hp} {v:V} {r:Rs} {l:Addr} {xs:List V} {o:HO} (h:RV H v r) (hl:H l=some (.lst xs)):RV (upd H l o) v r:=by
 cases r with
 | none=>exact h
 | some ab =>
  obtain⟨p,e,h⟩:=h
  exact⟨p,e,by rw [ao (bH h hl (by intro z;cases z))];exact h⟩
def dO:Option Int->PyData
 | none=>.none
 | some i=>.int i
theorem Bg {H:Hp} (o:Option Int):aP H (vO o) (dO o):=by
 cases o with
 | none=>exact .bg
 | some i=>exact .int i
theorem ae.put {H H':Hp} {l:Addr} {o:HO} (s:ae H H') (n:H l=none):ae H (upd H' l o):=fun c u e=>by rw [ao (aw e n)];exact s c u e
theorem wg:decide (V.str "less" = V.str "less")=true:=by decide +kernel
theorem mL {lo:Option Int} {n:Int}:decide (vO lo=V.int n)=decide (lo=some n):=by
 cases lo with
 | none=>rfl
 | some i =>
  by_cases h:i=n
  ·subst h;simp [vO]
  ·have h1:¬ (V.int i=V.int n):=fun z=>h (V.int.inj z)
   have h2:¬ ((some i:Option Int)=some n):=fun z=>h (Option.some.inj z)
   rw [show vO (some i)=V.int i from rfl,decide_eq_false h1,decide_eq_false h2]
theorem jS {lo:Option Int} {n:Int}:xC (vO lo) (V.int n)=true:=by cases lo <;> rfl
structure xZ (P:Program) (w:World) (K:PySem.W.Frag) (mg:Str->Option Value) (base:Heap) (C:Addr) (m:Str) (k:Nat) (ps:List Str) (sp:Sp):Prop where
 cl:jM K C
 ex:∃ f fd,ba P w K mg base bN k f fd ps sp/\Meth K C m f/\Binds K fd ps []
structure x8 (P:Program) (w:World) (K:PySem.W.Frag) (mg:Str->Option Value) (base:Heap) (C:Addr) (x:Str) (k:Nat) (ps:List Str) (sp:Sp):Prop where
 ex:∃ f fd,ba P w K mg base bN k f fd ps sp/\Mk K C f/\mg x=some (.ref C)/\Binds K fd ps []
section
variable {X:Cx} {C:Addr} {m x:Str} {k:Nat} {ps:List Str} {sp:Sp} {oe e:Expr} {es:List Expr} {ta:TE} {t:TA} {p pos apos:Pos}
theorem zQ {pl:Sem Bool} (o:xZ X.prog X.w X.K X.mg X.base C m k ps sp) (he:PE X oe ta) (hr:cb k X.A) (ha:PA X (e :: es) t)
  (hst:starEach (e :: es) X.env=(false,eval e X.env) :: starEach es X.env:=by rfl) (hpl:(backTo pos (starEach es X.env)).any (·.1)=false:=by rfl)
  (ht:eval (.Call (.Attribute oe m apos) (e :: es) [] pos) X.env=(do
   let ov <-eval oe X.env
   standAt apos.atName
   let (f,first) <-holding [ov] (getMethod ov m pl)
   callWith pos f first (backTo pos (starEach (e :: es) X.env)) (backToKw pos (keywordEach [] X.env))):=by rfl) :
  PE X (.Call (.Attribute oe m apos) (e :: es) [] pos) (y8 C m sp [] E0 ta t):=by
 obtain⟨f,fd,F,hm,hb⟩:=o.ex
 exact zG he o.cl hm F hr hb .nil uC ha hst hpl ht
theorem zR (o:x8 X.prog X.w X.K X.mg X.base C x k ps sp) (hr:cb (k+1) X.A) (hg:Gl X x) (ha:PA X (e :: es) t)
  (hdb:(x == ("__debug__" : Str))=false:=by decide) (he:starEach (e :: es) X.env=(false,eval e X.env) :: starEach es X.env:=by rfl)
  (hpl:(backTo pos (starEach es X.env)).any (·.1)=false:=by rfl):PE X (.Call (.Name x p) (e :: es) [] pos) (y9 C sp [] E0 t):=by
 obtain⟨f,fd,F,M,hm,hb⟩:=o.ex
 exact zH M F hr hg hm hb .nil uC ha hdb he hpl
end
theorem nQ:bootBuiltins "dict" = some (.type "dict"):=by decide +kernel
theorem Bh {k:Str} {v:V} {l:List (Str × V)}:((k,v) :: l).lookup k=some v:=by simp [List.lookup]
theorem x9 {k k':Str} {v:V} {l:List (Str × V)} {o:Option V} (h:¬ k=k') (e:l.lookup k=o):((k',v) :: l).lookup k=o:=by
 rw [List.lookup_cons,beq_false_of_ne h];exact e
theorem C0 {k k':Str} {v u:V} {l l':List (Str × V)} (h:¬ k' = k) (e:cZ k v l=l'):cZ k v ((k',u) :: l)=(k',u) :: l':=by simp only [cZ,if_neg h,e]
theorem Bi {k:Str} {v:V}:cZ k v [] = [(k,v)]:=rfl
def Dg (a0 a1 a2 a3 a4 a5 a6 a7:V):List (Str × V):=[("pieces",a0),("passed",a1),("place",a2),("worths",a3),("numbers",a4),("taken",a5),("spoken",a6),("over",a7)]
section
variable {a0 a1 a2 a3 a4 a5 a6 a7 z:V}
end
structure cC (C:Addr) (H:Hp) (p pl d nl sl:Addr) (plv:V) (nums:List Int) (S:RS) (m:Nat):Prop where
 ob:∃ dx,H p=some (.ins C dx (Dg plv (.ref pl) (.int S.place) (.ref d) (.ref nl) (.int S.taken) (.ref sl) (.bl (decide (S.word = "stop")))))
 Dh:H pl=some (.lst (S.xX.map fun k=>V.int (k:Nat)))
 last:∃ xs,S.xX=xs ++ [S.B0]
 dict:∃ kvs,H d=some (.dK kvs)/\DW kvs S.w/\kvs.length<=m
 nums:H nl=some (.lst (nums.map V.int))
 Di:H sl=some (.lst (S.told.map V.int))
 ne:pl ≠ nl/\pl ≠ sl/\nl ≠ sl
 b0:S.told.length<=m/\S.xX.length<=m+1
section
variable {C:Addr} {H H':Hp} {p pl d nl sl:Addr} {plv:V} {nums:List Int} {S:RS} {m:Nat}
end
end L2
namespace HT
open PySem PyProof.Rows PySem.Spec
section
variable {prog:Program} {w:World} {A:Around} {E:Value->Shared->Prop} {s:Shared}
theorem kQ {t sl:Addr} {items:Array Value} {vl vu:Value} {lo hi:Option Int} {Q:Value->Shared->Prop} (ht:IsTup s.heap t items) (hs:s.heap.IsSliceOf sl vl vu .none) (pl:IsPart vl lo) (pu:IsPart vu hi)
  (hw:bD items.size 0 lo=0/\bD items.size items.size hi=items.size) (h:Q (.ref t) s):wpAny (model prog w) A (getItem (.ref t) (.ref sl)) Q E s:=by
 obtain⟨os,hos,hcs,hds⟩:=id hs
 have hTs:s.TypeIs (.ref sl) "slice" := ⟨os,hos,hcs⟩
 unfold getItem
 try with_reducible refine wpAny_holding ?_
 first | refine wpAny_bind (wpAny_pure ?_) | skip
 refine wpAny_bind (wpAny_sequenceKey ht.typeIs (by decide) ?_)
 refine wpAny_bind (wpAny_callSpecial?_slot (name:=Str.ofString "__getitem__") ht.typeIs PyProof.Rows.slot_tuple_getitem
  (wpAny_call_entry PyProof.Rows.slot_tuple_getitem ht.typeIs entry_tuple_getitem ?_ (args_tuple_getitem _ _)))
 show wpAny _ _ (Builtin.Tuple.tupleItemsOf (.ref t) >>= _) _ _ s
 refine wpAny_bind (tupleItemsOf_ ht ?_)
 refine wpAny_bind (wpAny_typeOf hTs ?_)
 rw [if_pos (by decide)]
 refine wpAny_bind (gX hs pl pu ?_)
 have hno:((((bD items.size 0 lo:Nat):Int) == 0 && (1:Int) == 1 && (bD items.size items.size hi - bD items.size 0 lo) == items.size)=true):=by
  rw [hw.1,hw.2]
  simp
 show wpAny _ _ (if (((bD items.size 0 lo:Nat):Int) == 0 && (1:Int) == 1 && (bD items.size items.size hi - bD items.size 0 lo) == items.size)=true then _ else _) _ _ s
 rw [if_pos hno]
 refine wpAny_bind ?_
 unfold Builtin.Tuple.tupleIsExact
 refine wpAny_bind (wpAny_typeOf ht.typeIs (wpAny_pure ?_))
 rw [if_pos (by decide)]
 refine wpAny_bind (wpAny_rule ?_)
 first
  | exact wpAny_pure ⟨_,rfl,wpAny_pure h⟩
  | exact wpAny_bind (wpAny_pure (wpAny_pure ⟨_,rfl,wpAny_pure h⟩))
  | exact wpAny_pure (wpAny_pure ⟨_,rfl,wpAny_pure h⟩)
end
end HT
namespace L2
open PySem PySem.Spec PyProof.Rows
section
variable {X:Cx}
inductive B9 (K:PySem.W.Frag) (x:V) (lo:Option Int) (hi:Option Int) (H:Hp) (Q:VK):Prop
 | mk (a xs:_) (_:x=.ref a) (_:av K H a xs) (_:((HT.bD xs.length 0 lo=0/\HT.bD xs.length xs.length hi=xs.length)->Q (.ref a) H)) (_:(¬ (HT.bD xs.length 0 lo=0/\HT.bD xs.length xs.length hi=xs.length)->∀ p,H p=none->Q (.ref p) (upd H p (.tup (eD xs lo hi)))))
theorem kJ:zb X (B9 X.K):=by
 intro pins s σ H x v vl vu lo hi sl Q I rx hs pl pu h
 obtain⟨a,xs,rfl,hx,q1,q2⟩:=h
 by_cases hw:HT.bD xs.length 0 lo=0/\HT.bD xs.length xs.length hi=xs.length
 ·cases rx
  obtain⟨its,r,ht,hz⟩:=I.tuple hx
  have hlen:its.toArray.size=xs.length:=by rw [List.size_toArray];exact r.length.symm
  refine⟨"tuple",_,PyProof.Rows.slot_tuple_getitem.lookup,ht.typeIs,?_⟩
  exact HT.kQ ht hs pl pu (by rw [hlen];exact hw) ⟨.ref a,H,I,rfl,q1 hw⟩
 ·exact AS pins s σ H (.ref a) v vl vu lo hi sl Q I rx hs pl pu ⟨a,xs,rfl,hx,hw,q2 hw⟩
end
theorem lq {P:Program} {w:World} {x:Str} {v:Value} (h:(aG P w).is (Sum.inr x) v=true):∃ t,v=.str x t:=by
 cases v with
 | str y t =>
  have:y=x:=by simpa [aG,fQ,Value.isStrOf] using h
  exact⟨t,by rw [this]⟩
 | _=>simp [aG,fQ,Value.isStrOf] at h
theorem mM:∀ {vs:List Value} {ks:List Str},vs.length=ks.length->(∀ (j:Nat) (v:Value) (x:Str),vs[j]? = some v->ks[j]? = some x->∃ t,v=.str x t)->StrsAre vs ks
 | [],[],_,_=>.nil
 | v :: vs,x :: ks,hl,h=>by
  obtain⟨t,rfl⟩:=h 0 v x rfl rfl
  exact .cons x t (mM (by simpa using hl) fun j v' x' h1 h2=>h (j+1) v' x' (by simpa using h1) (by simpa using h2))
 | [],_ :: _,hl,_=>by simp at hl
 | _ :: _,[],hl,_=>by simp at hl
section
variable {prog:Program} {w:World} {A:Around} {E:Value->Shared->Prop} {s:Shared}
open PySem.Calls PySem.W in
theorem gather {T:String} {r d:Addr} {n:Nat} {P:Nat->Value->Prop} {OK:Heap->Prop} {G:List Value->Shared->Prop} (src:KdlSrc prog w T r d n P OK) (calm:A.handled=none) (ok:OK s.heap) (b0:n<=sizeLine)
  (fin:∀ (g:Heap) (tk:Nat) (got:Array Value),(∀ b o,s.heap.get? b=some o->g.get? b=some o)->ItemsOf P got n->s.heap.objs.size<=g.objs.size->G got.toList { s with heap:=g,toks:=tk }) :
  wpAny (model prog w) A (collect (.ref r)) G E s:=by
 obtain⟨lt1,lt2⟩:=src.there _ ok
 unfold collect
 refine wpAny_bind (wpAny_runValue (codeAny_builtin entry_proto_collect' ?_))
 rw [Around.under_plainId PySem.F.plain_proto_collect _]
 show wpAny _ A.in1 (newList [] >>= fun z=>again (.builtin "list.__iadd__" ⟨[z,.ref r],[]⟩)) _ _ s
 refine wpAny_bind (wpAny_newObj_type (wpAny_pure ⟨plainId_quiet PySem.F.plain_list_iadd _,codeAny_builtin entry_list_iadd' ?_⟩))
 rw [Around.under_plainId PySem.F.plain_list_iadd _]
 show wpAny _ A.in1 (Builtin.List.listExtendWith (.ref s.heap.objs.size) (.ref r) (.ref s.heap.objs.size)) _ _ _
 have made:(s.heap.push { cls:=.type "list",data:=.seq ([]:List Value).toArray }).get? s.heap.objs.size=some { cls:=.type "list",data:=.seq #[] }:=Heap.get?_push_size _ rfl
 have run:=kdl_extend (A:=A) (s:={ s with heap:=s.heap.push { cls:=.type "list",data:=.seq ([]:List Value).toArray } })
  (R:=fun (z:Result) (t:Shared)=>∃ (g:Heap) (tk:Nat) (got:Array Value) (c:Nat),z=.ok (.ret (.ref s.heap.objs.size))/\t = { s with heap:=g,toks:=tk } /\
   (∀ b o,s.heap.get? b=some o->g.get? b=some o)/\g.get? s.heap.objs.size=some { cls:=.type "list",dict:=none,data:=.seq got c,slots:=#[] }/\ItemsOf P got n)
  src calm (src.keep _ _ ok fun b _ o e=>Heap.get?_push_of_some _ e) s.heap.objs.size (Nat.ne_of_gt lt1) (Nat.ne_of_gt lt2) (.ref s.heap.objs.size) 0 made
  (fun g tk got c kept at_ its=>⟨g,tk,got,c,rfl,rfl,fun b o e=>kept b o (Nat.ne_of_lt (Heap.lt_size e)) (Heap.get?_push_of_some _ e),at_,its⟩) b0
 refine wpAny_mono run (fun z t x=>?_) fun z t ⟨_,_,_,_,bad,_⟩=>by cases bad
 cases z with
 | done f =>
  obtain⟨g,tk,got,c,e,rfl,kept,at_,its⟩:=x
  cases e
  show wpAny _ A (load s.heap.objs.size >>= _) _ _ _
  exact wpAny_bind (wpAny_load at_ (wpAny_pure (fin g tk got kept its (Nat.le_of_lt (Heap.lt_size at_)))))
 | again more =>
  refine⟨x.1,codeAny_mono x.2 fun z' t' ⟨g,tk,got,c,e1,e2,kept,at_,its⟩=>?_⟩
  subst e1 e2
  show wpAny _ A (load s.heap.objs.size >>= _) _ _ _
  exact wpAny_bind (wpAny_load at_ (wpAny_pure (fin g tk got kept its (Nat.le_of_lt (Heap.lt_size at_)))))
theorem qF {a:Addr} {kvs:List (Key × Value)} {ks:List Str} {Q:Value->Shared->Prop} (hh:A.handled=none) (lo:(a == sysModules)=false) (dd:s.heap.DictOf (aG prog w) a kvs)
  (hk:kvs.map (·.1)=ks.map Sum.inr) (h64:ks.length < 64)
  (h:∀ (h':Heap) (tk:Nat) (D:Addr) (out:Array Value) (ss':List Str) (e:Nat),(∀ b o,s.heap.get? b=some o->h'.get? b=some o)->s.heap.objs.size<=D->h'.get? D=some { cls:=.type "list",data:=.seq out e } ->
   StrsAre out.toList ss'->ss'.Perm ks->sortedS ss' = true->Q (.ref D) { s with heap:=h',toks:=tk }) :
  wpAny (model prog w) A (call (.builtin "sorted") [.ref a]) Q E s:=by
 refine Calls.call_function_entry kind_sorted plain_sorted entry_sorted (args_sorted1 _) ?_
 unfold Builtin.«sorted»
 refine wpAny_bind (m:=checkCount "sorted" 1 1 _) (wpAny_pure ?_)
 obtain⟨ep,hat⟩:=dd.dictAt
 have hlk:kvs.length=ks.length:=by have:=congrArg List.length hk;simpa using this
 have hs:sizeLine=16777216\/64<=sizeLine:=.inr (by decide)
 have hz:kvs.length<=sizeLine:=by rw [hlk];exact Nat.le_trans (Nat.le_of_lt h64) (by decide)
 refine wpAny_bind (gather (A:=A.in1) (PySem.W.kdl_dict (knd:=aG prog w) (kvs:=kvs) (ep:=ep) lo) hh hat hz fun h' tk acc hkeep hacc hsz=>?_)
 have hl:acc.toList.length=ks.length:=by rw [Array.length_toList,hacc.1,hlk]
 have hS:StrsAre acc.toList ks:=mM hl fun j v x h1 h2=>by
  obtain⟨k,y,e1,e2⟩:=hacc.2 j v (by rw [<-Array.getElem?_toList];exact h1)
  have e3:(kvs.map (·.1))[j]? = some k:=by rw [List.getElem?_map,e1];rfl
  rw [hk,List.getElem?_map,h2] at e3
  cases (Option.some.inj e3)
  exact lq e2
 refine wpAny_bind (wpAny_newList ?_ (by rw [hl];exact Nat.le_trans (Nat.le_of_lt h64) (by decide)))
 have hoL:(h'.push (seqObj "list" acc.toList.toArray 0)).get? h'.objs.size=some (seqObj "list" acc.toList.toArray 0):=Heap.get?_push_size _ rfl
 refine wpAny_bind (wpAny_holding (wpAny_call_entry slot_list_sort ⟨_,hoL,rfl⟩ entry_list_sort (list_sort_treeK strKind_oneLt hoL hS.keysOf (fun v₁ v₂ rest e=>keyKind_strs (by rw [<-e];exact hS)) (by rw [hl];exact h64) fun st' a1 a2=>⟨_,rfl,?_⟩) (args_list_sort _)))
 obtain⟨ss',b1,b2,b3⟩:=sorted_out_str hS a1 a2
 obtain⟨e,he⟩:=sortedHeap_at (out:=(arrOf st').map (·.2)) hoL
 refine wpAny_pure ⟨_,rfl,h _ tk _ _ ss' e (fun b o ho=>?_) hsz he b1 b2 b3⟩
 have h1:=hkeep b o ho
 have hlt:=Heap.lt_size h1
 rw [sortedHeap_old (Nat.ne_of_lt hlt) (by rw [size_push'];exact Nat.lt_succ_of_lt hlt)]
 exact Heap.get?_push_of_some _ h1
end
theorem nR:∀ {us:List Value} {ys:List Str},StrsAre us ys->Vals (ys.map V.str) us
 | _,_,.nil=>.nil
 | _,_,.cons x t r=>.cons ⟨t,rfl⟩ (nR r)
section
variable {X:Cx}
theorem qG (hc:X.calm=true):cJ X (.builtin "sorted") (fun vs H Q=>∃ (a:Addr) (kvs:List (Key × V)) (ks:List Str),vs = [.ref a]/\H a=some (.dK kvs)/\kvs.map (·.1)=ks.map Sum.inr/\ks.length < 64 /\
  ∀ (l:Addr) (ss:List Str),ss.Perm ks->sortedS ss=true->H l=none->Q (.ref l) (upd H l (.lst (ss.map V.str)))):=by
 intro pins s σ H xs us Q I r h
 obtain⟨a,kvs,ks,rfl,ha,hk,h64,q⟩:=h
 obtain⟨u,rfl,ru⟩:=vals1 r
 cases (show u=Value.ref a from ru)
 obtain⟨z,hd,vs,rel,dd⟩:=uG I.aJ ha
 refine qF (I.ok.hd hc) hd dd (by rw [<-rel.keys];exact hk) h64 fun h' tk D out ss' e hkeep hD he hS hp hs=>?_
 have hv:Vals (ss'.map V.str) out.toList:=nR hS
 refine⟨.ref D,_,I.laid (t':=tk) (o:=.lst (ss'.map V.str)) hkeep hD (show bC X.prog X.w _ h' _ (.lst (ss'.map V.str)) from ⟨?_,out.toList,e,hv,by simpa using he⟩),rfl,q D ss' hp hs (I.aJ.fresh hD)⟩
 rw [List.length_map,hp.length_eq]
 exact Nat.le_trans (Nat.le_of_lt h64) (by decide)
end
section
variable {X:Cx}
end
theorem sub_len {α : Type} [DecidableEq α]:∀ {l m:List α},l.Nodup->(∀ x ∈ l,x ∈ m)->l.length<=m.length
 | [],_,_,_=>Nat.zero_le _
 | x :: l,m,nd,h=>by
  rw [List.nodup_cons] at nd
  have hx:=h x (List.mem_cons_self ..)
  have h1:=sub_len (l:=l) (m:=m.erase x) nd.2 fun y hy=>(List.mem_erase_of_ne (fun z=>nd.1 (by rw [<-z];exact hy))).mpr (h y (List.mem_cons_of_mem _ hy))
  rw [List.length_erase_of_mem hx] at h1
  have h2:0 < m.length:=List.length_pos_of_mem hx
  show l.length+1<=m.length
  omega
theorem eZ:bootBuiltins "sorted" = some (.builtin "sorted"):=PyProof.Rows.boot_sorted
theorem oP {kvs:List (Key × V)} {k:Key} {v:V}:(putK kvs k v).map (·.1)=kvs.map (·.1)/\k ∈ kvs.map (·.1)\/(putK kvs k v).map (·.1)=kvs.map (·.1) ++ [k]/\¬ k ∈ kvs.map (·.1):=by
 unfold putK
 by_cases h:(kvs.any fun kv=>decide (kv.1=k))=true
 ·rw [if_pos h]
  refine .inl ⟨?_,?_⟩
  ·rw [List.map_map]
   refine List.map_congr_left fun p _=>?_
   show (if p.1=k then (p.1,v) else p).1=p.1
   split <;> rfl
  ·obtain⟨p,hp,he⟩:=List.any_eq_true.mp h
   exact List.mem_map.mpr ⟨p,hp,of_decide_eq_true he⟩
 ·rw [if_neg h]
  refine .inr ⟨by rw [List.map_append];rfl,fun hm=>h ?_⟩
  obtain⟨p,hp,he⟩:=List.mem_map.mp hm
  exact List.any_eq_true.mpr ⟨p,hp,decide_eq_true he⟩
def mN:cG->Str
 | .put x _=>x
 | .copy x _=>x
 | .add x _=>x
 | .read x=>x
 | .tell x=>x
theorem ya (dd:cG):fE (p7 dd) 1=some (.str (mN dd)):=by cases dd <;> exact eX
theorem eF.name {xs:List Str} {dd:cG} (h:eF xs dd):mN dd ∈ xs:=by
 cases dd with
 | put x n=>exact h.1
 | copy x y=>exact h.1
 | add x n=>exact h.1
 | read x=>exact h
 | tell x=>exact h
section
variable {X:Cx}
end
section
variable {a0 a1 z:V}
end
section
variable {C D:Addr} {H H':Hp} {wp p pl d nl sl:Addr} {plv:V} {nums:List Int} {S:RS} {m:Nat}
end
section
variable (C D:Addr)
end
section
variable {C D:Addr} {H H':Hp} {wp p pl d nl sl st d2 tl bl np:Addr} {plv:V} {nums nums':List Int} {S S':RS} {m m':Nat}
end
section
variable (C D:Addr)
end
section
variable {C D:Addr} {H0 H H1 H2:Hp} {wp p pl d nl sl st st' d2 tl bl np b:Addr} {plv:V} {nums more:List Int} {S S':RS} {m m':Nat}
end
section
variable {X:Cx}
inductive Ca  (x:V) (y:V) (H:Hp) (Q:VK):Prop
 | mk (a b xs ys:_) (_:x=.ref a) (_:y=.ref b) (_:H a=some (.tup xs)) (_:H b=some (.tup ys)) (_:xs.length+ys.length<=sizeLine) (_:∀ t H',H' t=some (.tup (xs++ys))->ae H H'->Q (.ref t) H')
theorem zS:cY X (binaryOp .Add) Ca:=by
 intro pins s σ H x y v u Q I rx ry h
 obtain⟨a,b,xs,ys,rfl,rfl,ha,hb,hz,q⟩:=h
 cases rx
 cases ry
 obtain⟨its,r1,p1,_⟩:=I.tuple (av.of ha)
 obtain⟨its2,r2,p2,_⟩:=I.tuple (av.of hb)
 by_cases hx:xs = []
 ·subst hx
  have hi:its = []:=r1.nK.mpr rfl
  subst hi
  obtain⟨⟨cls,dd,data,sl⟩,ho,hc,n,hd⟩:=id p1
  obtain⟨⟨cls2,dd2,data2,sl2⟩,ho2,hc2,n2,hd2⟩:=id p2
  simp only at hc hd hc2 hd2
  subst hc hd hc2 hd2
  exact concat_meets ⟨_,ho,rfl⟩ ⟨_,ho2,rfl⟩ noFill_tuple_add seq_tuple_add PySem.F.slot_tuple_add PySem.F.entry_tuple_add (PySem.F.args_tuple_add_2 _ _)
   (tuple_addW0 a b [].toArray its2.toArray n n2 dd dd2 sl sl2 (by simp)) ⟨ho,ho2,⟨.ref b,H,I,rfl,q b H hb (ae.refl H)⟩⟩
 ·refine HT.zI p1 p2 (fun z=>hx (r1.nK.mp z)) (fun z=>⟨.ref a,H,I,rfl,q a H (by rw [r2.nK.mp z,List.append_nil];exact ha) (ae.refl H)⟩) (fun z=>?_) (by rw [<-r1.length,<-r2.length];exact hz)
  have fr:=I.aJ.fresh (a:=s.heap.objs.size) (Nat.le_refl _)
  refine⟨.ref s.heap.objs.size,_,I.laid (t':=s.toks) (o:=.tup (xs++ys)) (fun b ob q=>Heap.get?_push_of_some _ q) (Nat.le_refl _) ?_,rfl,q _ _ aa (ae.new fr)⟩
  exact⟨by rw [List.length_append];exact hz,_,r1.append r2,⟨_,Heap.get?_push_size _ rfl,rfl,_,rfl,rfl⟩⟩
end
section
variable {ps:List Piece} {nums more:List Int} {S S0:RS} {m n:Nat}
end
section
variable {ps:List Piece} {nums more:List Int} {S:RS} {m n:Nat}
end
inductive Call where
 | hand (ns:List Int)
 | go (n:Nat)
structure Bj where
 S:RS
 nums:List Int
 m:Nat
structure WA where
 wp:Addr
 p:Addr
 pl:Addr
 d:Addr
 nl:Addr
 sl:Addr
section
variable {C D:Addr} {H H' H0:Hp} {x y:WA} {pv pv':V} {s s':Bj} {c:Addr} {o:HO}
end
section
variable (C D:Addr)
end
section
variable {C D:Addr} {H0 H H1:Hp} {w0 w1 w2:WA} {wl cl nb:Addr} {plv ov:V} {x0 x1 x2 x':Bj} {n0 n1 n':List Int} {vs:List V} {cs:List Call}
end
section
variable {prog:Program} {w:World} {A:Around} {E:Value->Shared->Prop} {s:Shared}
theorem qH {j t:Addr} {n:Nat} {its:Array Value} {x:Value} {Q:Value->Shared->Prop} (hj:s.heap.IsTupleIter j t n) (ht:s.heap.IsTuple t its) (hx:its[n]? = some x)
  (hQ:∀ g,g.IsTupleIter j t (n+1)->Heap.SameBut j s.heap g->Q x { s with heap:=g }):wpAny (model prog w) A (Builtin.SmallTypes.nextOf (.ref j)) Q E s:=by
 obtain⟨ob,eo,ec,ed⟩:=id hj
 obtain⟨ot,et,_,k,ek⟩:=ht
 unfold Builtin.SmallTypes.nextOf
 refine wpAny_bind (wpAny_callSpecial?_slot (name:=Str.ofString "__next__") hj.typeIs F.slot_tuple_iterator_next (wpAny_call_entry F.slot_tuple_iterator_next hj.typeIs F.entry_tuple_iterator_next ?_ (F.args_tuple_iterator_next_1 _)))
 show wpAny _ _ (field (.ref j) 0 >>= _) _ _ s
 refine wpAny_bind (wpAny_field eo ed (x:=.ref t) rfl ?_)
 show wpAny _ _ (if (Value.ref t == Value.none)=true then _ else _) _ _ s
 refine (if_neg (c:=(Value.ref t == Value.none)=true) Bool.false_ne_true) ▸ ?_
 show wpAny _ _ (field (.ref j) 1 >>= _) _ _ s
 refine wpAny_bind (wpAny_field eo ed (x:=.int n 0) rfl (wpAny_bind (wpAny_seqItems et ek ?_)))
 simp only [hx,Int.toNat_natCast]
 refine wpAny_bind (wpAny_setField eo ed (by simp) (wpAny_pure ⟨x,rfl,wpAny_pure (hQ _ ⟨_,Heap.get?_update_self _ eo (Obj.isFreed_of_fields (Obj.data_mapFields ed _)),(Obj.cls_mapFields ..).trans ec,?_⟩ (Heap.SameBut.update ..))⟩))
 rw [Obj.data_mapFields ed];simp [rawInt]
theorem tG {j t:Addr} {n:Nat} {its:Array Value} {Q:Value->Shared->Prop} (ha:A.handled=none) (hj:s.heap.IsTupleIter j t n) (ht:s.heap.IsTuple t its) (hx:its[n]? = none)
    (hE:∀ g e,Heap.ExtBut j s.heap g->(∃ o,g.get? e=some o/\o.cls=.type "StopIteration")->E (.ref e) { s with heap:=g }):wpAny (model prog w) A (Builtin.SmallTypes.nextOf (.ref j)) Q E s:=by
  obtain⟨ob,eo,ec,ed⟩:=id hj
  obtain⟨ot,et,_,k,ek⟩:=ht
  unfold Builtin.SmallTypes.nextOf
  refine wpAny_bind (wpAny_callSpecial?_slot (name:=Str.ofString "__next__") hj.typeIs F.slot_tuple_iterator_next (wpAny_call_entry F.slot_tuple_iterator_next hj.typeIs F.entry_tuple_iterator_next ?_ (F.args_tuple_iterator_next_1 _)))
  show wpAny _ _ (field (.ref j) 0 >>= _) _ _ s
  refine wpAny_bind (wpAny_field eo ed (x:=.ref t) rfl ?_)
  show wpAny _ _ (if (Value.ref t == Value.none)=true then _ else _) _ _ s
  refine (if_neg (c:=(Value.ref t == Value.none)=true) Bool.false_ne_true) ▸ ?_
  show wpAny _ _ (field (.ref j) 1 >>= _) _ _ s
  refine wpAny_bind (wpAny_field eo ed (x:=.int n 0) rfl (wpAny_bind (wpAny_seqItems et ek ?_)))
  simp only [hx,Int.toNat_natCast]
  refine wpAny_bind (wpAny_rule (wpAny_bind (wpAny_setField eo ed (by simp) ?_)))
  show wpAny _ _ (newExc (.type "StopIteration") [] >>= fun _=>_) _ _ _
  refine wpAny_bind ?_
  simp only [newTuple,newExc]
  refine wpAny_bind (wpAny_newObj_type (wpAny_bind (m:=firstArgMember _ _) (wpAny_of_eq (a:=Value.none) (by first | rfl | (simp only [firstArgMember];rfl)) (wpAny_newObj_type ?_ (by size_fits)))) (by size_fits))
  simp only [raiseNew]
  refine wpAny_bind (wpAny_handled (by
    first | rw [show A.in1.handled=none from ha] | rw [ha]
    exact wpAny_bind (wpAny_pure (wpAny_throw (hE _ _ (((Heap.SameBut.update ..).extBut.push _).push _) ⟨_,Heap.get?_push_size _ rfl,rfl⟩)))))
structure tH (z p q j k a b:Addr):Prop where
 pz:p ≠ z
 qz:q ≠ z
 jz:j ≠ z
 kz:k ≠ z
 pq:p ≠ q
 pj:p ≠ j
 pk:p ≠ k
 qj:q ≠ j
 qk:q ≠ k
 jk:j ≠ k
 az:a ≠ z
 aq:a ≠ q
 aj:a ≠ j
 ak:a ≠ k
 bz:b ≠ z
 bq:b ≠ q
 bj:b ≠ j
 bk:b ≠ k
theorem gK {h g:Heap} {a:Addr} {xs:Array Value} (x:h.IsTuple a xs) (k:∀ o,h.get? a=some o->g.get? a=some o):g.IsTuple a xs:=by
 obtain⟨o,e,r⟩:=x
 exact⟨o,k o e,r⟩
theorem zT {z p q j k a b:Addr} {m n:Nat} {xs ys:Array Value} {x y u v:Value} {Q:Value->Shared->Prop} (D:tH z p q j k a b)
  (gz:IsZip s.heap z p q .none) (gp:IsPair s.heap p (.ref j) (.ref k)) (gq:IsPair s.heap q u v)
  (gj:s.heap.IsTupleIter j a m) (gk:s.heap.IsTupleIter k b n) (ga:s.heap.IsTuple a xs) (gb:s.heap.IsTuple b ys) (hx:xs[m]? = some x) (hy:ys[n]? = some y)
  (hQ:∀ g,IsZip g z p q (rawInt s.heap.objs.size)->IsPair g q x y->g.IsTupleIter j a (m+1)->g.IsTupleIter k b (n+1)->IsPair g s.heap.objs.size x y->g.objs.size=s.heap.objs.size+1 ->
   (∀ c o,c ≠ z->c ≠ q->c ≠ j->c ≠ k->s.heap.get? c=some o->g.get? c=some o)->Q (.ref s.heap.objs.size) { s with heap:=g }) :
  wpAny (model prog w) A (Builtin.«zip.__next__» ⟨[.ref z],[]⟩) (fun fin s'=>∃ v,fin=.done (.ret v)/\Q v s') E s:=by
 show wpAny _ _ (field (.ref z) 2 >>= fun _=>_) _ _ _
 refine wpAny_bind (wpAny_field gz rfl (x:=.bool false) rfl ?_)
 show wpAny _ _ (field (.ref z) 3 >>= fun _=>_) _ _ _
 refine wpAny_bind (wpAny_field gz rfl (x:=.ref p) rfl (wpAny_bind (wpAny_seqItems gp rfl ?_)))
 show wpAny _ _ (Builtin.SmallTypes.ownedTupleIsFree (.ref z) >>= fun _=>_) _ _ _
 refine wpAny_bind ?_
 unfold Builtin.SmallTypes.ownedTupleIsFree
 refine wpAny_bind (wpAny_field gz rfl (x:=.none) rfl (wpAny_pure ?_))
 simp only [if_true]
 refine wpAny_bind (wpAny_rule (wpAny_bind (wpAny_field gz rfl (x:=.ref q) rfl (wpAny_bind (wpAny_setField_rec gz (by simp) fun g1 gz1 t1=>?_)))))
 replace gz1:IsZip g1 z p q .ellipsis:=gz1
 refine wpAny_bind ?_
 simp only [List.forIn_cons,List.forIn_nil,List.zipIdx_cons,List.zipIdx_nil]
 refine wpAny_bind (wpAny_bind (wpAny_onRaise ?_))
 show wpAny _ _ (Builtin.SmallTypes.nextOf (.ref j) >>= fun _=>_) _ _ _
 refine wpAny_bind (qH (gj.extBut t1.extBut D.jz) (gK ga fun o e=>t1.extBut _ _ D.az e) hx fun g2 gj2 t2=>wpAny_pure ?_)
 have gq2:IsPair g2 q u v:=t2.extBut _ _ D.qj (t1.extBut _ _ D.qz gq)
 refine wpAny_bind (wpAny_seqItems gq2 rfl (wpAny_bind (wpAny_updateSeq_pair gq2 fun g3 gq3 t3=>?_)))
 replace gq3:IsPair g3 q x v:=gq3
 refine wpAny_bind (wpAny_letGo (wpAny_pure (wpAny_bind (wpAny_bind (wpAny_onRaise ?_)))))
 show wpAny _ _ (Builtin.SmallTypes.nextOf (.ref k) >>= fun _=>_) _ _ _
 refine wpAny_bind (qH (((gk.extBut t1.extBut D.kz).extBut t2.extBut D.jk.symm).extBut t3.extBut D.qk.symm) (gK gb fun o e=>t3.extBut _ _ D.bq (t2.extBut _ _ D.bj (t1.extBut _ _ D.bz e))) hy fun g4 gk4 t4=>wpAny_pure ?_)
 have gq4:IsPair g4 q x v:=t4.extBut _ _ D.qk gq3
 refine wpAny_bind (wpAny_seqItems gq4 rfl (wpAny_bind (wpAny_updateSeq_pair gq4 fun g5 gq5 t5=>?_)))
 replace gq5:IsPair g5 q x y:=gq5
 refine wpAny_bind (wpAny_letGo (wpAny_pure (wpAny_pure (wpAny_bind (wpAny_seqItems gq5 rfl (wpAny_bind (wpAny_newTuple ?_)))))))
 have ez:g5.objs.size=s.heap.objs.size:=by rw [t5.1,t4.1,t3.1,t2.1,t1.1]
 have gz5:IsZip g5 z p q .ellipsis:=t5.extBut _ _ D.qz.symm (t4.extBut _ _ D.kz.symm (t3.extBut _ _ D.qz.symm (t2.extBut _ _ D.jz.symm gz1)))
 have k5:∀ c o,c ≠ z->c ≠ q->c ≠ j->c ≠ k->s.heap.get? c=some o->g5.get? c=some o:=fun c o c1 c2 c3 c4 e=>t5.extBut _ _ c2 (t4.extBut _ _ c4 (t3.extBut _ _ c2 (t2.extBut _ _ c3 (t1.extBut _ _ c1 e))))
 have gj5:g5.IsTupleIter j a (m+1):=((gj2.extBut t3.extBut D.qj.symm).extBut t4.extBut D.jk).extBut t5.extBut D.qj.symm
 have gk5:g5.IsTupleIter k b (n+1):=gk4.extBut t5.extBut D.qk.symm
 have lz:z < g5.objs.size:=Heap.lt_size gz5
 show wpAny _ _ (Builtin.SmallTypes.ownedTupleHandOut (.ref z) (.ref g5.objs.size) >>= fun _=>_) _ _ _
 refine wpAny_bind ?_
 unfold Builtin.SmallTypes.ownedTupleHandOut
 have gz6:IsZip (g5.push { cls:=.type "tuple",data:=.seq #[x,y] }) z p q .ellipsis:=Heap.get?_push_of_some _ gz5
 refine wpAny_bind (wpAny_setField_rec gz6 (by simp) fun g7 gz7 t7=>?_)
 replace gz7:IsZip g7 z p q (rawInt g5.objs.size):=gz7
 refine wpAny_setField_rec gz7 (by simp) fun g8 gz8 t8=>?_
 replace gz8:IsZip g8 z p q (rawInt g5.objs.size):=gz8
 have up:∀ c o,c ≠ z->g5.get? c=some o->g8.get? c=some o:=fun c o c1 e=>t8.extBut _ _ c1 (t7.extBut _ _ c1 (Heap.get?_push_of_some _ e))
 have gT:IsPair g8 g5.objs.size x y:=t8.extBut _ _ (Nat.ne_of_gt lz) (t7.extBut _ _ (Nat.ne_of_gt lz) (Heap.get?_push_size _ rfl))
 have e8:g8.objs.size=g5.objs.size+1:=by rw [t8.1,t7.1,Heap.size_push]
 rw [ez] at gz8 gT e8
 refine wpAny_pure ⟨_,rfl,?_⟩
 show Q (.ref g5.objs.size) _
 rw [ez]
 refine hQ g8 gz8 (up _ _ D.qz gq5) ?_ ?_ gT e8 fun c o c1 c2 c3 c4 e=>up c o c1 (k5 c o c1 c2 c3 c4 e)
 ·obtain⟨o,e,r⟩:=gj5
  exact⟨o,up _ _ D.jz e,r⟩
 ·obtain⟨o,e,r⟩:=gk5
  exact⟨o,up _ _ D.kz e,r⟩
theorem Bk {z p q j k a b:Addr} {m n:Nat} {xs ys:Array Value} {u v:Value} {Q:Fin->Shared->Prop} (ha:A.handled=none) (D:tH z p q j k a b)
  (gz:IsZip s.heap z p q .none) (gp:IsPair s.heap p (.ref j) (.ref k)) (gq:IsPair s.heap q u v)
  (gj:s.heap.IsTupleIter j a m) (gk:s.heap.IsTupleIter k b n) (ga:s.heap.IsTuple a xs) (gb:s.heap.IsTuple b ys) (hend:xs[m]? = none\/ys[n]? = none)
  (hE:∀ g e,(∀ c o,c ≠ z->c ≠ q->c ≠ j->c ≠ k->s.heap.get? c=some o->g.get? c=some o)->(∃ o,g.get? e=some o/\o.cls=.type "StopIteration")->E (.ref e) { s with heap:=g }) :
  wpAny (model prog w) A (Builtin.«zip.__next__» ⟨[.ref z],[]⟩) Q E s:=by
 show wpAny _ _ (field (.ref z) 2 >>= fun _=>_) _ _ _
 refine wpAny_bind (wpAny_field gz rfl (x:=.bool false) rfl ?_)
 show wpAny _ _ (field (.ref z) 3 >>= fun _=>_) _ _ _
 refine wpAny_bind (wpAny_field gz rfl (x:=.ref p) rfl (wpAny_bind (wpAny_seqItems gp rfl ?_)))
 show wpAny _ _ (Builtin.SmallTypes.ownedTupleIsFree (.ref z) >>= fun _=>_) _ _ _
 refine wpAny_bind ?_
 unfold Builtin.SmallTypes.ownedTupleIsFree
 refine wpAny_bind (wpAny_field gz rfl (x:=.none) rfl (wpAny_pure ?_))
 simp only [if_true]
 refine wpAny_bind (wpAny_rule (wpAny_bind (wpAny_field gz rfl (x:=.ref q) rfl (wpAny_bind (wpAny_setField_rec gz (by simp) fun g1 gz1 t1=>?_)))))
 replace gz1:IsZip g1 z p q .ellipsis:=gz1
 refine wpAny_bind ?_
 simp only [List.forIn_cons,List.forIn_nil,List.zipIdx_cons,List.zipIdx_nil]
 refine wpAny_bind (wpAny_bind (wpAny_onRaise ?_))
 show wpAny _ _ (Builtin.SmallTypes.nextOf (.ref j) >>= fun _=>_) _ _ _
 cases hx:xs[m]? with
 | none =>
  refine wpAny_bind (tG ha (gj.extBut t1.extBut D.jz) (gK ga fun o e=>t1.extBut _ _ D.az e) hx fun g2 e t2 he=>?_)
  obtain⟨oe,eoe,ce⟩:=he
  have gz2:IsZip g2 z p q .ellipsis:=t2 _ _ D.jz.symm gz1
  have ne:e ≠ z:=fun x=>by subst x;rw [gz2] at eoe;cases eoe;simp at ce
  exact wpAny_setField_rec gz2 (by simp) fun g3 _ t3=>hE g3 e (fun c o c1 _ c3 _ x=>t3.extBut _ _ c1 (t2 _ _ c3 (t1.extBut _ _ c1 x))) ⟨oe,t3.extBut _ _ ne eoe,ce⟩
 | some x =>
  have hy:ys[n]? = none:=hend.elim (fun h=>by rw [hx] at h;cases h) id
  refine wpAny_bind (qH (gj.extBut t1.extBut D.jz) (gK ga fun o e=>t1.extBut _ _ D.az e) hx fun g2 gj2 t2=>wpAny_pure ?_)
  have gq2:IsPair g2 q u v:=t2.extBut _ _ D.qj (t1.extBut _ _ D.qz gq)
  refine wpAny_bind (wpAny_seqItems gq2 rfl (wpAny_bind (wpAny_updateSeq_pair gq2 fun g3 gq3 t3=>?_)))
  refine wpAny_bind (wpAny_letGo (wpAny_pure (wpAny_bind (wpAny_bind (wpAny_onRaise ?_)))))
  show wpAny _ _ (Builtin.SmallTypes.nextOf (.ref k) >>= fun _=>_) _ _ _
  refine wpAny_bind (tG ha (((gk.extBut t1.extBut D.kz).extBut t2.extBut D.jk.symm).extBut t3.extBut D.qk.symm) (gK gb fun o e=>t3.extBut _ _ D.bq (t2.extBut _ _ D.bj (t1.extBut _ _ D.bz e))) hy fun g4 e t4 he=>?_)
  obtain⟨oe,eoe,ce⟩:=he
  have gz4:IsZip g4 z p q .ellipsis:=t4 _ _ D.kz.symm (t3.extBut _ _ D.qz.symm (t2.extBut _ _ D.jz.symm gz1))
  have ne:e ≠ z:=fun x=>by subst x;rw [gz4] at eoe;cases eoe;simp at ce
  exact wpAny_setField_rec gz4 (by simp) fun g5 _ t5=>hE g5 e (fun c o c1 c2 c3 c4 x=>t5.extBut _ _ c1 (t4 _ _ c4 (t3.extBut _ _ c2 (t2.extBut _ _ c3 (t1.extBut _ _ c1 x))))) ⟨oe,t5.extBut _ _ ne eoe,ce⟩
theorem zU {z p q j k a b:Addr} {m n:Nat} {xs ys:Array Value} {x y u v:Value} {Q:Option Value->Shared->Prop} (D:tH z p q j k a b)
  (gz:IsZip s.heap z p q .none) (gp:IsPair s.heap p (.ref j) (.ref k)) (gq:IsPair s.heap q u v)
  (gj:s.heap.IsTupleIter j a m) (gk:s.heap.IsTupleIter k b n) (ga:s.heap.IsTuple a xs) (gb:s.heap.IsTuple b ys) (hx:xs[m]? = some x) (hy:ys[n]? = some y)
  (hQ:∀ g,IsZip g z p q (rawInt s.heap.objs.size)->IsPair g q x y->g.IsTupleIter j a (m+1)->g.IsTupleIter k b (n+1)->IsPair g s.heap.objs.size x y->g.objs.size=s.heap.objs.size+1 ->
   (∀ c o,c ≠ z->c ≠ q->c ≠ j->c ≠ k->s.heap.get? c=some o->g.get? c=some o)->Q (some (.ref s.heap.objs.size)) { s with heap:=g }) :
  wpAny (model prog w) A (pyNext (.ref z)) Q E s:=by
 have ty:s.TypeIs (.ref z) "zip" := ⟨_,gz,rfl⟩
 unfold pyNext
 exact wpAny_bind (wpAny_attempt (wpAny_callSpecial?_slot (name:=Str.ofString "__next__") ty F.slot_zip_next (wpAny_call_entry F.slot_zip_next ty F.entry_zip_next
   (zT D gz gp gq gj gk ga gb hx hy fun g a1 a2 a3 a4 a5 a6 a7=>wpAny_pure (hQ g a1 a2 a3 a4 a5 a6 a7)) (F.args_zip_next_1 _))))
theorem zV {z p q j k a b:Addr} {m n:Nat} {xs ys:Array Value} {u v:Value} {Q:Option Value->Shared->Prop} (ha:A.handled=none) (D:tH z p q j k a b)
  (gz:IsZip s.heap z p q .none) (gp:IsPair s.heap p (.ref j) (.ref k)) (gq:IsPair s.heap q u v)
  (gj:s.heap.IsTupleIter j a m) (gk:s.heap.IsTupleIter k b n) (ga:s.heap.IsTuple a xs) (gb:s.heap.IsTuple b ys) (hend:xs[m]? = none\/ys[n]? = none)
  (hQ:∀ g,(∀ c o,c ≠ z->c ≠ q->c ≠ j->c ≠ k->s.heap.get? c=some o->g.get? c=some o)->Q none { s with heap:=g }):wpAny (model prog w) A (pyNext (.ref z)) Q E s:=by
 have ty:s.TypeIs (.ref z) "zip" := ⟨_,gz,rfl⟩
 unfold pyNext
 refine wpAny_bind (wpAny_attempt (wpAny_callSpecial?_slot (name:=Str.ofString "__next__") ty F.slot_zip_next (wpAny_call_entry F.slot_zip_next ty F.entry_zip_next
   (Bk ha D gz gp gq gj gk ga gb hend fun g e hk he=>?_) (F.args_zip_next_1 _))))
 obtain⟨o,eo,ec⟩:=he
 exact wpAny_bind (wpAny_isInstance (T := "StopIteration") (b:=true) ⟨o,eo,ec⟩ isSubtype_stop (wpAny_pure (hQ _ hk)))
abbrev wj (h:Heap) (a:Addr):Heap:=h.push { cls:=.type "tuple_iterator",data:=.fields #[.ref a,.int 0 0] }
abbrev zi (h:Heap) (a b:Addr):Heap:=(wj h a).push { cls:=.type "tuple_iterator",data:=.fields #[.ref b,.int 0 0] }
abbrev zj (h:Heap) (a b:Addr):Heap:=(zi h a b).push { cls:=.type "tuple",data:=.seq #[.ref h.objs.size,.ref (wj h a).objs.size] }
abbrev zk (h:Heap) (a b:Addr):Heap:=(zj h a b).push { cls:=.type "tuple",data:=.seq #[.none,.none] }
abbrev tI (h:Heap) (a b:Addr):Heap:=(zk h a b).push { cls:=.type "zip",data:=.fields #[.none,.bool false,.bool false,.ref (zi h a b).objs.size,.ref (zj h a b).objs.size] }
theorem Bm (a b:Addr) (xs ys:Array Value):Meets (Builtin.«zip.__new__» ⟨[.type "zip",.ref a,.ref b],[]⟩) (fun _ R s=>s.heap.IsTuple a xs/\s.heap.IsTuple b ys /\
   R (.ok (.ret (.ref (zk s.heap a b).objs.size))) { s with heap:=tI s.heap a b }) :=
 .of_wp fun P w' A' R' s' hh=>by
  obtain⟨hp,g,d,tk,os⟩:=s'
  obtain⟨ga,gb,hh⟩:=hh
  have hsub:=sub_zip
  have la:Heap.IsTuple (Shared.heap ⟨hp,g,d,tk,os⟩) a xs:=ga
  have lb:Heap.IsTuple (Shared.heap ⟨wj hp a,g,d,tk,os⟩) b ys:=gK gb fun o e=>Heap.get?_push_of_some _ e
  wp_walk using wpAny_pyIter_tuple la,wpAny_pyIter_tuple lb
  exact⟨_,rfl,hh⟩
theorem zW {a b:Addr} {xs ys:Array Value} {Q:Value->Shared->Prop} (ga:s.heap.IsTuple a xs) (gb:s.heap.IsTuple b ys)
  (h:∀ g,IsZip g (s.heap.objs.size+4) (s.heap.objs.size+2) (s.heap.objs.size+3) .none->IsPair g (s.heap.objs.size+2) (.ref s.heap.objs.size) (.ref (s.heap.objs.size+1)) ->
   IsPair g (s.heap.objs.size+3) .none .none->g.IsTupleIter s.heap.objs.size a 0->g.IsTupleIter (s.heap.objs.size+1) b 0 ->
   (∀ c o,s.heap.get? c=some o->g.get? c=some o)->Q (.ref (s.heap.objs.size+4)) { s with heap:=g }) :
  wpAny (model prog w) A (call (.type "zip") [.ref a,.ref b]) Q E s:=by
 refine callType_new F.called_zip (by decide) (F.typeCall_zip_2 _ _) (F.newCall_zip_2 _ _) (fun obj=>F.args_object_init_3 obj _ _) F.entry_zip_new (Bm a b xs ys) ⟨ga,gb,?_⟩
 have z1:(wj s.heap a).objs.size=s.heap.objs.size+1:=Heap.size_push ..
 have z2:(zi s.heap a b).objs.size=s.heap.objs.size+2:=by rw [Heap.size_push,z1]
 have z3:(zj s.heap a b).objs.size=s.heap.objs.size+3:=by rw [Heap.size_push,z2]
 have z4:(zk s.heap a b).objs.size=s.heap.objs.size+4:=by rw [Heap.size_push,z3]
 have up:∀ {h:Heap} {c:Addr} {o o':Obj},h.get? c=some o->(h.push o').get? c=some o:=fun e=>Heap.get?_push_of_some _ e
 have q5:(tI s.heap a b).get? (zk s.heap a b).objs.size=some _:=Heap.get?_push_size _ rfl
 have q4:(tI s.heap a b).get? (zj s.heap a b).objs.size=some _:=up (Heap.get?_push_size _ rfl)
 have q3:(tI s.heap a b).get? (zi s.heap a b).objs.size=some _:=up (up (Heap.get?_push_size _ rfl))
 have q2:(tI s.heap a b).get? (wj s.heap a).objs.size=some _:=up (up (up (Heap.get?_push_size _ rfl)))
 have q1:(tI s.heap a b).get? s.heap.objs.size=some _:=up (up (up (up (Heap.get?_push_size _ rfl))))
 show _/\_
 rw [z2,z3,z4] at q5
 rw [z1,z2] at q3
 rw [z3] at q4
 rw [z1] at q2
 rw [z4]
 exact⟨⟨_,q5,rfl⟩,h _ q5 q3 q4 ⟨_,q1,rfl,rfl⟩ ⟨_,q2,rfl,rfl⟩ fun c o x=>up (up (up (up (up x))))⟩
end
section
variable {X:Cx} {pins:List (Addr × Obj)} {σ : List (Option V)} {H H':Hp} {s:Shared} {h':Heap}
theorem Inv.tJ {t':Nat} {fp:List Addr} (I:Inv X pins σ H s) (k:∀ b o,b ∉ fp->s.heap.get? b=some o->h'.get? b=some o) (f:∀ b ∈ fp,gQ X pins H b):Inv X pins σ H { s with heap:=h',toks:=t' }:=by
 have nit:∀ b u,H b=some u->b ∉ fp:=fun b u e z=>by rw [(f b z).1] at e;cases e
 refine I.step (g':=s.gens) (d':=s.drawn) (ch:=fp) (fun b hb=>?_) (fun b o _ _ hc e _=>k b o hc e) (fun b o _ _ hc e _=>⟨o.slots,k b o hc e⟩) (fun _ _ _ _ n=>n)
  (fun b o hc e=>⟨o,k b o hc e⟩) (fun _ _ e=>e) (fun _ _ _ e=>e) (fun b ps e=>⟨#[],by rw [e];simp⟩) (fun m hm=>?_) (fun b u e=>?_) I.bare
 ·obtain⟨f0,f1,f2,f3,f4,f5⟩:=f b hb
  exact⟨f3,f1,f4,f5⟩
 ·obtain⟨o,es,ep,ho,r⟩:=hm
  exact⟨o,es,ep,k _ o (fun z=>(f _ z).2.1 rfl) ho,r⟩
 ·refine (I.aJ b u e).nB (fun c v hc q=>k c v ?_ q) (fun _ q=>q) fun _ _ q=>q
  rcases hc with z | z
  ·rw [z];exact nit b u e
  ·exact nit c _ z
def zl (K:PySem.W.Frag) (a b:Addr):It :=
 ⟨fun i H=>∃ xs ys x y,av K H a xs/\av K H b ys/\xs[i]? = some x/\ys[i]? = some y,
  fun i H v H'=>∃ t x y,v=.ref t/\H t=none/\H' = upd H t (.tup [x,y])/\∀ xs ys,av K H a xs->av K H b ys->xs[i]? = some x/\ys[i]? = some y,
  fun i H=>∃ xs ys,av K H a xs/\av K H b ys/\(xs.length<=i\/ys.length<=i)⟩
theorem yb {P:Program} {w:World} {K:PySem.W.Frag} {elts:List Expr} {kk:Nat} {pos:Pos} (a b z p q j k:Addr) (D:tH z p q j k a b) :
    Turn P w K (.Tuple elts kk pos) (zl K a b) [z,p,q,j,k] z (fun i h=>IsZip h z p q .none/\IsPair h p (.ref j) (.ref k)/\(∃ u v,IsPair h q u v)/\h.IsTupleIter j a i/\h.IsTupleIter k b i) where
  mem:=by simp
  obj:=fun i h st c hc=>by
    obtain⟨gz,gp,⟨u,v,gq⟩,⟨oj,ej,cj,dj⟩,⟨ok,ek,ck,dk⟩⟩:=st
    simp only [List.mem_cons,List.not_mem_nil,or_false] at hc
    rcases hc with rfl | rfl | rfl | rfl | rfl
    · exact⟨_,gz,fun v e=>by cases e⟩
    · exact⟨_,gp,fun v e=>by cases e⟩
    · exact⟨_,gq,fun v e=>by cases e⟩
    · exact⟨oj,ej,fun v e=>by rw [dj] at e;cases e⟩
    · exact⟨ok,ek,fun v e=>by rw [dk] at e;cases e⟩
  keep:=fun i h g st kp=>by
    obtain⟨gz,gp,⟨u,v,gq⟩,⟨oj,ej,rj⟩,⟨ok,ek,rk⟩⟩:=st
    exact⟨kp z (by simp) _ gz,kp p (by simp) _ gp,⟨u,v,kp q (by simp) _ gq⟩,⟨oj,kp j (by simp) _ ej,rj⟩,⟨ok,kp k (by simp) _ ek,rk⟩⟩
  item:=by
    intro X hP hw hK hc i pins s σ H E I hf st hg
    subst hP hw hK
    obtain⟨gz,gp,⟨u,v,gq⟩,gj,gk⟩:=st
    obtain⟨xs,ys,x,y,ha,hb,hx,hy⟩:=hg
    obtain⟨is,ra,pa,_⟩:=I.tuple ha
    obtain⟨js,rb,pb,_⟩:=I.tuple hb
    obtain⟨xv,hxv,rx⟩:=ra.get hx
    obtain⟨yv,hyv,ry⟩:=rb.get hy
    have sz:∀ c ∈ [z,p,q,j,k],c ≠ s.heap.objs.size:=fun c hc e=>by
      subst e
      simp only [List.mem_cons,List.not_mem_nil,or_false] at hc
      rcases hc with e | e | e | e | e
      · exact absurd (Heap.lt_size gz) (by rw [<-e];exact Nat.lt_irrefl _)
      · exact absurd (Heap.lt_size gp) (by rw [<-e];exact Nat.lt_irrefl _)
      · exact absurd (Heap.lt_size gq) (by rw [<-e];exact Nat.lt_irrefl _)
      · obtain⟨oj,ej,_⟩:=gj
        exact absurd (Heap.lt_size ej) (by rw [<-e];exact Nat.lt_irrefl _)
      · obtain⟨ok,ek,_⟩:=gk
        exact absurd (Heap.lt_size ek) (by rw [<-e];exact Nat.lt_irrefl _)
    refine zU D gz gp gq gj gk (show s.heap.IsTuple a is.toArray from pa) (show s.heap.IsTuple b js.toArray from pb) (x:=xv) (y:=yv) (by simpa using hxv) (by simpa using hyv) fun g a1 a2 a3 a4 a5 a6 hk=>?_
    refine⟨.ref s.heap.objs.size,rfl,wpAny_letOwnedTupleGo_zip a1 fun g' gz' sb=>?_⟩
    have fr:=I.aJ.fresh (a:=s.heap.objs.size) (Nat.le_refl _)
    have I1:Inv X pins σ (upd H s.heap.objs.size (.tup [x,y])) { s with heap:=s.heap.push { cls:=.type "tuple",data:=.seq #[xv,yv] },toks:=s.toks } :=
      I.laid (fun _ _ e=>Heap.get?_push_of_some _ e) (Nat.le_refl _) ⟨by show 2<=sizeLine;decide,[xv,yv],.cons rx (.cons ry .nil),by first | exact IsTup.new _ _ | exact⟨_,Heap.get?_push_size _ rfl,rfl,_,rfl,rfl⟩⟩
    have f1:∀ c ∈ [z,p,q,j,k],gQ X pins (upd H s.heap.objs.size (.tup [x,y])) c:=fun c hc=>by
      obtain⟨f0,fr'⟩:=hf c hc
      exact⟨by rw [ao (sz c hc)];exact f0,fr'⟩
    have I2:Inv X pins σ (upd H s.heap.objs.size (.tup [x,y])) { s with heap:=g',toks:=s.toks }:=Inv.tJ (s:={ s with heap:=s.heap.push { cls:=.type "tuple",data:=.seq #[xv,yv] },toks:=s.toks }) (fp:=[z,p,q,j,k]) (h':=g') (t':=s.toks) I1 (fun c o hc e=>by
      simp only [List.mem_cons,List.not_mem_nil,or_false,not_or] at hc
      refine sb.extBut _ _ hc.1 ?_
      rcases Heap.get?_push_cases e with ⟨rfl,rfl⟩ | e
      · exact a5
      · exact hk c o hc.1 hc.2.2.1 hc.2.2.2.1 hc.2.2.2.2 e) f1
    refine⟨.ref s.heap.objs.size,_,I2,rfl,⟨_,x,y,rfl,fr,rfl,fun xs' ys' h1 h2=>?_⟩,⟨gz',sb.extBut _ _ D.pz (hk _ _ D.pz D.pq D.pj D.pk gp),⟨xv,yv,sb.extBut _ _ D.qz a2⟩,a3.extBut sb.extBut D.jz,a4.extBut sb.extBut D.kz⟩,fun c hc=>(f1 c hc).1⟩
    rw [I.jJ h1 ha,I.jJ h2 hb]
    exact⟨hx,hy⟩
  done:=by
    intro X hP hw hK hc i pins s σ H E I hf st hg
    subst hP hw hK
    obtain⟨gz,gp,⟨u,v,gq⟩,gj,gk⟩:=st
    obtain⟨xs,ys,ha,hb,hl⟩:=hg
    obtain⟨is,ra,pa,_⟩:=I.tuple ha
    obtain⟨js,rb,pb,_⟩:=I.tuple hb
    have la:=ra.length
    have lb:=rb.length
    have he:is.toArray[i]? = none\/js.toArray[i]? = none:=by
      rcases hl with h | h
      · exact .inl (by simp;omega)
      · exact .inr (by simp;omega)
    exact zV (I.ok.hd hc) D gz gp gq gj gk (show s.heap.IsTuple a is.toArray from pa) (show s.heap.IsTuple b js.toArray from pb) he fun g hk=>⟨rfl,I.tJ (fp:=[z,p,q,j,k]) (t':=s.toks) (fun c o hc e=>by
      simp only [List.mem_cons,List.not_mem_nil,or_false,not_or] at hc
      exact hk c o hc.1 hc.2.2.1 hc.2.2.2.1 hc.2.2.2.2 e) hf⟩
  self:=fun _ _ _ _ _ st h=>wpAny_pyIter_zip st.1 h
theorem Dj {N a b:Nat} (ha:a < N) (hb:b < N):tH (N+4:Nat) (N+2:Nat) (N+3:Nat) N (N+1:Nat) a b :=
 have ne:∀ {u v:Nat},u < v->¬ (u=v):=fun h e=>by omega
 have ne':∀ {u v:Nat},v < u->¬ (u=v):=fun h e=>by omega
 ⟨ne (by omega),ne (by omega),ne (by omega),ne (by omega),ne (by omega),ne' (by omega),ne' (by omega),ne' (by omega),ne' (by omega),ne (by omega),ne (by omega),ne (by omega),ne (by omega),ne (by omega),ne (by omega),ne (by omega),ne (by omega),ne (by omega)⟩
theorem Bn:bootBuiltins "zip" = some (.type "zip"):=by decide +kernel
inductive zX (K:PySem.W.Frag) (R:(It->Hp->Prop)) (vs:List V) (H1:Hp):Prop
 | mk (a b:_) (_:vs = [.ref a,.ref b]) (_:(∃ xs,av K H1 a xs)) (_:(∃ ys,av K H1 b ys)) (_:R (zl K a b) H1)
def C1 (K:PySem.W.Frag) (ta:TA):TI:=fun σ H R=>ta σ H fun vs H1=>zX K R vs H1
theorem wm {a b:Expr} {ta:TA} {p pos tp:Pos} {elts:List Expr} {kk:Nat} (hg:Gl X "zip") (hm:X.mg "zip" = none) (ha:PA X [a,b] ta) (hs:starEach [a,b] X.env = [(false,eval a X.env),(false,eval b X.env)]:=by rfl) (hs2:starEach [b] X.env = [(false,eval b X.env)]:=by rfl) :
  PI X (.Tuple elts kk tp) (.Call (.Name "zip" p) [a,b] [] pos) (C1 X.K ta):=by
 intro pins s σ H R I h
 refine Call_ (jH I hg hm Bn (PyProof.Rows.callWith_type1 (aT (ha pos pins s σ H _ I h) fun us s1 ⟨vs,H1,I1,r1,q1⟩=>?_) (by rw [hs,hs2]) (by rw [hs2];rfl)))
 obtain⟨x,y,e,⟨xs,hx⟩,⟨ys,hy⟩,q⟩:=q1
 subst e
 cases r1 with
 | cons r rr =>
  cases rr with
  | cons r' rr =>
   cases rr
   cases r
   cases r'
   obtain⟨is,rx,px,_⟩:=I1.tuple hx
   obtain⟨js,ry,py,_⟩:=I1.tuple hy
   have lx:x < s1.heap.objs.size:=px.lt
   have ly:y < s1.heap.objs.size:=py.lt
   refine zW (show s1.heap.IsTuple x is.toArray from px) (show s1.heap.IsTuple y js.toArray from py) fun g gz gp gq gj gk up=>?_
   refine wpAny_pyIter_zip gz ?_
   have I2:Inv X pins σ H1 { s1 with heap:=g }:=I1.kept (t':=s1.toks) up
   refine⟨_,[s1.heap.objs.size+4,s1.heap.objs.size+2,s1.heap.objs.size+3,s1.heap.objs.size,s1.heap.objs.size+1],_,zl X.K x y,H1,rfl,I2,yb x y _ _ _ _ _ ?_,⟨gz,gp,⟨_,_,gq⟩,gj,gk⟩,fun c hc=>?_,q⟩
   ·exact Dj lx ly
   ·have le:s1.heap.objs.size<=c:=by
     simp only [List.mem_cons,List.not_mem_nil,or_false] at hc
     rcases hc with rfl | rfl | rfl | rfl | rfl
     ·exact Nat.le_add_right _ _
     ·exact Nat.le_add_right _ _
     ·exact Nat.le_add_right _ _
     ·exact Nat.le_refl _
     ·exact Nat.le_add_right _ _
    exact I1.nG le (I1.aJ.fresh le)
theorem wo {K:PySem.W.Frag} {a b acc:Addr} {xs ys:List V} {n:Nat} {js:List Nat} {g:TG} {ct:TT} {te:TE} {σ : St} {H1:Hp} {Q:VK} (Pv:Nat->List V->St->Hp->Prop) (h0:Pv 0 [] (lg n js σ) (upd H1 acc (.lst [])))
  (hl:∀ i zs τ H,i<=min xs.length ys.length->Pv i zs τ H->av K H a xs/\av K H b ys/\H acc=some (.lst zs)/\zs.length < sizeLine)
  (hs:∀ i x y zs τ H t,xs[i]? = some x->ys[i]? = some y->H t=none->Pv i zs τ H->g (.ref t) τ (upd H t (.tup [x,y])) fun τ1 H4=>ct τ1 H4 fun b H5=>if b=true then te τ1 H5 fun v H6=>H6 acc=some (.lst zs)/\Pv (i+1) (zs ++ [v]) τ1 (upd H6 acc (.lst (zs ++ [v]))) else Pv (i+1) zs τ1 H5)
  (hd:∀ zs τ H,Pv (min xs.length ys.length) zs τ H->Q (.ref acc) H) :
  sY (zl K a b) n js g ct te acc σ H1 Q:=by
 refine⟨fun i m zs τ H=>m=min xs.length ys.length - i/\i<=min xs.length ys.length/\Pv i zs τ H,⟨min xs.length ys.length,by simp,Nat.zero_le _,h0⟩,?_⟩
 rintro i m zs τ H ⟨rfl,hi,p⟩
 obtain⟨qa,qb,q2,q3⟩:=hl i zs τ H hi p
 refine⟨q2,q3,?_⟩
 by_cases hlt:i < min xs.length ys.length
 ·have l1:i < xs.length:=by omega
  have l2:i < ys.length:=by omega
  refine .inr ⟨⟨xs,ys,xs[i],ys[i],qa,qb,by simp [l1],by simp [l2]⟩,Pv (i+1),fun zs' τ' H' p'=>⟨min xs.length ys.length - (i+1),by omega,rfl,hlt,p'⟩,fun v H' y=>?_⟩
  obtain⟨t,x,y,rfl,ht,rfl,h⟩:=y
  obtain⟨h1,h2⟩:=h xs ys qa qb
  exact hs i x y zs τ H t h1 h2 ht p
 ·have e:i=min xs.length ys.length:=by omega
  subst e
  refine .inl ⟨⟨xs,ys,qa,qb,?_⟩,hd zs τ H p⟩
  rcases Nat.le_total xs.length ys.length with h | h
  ·exact .inl (by omega)
  ·exact .inr (by omega)
end
structure yc (K:PySem.W.Frag) (mg:Str->Option Value) (nm:Str) (a:Addr) (D:List (Str × Addr)):Prop where
 oQ:mg nm=some (.ref a)
 lk:∃ es ep,K.lookup a=some ⟨.type "dict",none,.dict es ep,#[]⟩/\KTD.Rows (fun d v=>v=Value.ref d) es.toList D
section
variable {prog:Program} {w:World} {A:Around} {E:Value->Shared->Prop} {s:Shared}
theorem yd {a d:Addr} {o:Obj} {es:Array DictEntry} {ep:Nat} {k:Str} {t:Tok} {D:List (Str × Addr)} {Q:Option Value->Shared->Prop} (ho:s.heap.get? a=some o) (hd:o.data=.dict es ep)
  (hr:KTD.Rows (fun d v=>v=Value.ref d) es.toList D) (ha:KTD.datumAt k D=some d) (q:Q (some (.ref d)) { s with toks:=s.toks+1 }):wpAny (model prog w) A (dictGet a (.str k t)) Q E s:=by
 unfold dictGet
 try with_reducible refine wpAny_holding ?_
 refine wpAny_bind (wpAny_pyHash_str (wpAny_bind (KTD.kt_dictFind_strs (s:={ s with toks:=s.toks+1 }) ho hd (by have:=hr.exact;obtain⟨l⟩:=es;simpa using this) ?_)))
 have hq:Q (findBy (fun k v=>v.isStr k) es k) { s with toks:=s.toks+1 }:=by
  obtain⟨v,hv,rfl⟩:=hr.find_some ha
  have e:findBy (fun k v=>v.isStr k) es k=some (.ref d):=by
   rw [<-hv]
   obtain⟨l⟩:=es
   simp [findBy]
  rw [e]
  exact q
 rw [findBy_of_findIdx?] at hq
 cases hi:es.findIdx? fun e=>e.key.isStr k with
 | some i=>rw [hi] at hq;exact wpAny_bind (wpAny_dictEntries (s:={ s with toks:=s.toks+1 }) ho hd (wpAny_pure hq))
 | none=>rw [hi] at hq;exact wpAny_pure hq
theorem ye {a d:Addr} {o:Obj} {es:Array DictEntry} {ep:Nat} {k:Str} {t:Tok} {D:List (Str × Addr)} {Q:Value->Shared->Prop} (ty:s.TypeIs (.ref a) "dict") (ho:s.heap.get? a=some o) (hd:o.data=.dict es ep)
  (hr:KTD.Rows (fun d v=>v=Value.ref d) es.toList D) (ha:KTD.datumAt k D=some d) (q:Q (.ref d) { s with toks:=s.toks+1 }):wpAny (model prog w) A (getItem (.ref a) (.str k t)) Q E s:=by
 unfold getItem
 try with_reducible refine wpAny_holding ?_
 refine wpAny_bind (wpAny_sequenceKey ty (by decide) (wpAny_bind (wpAny_callSpecial?_slot (name:=Str.ofString "__getitem__") ty slot_dict_getitem (wpAny_call_entry slot_dict_getitem ty entry_dict_getitem ?_ (args_dict_getitem _ _)))))
 show wpAny _ _ (dictGet a (.str k t) >>= fun _=>_) _ _ s
 exact wpAny_bind (yd ho hd hr ha (wpAny_pure ⟨_,rfl,wpAny_pure q⟩))
end
section
variable {X:Cx}
theorem nS {nm:Str} {a:Addr} {D:List (Str × Addr)} {i:Expr} {p pos:Pos} {ty:TE} (G:yc X.K X.mg nm a D) (hg:Gl X nm) (hi:PE X i ty) (hs:uH i) (hdb:(nm == ("__debug__" : Str))=false:=by decide) :
  PE X (.Subscript (.Name nm p) i pos) (fun σ H Q=>ty σ H fun y H1=>∃ x d,y=.str x/\KTD.datumAt x D=some d/\Q (.ref d) H1):=by
 intro pins s σ H Q I h
 obtain⟨es,ep,hk,hr⟩:=G.lk
 refine nO PySem.F.slot_dict_getitem.lookup hs (aT (eT (v:=.ref a) hg G.oQ rfl hdb pins s σ H (fun x H1=>x=.ref a/\ty σ H1 fun y H1=>∃ x d,y=.str x/\KTD.datumAt x D=some d/\Q (.ref d) H1) I ⟨rfl,h⟩) fun u s1 ⟨x,H1,I1,rx,ex,q1⟩=>?_)
 subst ex
 obtain rfl:u=Value.ref a:=rx
 refine aT (hi pins s1 σ H1 _ I1 q1) fun iv s2 ⟨y,H2,I2,ry,k,d,ey,hd,q2⟩=>?_
 subst ey
 obtain⟨t,rfl⟩:=(show ∃ t,iv=Value.str k t from ry)
 have ho:=I2.gu a _ hk
 exact⟨⟨_,ho,rfl⟩,ye ⟨_,ho,rfl⟩ ho rfl hr hd ⟨.ref d,H2,I2.tok _,rfl,q2⟩⟩
end
def pick (w:Str) (xs:List V) (ks:List Str):List V:=((xs.zip ks).filter fun p=>decide (p.2=w)).map (·.1)
def ig (w:Str) (xs:List V) (ks:List Str) (i:Nat):List V:=(((xs.zip ks).take i).filter fun p=>decide (p.2=w)).map (·.1)
theorem uK {w:Str} {xs:List V} {ks:List Str} {i:Nat} {x:V} {k:Str} (hx:xs[i]? = some x) (hk:ks[i]? = some k):ig w xs ks (i+1)=ig w xs ks i++(if k=w then [x] else []):=by
 have hz:(xs.zip ks)[i]? = some (x,k):=by rw [List.getElem?_zip_eq_some];exact⟨hx,hk⟩
 unfold ig
 rw [List.take_add_one,hz,List.filter_append,List.map_append]
 congr 1
 by_cases h:k=w
 ·rw [if_pos h];simp [h]
 ·rw [if_neg h];simp [h]
theorem wq {w:Str} {xs:List V} {ks:List Str}:ig w xs ks (min xs.length (ks.map V.str).length)=pick w xs ks:=by
 unfold ig pick
 rw [List.length_map,List.take_of_length_le (by rw [List.length_zip];exact Nat.le_refl _)]
theorem wu {w:Str} {xs:List V} {ks:List Str} {i:Nat}:(ig w xs ks i).length<=i:=by
 unfold ig
 rw [List.length_map]
 exact Nat.le_trans (List.length_filter_le ..) (by rw [List.length_take];exact Nat.min_le_left ..)
theorem av.same {K:PySem.W.Frag} {H H':Hp} {a:Addr} {xs:List V} (h:av K H a xs) (s:ae H H'):av K H' a xs:=by
 rcases h with h | h
 ·rcases h with h | h
  ·exact .inl (.inl (s _ _ h))
  ·obtain⟨b,hb⟩:=h
   exact .inl (.inr ⟨b,s _ _ hb⟩)
 ·exact .inr h
inductive nT (K:PySem.W.Frag) (vs:List V) (H:Hp) (Q:VK) (_:XK):Prop
 | mk (t s:Addr) (v0:V) (xs:List V) (ks:List Str) (w:Str) (_:vs = [.ref t,.ref s,.str w]) (_:H t=some (.tup (v0 :: xs))) (_:av K H s (ks.map V.str)) (_:xs.length<=1000) (_:∀ l H',H' l=some (.lst (pick w xs ks))->ae H H'->Q (.ref l) H')
def KTup (K:PySem.W.Frag) (a:Addr) (ks:List Str):Prop:=∃ (o:Obj) (its:Array Value) (n:Nat),K.lookup a=some o/\o.cls=.type "tuple" /\ o.data=.seq its n/\its.size<=sizeLine/\Vals (ks.map V.str) its.toList
structure qI (K:PySem.W.Frag) (mg:Str->Option Value) (aE s0 s1 s2 s3:Addr):Prop where
 tab:yc K mg "END_PARTS" aE [("stop",s0),("go",s1),("less",s2),("is",s3)]
 q0:KTup K s0 []
 q1:KTup K s1 ["piece"]
 q2:KTup K s2 ["name", "number", "piece", "piece"]
 q3:KTup K s3 ["name", "number", "piece", "piece"]
def ar:End->List Nat
 | .stop=>[]
 | .go p=>[p]
 | .cH _ _ _ p q=>[p,q]
def kE:End->List Str
 | .stop=>[]
 | .go _=>["piece"]
 | .cH ..=>["name", "number", "piece", "piece"]
def wE:End->Str
 | .stop => "stop"
 | .go _ => "go"
 | .cH b ..=>wT b
theorem wx (e:End):∃ xs,eO e=.str (wE e) :: xs/\xs.length<=1000/\pick "piece" xs (kE e)=(ar e).map fun k=>V.int (k:Nat):=by
 cases e with
 | stop=>exact⟨[],rfl,by decide,rfl⟩
 | go p=>exact⟨_,rfl,by show 1<=1000;decide,by simp [pick,kE,ar]⟩
 | cH b x n p q =>
  refine⟨_,rfl,by show 4<=1000;decide,?_⟩
  have h1:¬ ("name" : Str) = "piece" := by decide +kernel
  have h2:¬ ("number" : Str) = "piece" := by decide +kernel
  simp [pick,kE,ar,h1,h2]
theorem qI.at_ {K:PySem.W.Frag} {mg:Str->Option Value} {aE s0 s1 s2 s3:Addr} (G:qI K mg aE s0 s1 s2 s3) (e:End):∃ s,KTD.datumAt (wE e) [(("stop" : Str),s0),("go",s1),("less",s2),("is",s3)] = some s/\KTup K s (kE e):=by
 have hit:∀ {k:Str} {d:Addr} {D:List (Str × Addr)},KTD.datumAt k ((k,d) :: D)=some d:=fun {k d D}=>by
  show (if decide (k=k)=true then some d else KTD.datumAt k D)=some d
  rw [if_pos (decide_eq_true rfl)]
 have miss:∀ {k x:Str} {d:Addr} {D:List (Str × Addr)} {o:Option Addr},¬ k=x->KTD.datumAt k D=o->KTD.datumAt k ((x,d) :: D)=o:=fun {k x d D o} h e=>by
  show (if decide (k=x)=true then some d else KTD.datumAt k D)=o
  rw [if_neg (by rw [decide_eq_false h];decide)]
  exact e
 cases e with
 | stop=>exact⟨s0,hit,G.q0⟩
 | go p=>exact⟨s1,miss (show ¬ (("go" : Str) = "stop") by decide +kernel) hit,G.q1⟩
 | cH b x n p q =>
  cases b with
  | true=>exact⟨s2,miss (show ¬ (("less" : Str) = "stop") by decide +kernel) (miss (show ¬ (("less" : Str) = "go") by decide +kernel) hit),G.q2⟩
  | false=>exact⟨s3,miss (show ¬ (("is" : Str) = "stop") by decide +kernel) (miss (show ¬ (("is" : Str) = "go") by decide +kernel) (miss (show ¬ (("is" : Str) = "less") by decide +kernel) hit)),G.q3⟩
inductive iJ  (vs:List V) (H:Hp) (Q:VK) (_:XK):Prop
 | mk (ea:Addr) (e:End) (_:vs = [.ref ea]) (_:H ea=some (.tup (eO e))) (_:∀ t H',H' t=some (.tup ((ar e).map fun k=>V.int (k:Nat)))->ae H H'->Q (.ref t) H')
end L2
namespace LS
open PySem
def Up (xs:Array Nat):Prop:=∀ (i j:Nat) (a b:Nat),i < j->xs[i]? = some a->xs[j]? = some b->a < b
theorem yf {xs:Array Nat} {j:Nat} (up:Up xs):∀ (fuel lo hi:Nat),hi - lo<=fuel->lo<=hi->hi<=xs.size ->
  (∀ i a,i < lo->xs[i]? = some a->a < j)->(∀ i a,hi<=i->xs[i]? = some a->j<=a) ->
  (∀ i a,i < SetTable.below.go xs j fuel lo hi->xs[i]? = some a->a < j)/\(∀ i a,SetTable.below.go xs j fuel lo hi<=i->xs[i]? = some a->j<=a)/\SetTable.below.go xs j fuel lo hi<=xs.size:=by
 intro fuel
 induction fuel with
 | zero =>
  intro lo hi h1 h2 h3 h4 h5
  have e:lo=hi:=by omega
  subst e
  unfold SetTable.below.go
  exact⟨h4,h5,h3⟩
 | succ f ih =>
  intro lo hi h1 h2 h3 h4 h5
  unfold SetTable.below.go
  by_cases hl:lo < hi
  ·rw [if_pos hl]
   dsimp only
   have hm:(lo+hi) / 2 < hi:=by omega
   have hm2:lo<=(lo+hi) / 2:=by omega
   generalize (lo+hi) / 2=mid at hm hm2
   have hs:mid < xs.size:=by omega
   have hg:xs[mid]? = some xs[mid]:=by simp [hs]
   have hd:xs.getD mid j=xs[mid]:=by simp [Array.getD,hs]
   rw [hd]
   by_cases hc:xs[mid] < j
   ·rw [if_pos hc]
    refine ih (mid+1) hi (by omega) (by omega) h3 (fun i a hi' he=>?_) h5
    by_cases e:i=mid
    ·subst e;rw [hg] at he;cases he;exact hc
    ·have:=up i mid a _ (by omega) he hg;omega
   ·rw [if_neg hc]
    refine ih lo mid (by omega) hm2 (by omega) h4 (fun i a hi' he=>?_)
    by_cases e:i=mid
    ·subst e;rw [hg] at he;cases he;omega
    ·have:=up mid i _ a (by omega) hg he;omega
  ·rw [if_neg hl]
   have e:lo=hi:=by omega
   subst e
   exact⟨h4,h5,h3⟩
theorem lU {xs:Array Nat} {j:Nat} (up:Up xs) :
    (∀ i a,i < SetTable.below xs j->xs[i]? = some a->a < j)/\(∀ i a,SetTable.below xs j<=i->xs[i]? = some a->j<=a)/\SetTable.below xs j<=xs.size :=
  yf up xs.size 0 xs.size (by omega) (Nat.zero_le _) (Nat.le_refl _) (fun _ _ h=>absurd h (Nat.not_lt_zero _)) (fun i a h e=>by
    have:xs[i]? = none:=by simp;omega
    rw [this] at e;cases e)
theorem qJ {α : Type} {xs:Array α} {p:Nat} {x:α} (hp:p<=xs.size) (i:Nat) :
  (SetTable.insertAt xs p x)[i]? = if i < p then xs[i]? else if i=p then some x else xs[i - 1]?:=by
 unfold SetTable.insertAt
 have h1:(xs.extract 0 p).size=p:=by simp;omega
 rw [Array.getElem?_append]
 have h2:((xs.extract 0 p).push x).size=p+1:=by simp;omega
 rw [h2]
 by_cases a:i < p
 ·rw [if_pos (by omega),if_pos a,Array.getElem?_push,h1,if_neg (by omega)]
  rw [Array.getElem?_extract]
  simp;omega
 ·rw [if_neg a]
  by_cases b:i=p
  ·subst b
   rw [if_pos (by omega),if_pos rfl,Array.getElem?_push,h1,if_pos rfl]
  ·rw [if_neg (by omega),if_neg b]
   rw [Array.getElem?_extract]
   have:p+(i - (p+1))=i - 1:=by omega
   rw [this]
   by_cases c:i - 1 < xs.size
   ·simp;omega
   ·have:xs[i - 1]? = none:=by simp;omega
    rw [this];simp
theorem Up.insert {xs:Array Nat} {j:Nat} (up:Up xs) (hn:xs[SetTable.below xs j]? ≠ some j):Up (SetTable.insertAt xs (SetTable.below xs j) j):=by
 obtain⟨h1,h2,h3⟩:=lU (j:=j) up
 generalize SetTable.below xs j=p at h1 h2 h3 hn
 have h2':∀ i a,p<=i->xs[i]? = some a->j < a:=fun i a hi e=>by
  have q:=h2 i a hi e
  by_cases z:i=p
  ·subst z
   rcases Nat.lt_or_ge j a with c | c
   ·exact c
   ·have:a=j:=by omega
    subst this;exact absurd e hn
  ·have hps:p < xs.size:=by
    have:i < xs.size:=by
     rcases Nat.lt_or_ge i xs.size with c | c
     ·exact c
     ·have:xs[i]? = none:=by simp;omega
      rw [this] at e;cases e
    omega
   have e1:xs[p]? = some xs[p]:=by simp [hps]
   have q1:=h2 p _ (Nat.le_refl _) e1
   have q2:=up p i _ _ (by omega) e1 e
   omega
 intro a b x y hab ha hb
 rw [qJ h3] at ha hb
 by_cases c1:a < p
 ·rw [if_pos c1] at ha
  by_cases d1:b < p
  ·rw [if_pos d1] at hb;exact up a b _ _ hab ha hb
  ·rw [if_neg d1] at hb
   by_cases d2:b=p
   ·rw [if_pos d2] at hb;cases hb;exact h1 a _ c1 ha
   ·rw [if_neg d2] at hb
    exact Nat.lt_trans (h1 a _ c1 ha) (h2' (b - 1) _ (by omega) hb)
 ·rw [if_neg c1] at ha
  by_cases c2:a=p
  ·rw [if_pos c2] at ha;cases ha
   rw [if_neg (by omega),if_neg (by omega)] at hb
   exact h2' (b - 1) _ (by omega) hb
  ·rw [if_neg c2] at ha
   rw [if_neg (by omega),if_neg (by omega)] at hb
   exact up (a - 1) (b - 1) _ _ (by omega) ha hb
def Rp (t:SetTable):Prop:=t.plain=true->Up t.place
theorem yg {t:SetTable} {f:Nat->Int} {h:Int}:∀ (fuel:Nat) (p:SetTable.Probe) (j:Nat) (d:Option Nat),(∀ x,p.dummy=some x->t.place[SetTable.below t.place x]? ≠ some x) ->
  SetTable.probe.go t f h fuel p=some (.empty j d)->t.place[SetTable.below t.place (d.getD j)]? ≠ some (d.getD j):=by
 intro fuel
 induction fuel with
 | zero=>intro p j d _ e;unfold SetTable.probe.go at e;cases e
 | succ n ih =>
  intro p j d hd e
  unfold SetTable.probe.go at e
  have adv:∀ q:SetTable.Probe,(t.advance q).dummy=q.dummy:=fun q=>by unfold SetTable.advance;split <;> rfl
  cases hs:t.slot p.j with
  | empty =>
   rw [hs] at e
   dsimp only at e
   injection e with e
   injection e with e1 e2
   subst e1;subst e2
   unfold SetTable.slot at hs
   dsimp only at hs
   split at hs
   ·cases hs
   ·rename_i hne
    cases hdm:p.dummy with
    | none=>intro z;exact hne (by rw [show (none:Option Nat).getD p.j=p.j from rfl] at z;simpa using z)
    | some x=>exact hd x hdm
  | dummy =>
   rw [hs] at e
   dsimp only at e
   refine ih _ j d (fun x hx=>?_) e
   rw [adv] at hx
   injection hx with hx
   subst hx
   unfold SetTable.slot at hs
   dsimp only at hs
   split at hs
   ·cases hs
   ·rename_i hne
    intro z;exact hne (by simpa using z)
  | live i =>
   rw [hs] at e
   dsimp only at e
   split at e
   ·cases e
   ·exact ih _ j d (fun x hx=>hd x (by rw [adv] at hx;exact hx)) e
theorem qK {t:SetTable} {h:Int} {j:Nat} {b:Bool} (e:t.freeSlot h=some (j,b)):t.place[SetTable.below t.place j]? ≠ some j:=by
 unfold SetTable.freeSlot at e
 split at e
 ·rename_i j' d hp
  injection e with e
  injection e with e1 e2
  subst e1
  unfold SetTable.probe at hp
  exact yg _ _ _ _ (fun x hx=>by cases hx) hp
 ·cases e
theorem Rp.standIn (t:SetTable) (n:Nat):Rp (t.standIn n):=fun h=>by cases h
theorem Rp.layNew {t:SetTable} (r:Rp t) (es:Array (Int × Value)) (h:Int) (x:Value):Rp (layNew t es h x).2.1/\(layNew t es h x).2.1.led=t.led:=by
 unfold PySem.layNew
 split
 ·rename_i j b e
  dsimp only
  unfold SetTable.orStandIn
  split
  ·refine⟨fun hp=>?_,rfl⟩
   exact (r hp).insert (qK e)
  ·exact⟨Rp.standIn _ _,rfl⟩
 ·exact⟨Rp.standIn _ _,rfl⟩
theorem yh (n:Nat) (f:Nat->Option Nat):Up (((List.range n).filterMap fun j=>(f j).map fun k=>(j,k)).map (·.1)).toArray:=by
 have hs:List.Pairwise (· < ·) (((List.range n).filterMap fun j=>(f j).map fun k=>(j,k)).map (·.1)):=by
  have hl:List.Sublist (((List.range n).filterMap fun j=>(f j).map fun k=>(j,k)).map (·.1)) (List.range n):=by
   generalize List.range n=l
   induction l with
   | nil=>exact List.Sublist.refl _
   | cons a l ih =>
    rw [List.filterMap_cons]
    cases e:f a with
    | none=>exact ih.cons a
    | some k=>exact ih.cons₂ a
  exact List.Pairwise.sublist hl List.pairwise_lt_range
 intro i j a b hij ha hb
 rw [List.getElem?_toArray] at ha hb
 have hi:i < _:=(List.getElem?_eq_some_iff.mp ha).1
 have hj:j < _:=(List.getElem?_eq_some_iff.mp hb).1
 have:=List.pairwise_iff_getElem.mp hs i j hi hj hij
 rw [(List.getElem?_eq_some_iff.mp ha).2,(List.getElem?_eq_some_iff.mp hb).2] at this
 exact this
theorem Rp.relayAll (t:SetTable) (es:Array (Int × Value)) (n:Nat):Rp (relayAll t es n).2.1/\(relayAll t es n).2.1.led=t.led:=by
 unfold PySem.relayAll
 split
 ·rename_i t' order e
  dsimp only
  split
  ·unfold SetTable.relaid SetTable.laid at e
   simp only [bind,Option.bind] at e
   split at e
   ·cases e
   ·rename_i owner _
    injection e with e
    injection e with e1 _
    subst e1
    exact⟨fun _=>yh _ _,rfl⟩
  ·exact⟨Rp.standIn _ _,rfl⟩
 ·exact⟨Rp.standIn _ _,rfl⟩
theorem uL {xs:Array Nat} (up:Up xs) {i a:Nat} (e:xs[i]? = some a):SetTable.below xs (a+1)=i+1:=by
 obtain⟨h1,h2,h3⟩:=lU (j:=a+1) up
 have hi:i < xs.size:=(Array.getElem?_eq_some_iff.mp e).1
 rcases Nat.lt_trichotomy (SetTable.below xs (a+1)) (i+1) with c | c | c
 ·have:=h2 i a (by omega) e;omega
 ·exact c
 ·have hs:i+1 < xs.size:=by omega
  have e':xs[i+1]? = some xs[i+1]:=by simp [hs]
  have q1:=h1 (i+1) _ c e'
  have q2:=up i (i+1) _ _ (by omega) e e'
  omega
theorem uM {xs:Array Nat} (up:Up xs):SetTable.below xs 0=0:=by
 obtain⟨h1,h2,h3⟩:=lU (j:=0) up
 rcases Nat.eq_zero_or_pos (SetTable.below xs 0) with c | c
 ·exact c
 ·have e':xs[0]? = some xs[0]:=by simp
  have:=h1 0 _ c e';omega
theorem Up.b0 {xs:Array Nat} (h:xs.size<=1):Up xs:=fun i j a b hij ha hb=>by
 have:=(Array.getElem?_eq_some_iff.mp hb).1;omega
open PySem.Spec PyProof.Rows
section
variable {prog:Program} {w:World} {K:Type} [DecidableEq K] {knd:KeyKind prog w K}
variable {A:Around} {E:Value->Shared->Prop} {s:Shared}
def Ent (knd:KeyKind prog w K) (e:Int × Value) (k:K):Prop:=knd.is k e.2=true/\e.1=knd.hash k/\e.2.scannable=true
structure cC (knd:KeyKind prog w K) (h:Heap) (a:Addr) (ks:List K) (o:Obj) (es:Array (Int × Value)) (ep:Nat) (t:SetTable):Prop where
 at_:h.get? a=some o
 ex:o.ExactSet
 data:o.data=.set es ep t
 ents:∃ ls:List K,ls.Perm ks/\Paired (Ent knd) es.toList ls
 nd:ks.Nodup
 b0:es.size < scanBound
 fits:t.fits es.size=true
 led:t.led = !(w.params.followText "set-order")
 up:Rp t
def de (knd:KeyKind prog w K) (h:Heap) (a:Addr) (ks:List K):Prop:=∃ o es ep t,cC knd h a ks o es ep t
theorem ir {α β : Type} {F:α->β->Prop}:∀ {l l':List α},l.Perm l'->∀ {m':List β},Paired F l' m'->∃ m,m.Perm m'/\Paired F l m:=by
 intro l l' p
 induction p with
 | nil=>intro m' h;exact⟨m',.refl _,h⟩
 | cons x p ih =>
  intro m' h
  cases h with
  | cons r t=>obtain⟨m,q,e⟩:=ih t;exact⟨_,q.cons _,.cons r e⟩
 | swap x y l =>
  intro m' h
  cases h with
  | cons r t=>cases t with
   | cons r' t'=>exact⟨_,.swap _ _ _,.cons r' (.cons r t')⟩
 | trans p q ih1 ih2 =>
  intro m' h
  obtain⟨m1,a1,b1⟩:=ih2 h
  obtain⟨m2,a2,b2⟩:=ih1 b1
  exact⟨m2,a2.trans a1,b2⟩
theorem gI {α β : Type} {F:α->β->Prop}:∀ {l:List α} {m:List β},Paired F l m->(∀ x ∈ l,∃ y ∈ m,F x y)/\(∀ y ∈ m,∃ x ∈ l,F x y)
 | _,_,.nil=>⟨(fun _ h=>nomatch h),(fun _ h=>nomatch h)⟩
 | _,_,.cons r t=>by
  obtain⟨h1,h2⟩:=gI t
  refine⟨fun x hx=>?_,fun y hy=>?_⟩
  ·rcases List.mem_cons.mp hx with rfl | hx
   ·exact⟨_,List.mem_cons_self ..,r⟩
   ·obtain⟨y,hy,f⟩:=h1 x hx;exact⟨y,List.mem_cons_of_mem _ hy,f⟩
  ·rcases List.mem_cons.mp hy with rfl | hy
   ·exact⟨_,List.mem_cons_self ..,r⟩
   ·obtain⟨x,hx,f⟩:=h2 y hy;exact⟨x,List.mem_cons_of_mem _ hx,f⟩
theorem lr {α β : Type} {F:α->β->Prop} {x:α} {y:β} (f:F x y):∀ {l:List α} {m:List β},Paired F l m->Paired F (l ++ [x]) (m ++ [y])
 | _,_,.nil=>.cons f .nil
 | _,_,.cons r t=>.cons r (lr f t)
variable {a:Addr} {ks:List K} {o:Obj} {es:Array (Int × Value)} {ep:Nat} {t:SetTable} {h h':Heap}
theorem cC.elems (S:cC knd h a ks o es ep t):ElemsOf knd es.toList:=fun e he=>by
 obtain⟨ls,_,p⟩:=S.ents
 obtain⟨k,_,f⟩:=(gI p).1 e he
 exact⟨⟨k,f.1,f.2.1⟩,f.2.2⟩
theorem cC.len (S:cC knd h a ks o es ep t):es.size=ks.length:=by
 obtain⟨ls,q,p⟩:=S.ents
 rw [<-Array.length_toList,p.length,q.length_eq]
theorem cC.mem (S:cC knd h a ks o es ep t) (k:K):k ∈ ks ↔ ∃ e ∈ es.toList,knd.is k e.2=true:=by
 obtain⟨ls,q,p⟩:=S.ents
 rw [<-q.mem_iff]
 constructor
 ·intro hk
  obtain⟨e,he,f⟩:=(gI p).2 k hk
  exact⟨e,he,f.1⟩
 ·rintro⟨e,he,f⟩
  obtain⟨k',hk',f'⟩:=(gI p).1 e he
  rw [knd.inj e.2 k k' f f'.1];exact hk'
theorem cC.setOf (S:cC knd h a ks o es ep t):h.SetOf knd a (fun k=>decide (k ∈ ks)) ks.length :=
 ⟨o,es,ep,t,S.at_,S.ex,S.data,S.elems,fun k=>by rw [decide_eq_true_eq];exact S.mem k,S.b0,S.fits,S.len⟩
theorem cC.keep (S:cC knd h a ks o es ep t) (k:∀ o,h.get? a=some o->h'.get? a=some o):cC knd h' a ks o es ep t:={ S with at_:=k _ S.at_ }
theorem de.keep (S:de knd h a ks) (k:∀ o,h.get? a=some o->h'.get? a=some o):de knd h' a ks:=let ⟨o,es,ep,t,S⟩:=S;⟨o,es,ep,t,S.keep k⟩
theorem de.setOf (S:de knd h a ks):h.SetOf knd a (fun k=>decide (k ∈ ks)) ks.length:=let ⟨_,_,_,_,S⟩:=S;S.setOf
theorem i9 {o:Obj} {es es':Array (Int × Value)} {ep:Nat} {t t':SetTable} (hd:o.data=.set es ep t):Obj.putSet es' t' o = { o with data:=.set es' (ep+1) t' }:=putSet_of es' t' hd
theorem cC.store {es':Array (Int × Value)} {t':SetTable} {ks':List K} (S:cC knd h a ks o es ep t) (he:∃ ls:List K,ls.Perm ks'/\Paired (Ent knd) es'.toList ls) (nd:ks'.Nodup) (b0:es'.size < scanBound)
  (fits:t'.fits es'.size=true) (led:t'.led=t.led) (up:Rp t'):cC knd (h.update a (Obj.putSet es' t')) a ks' { o with data:=.set es' (ep+1) t' } es' (ep+1) t' where
 at_:=by
  have q:=Heap.get?_update_self (Obj.putSet es' t') S.at_ (by rw [i9 S.data];rfl)
  rw [i9 S.data] at q
  exact q
 ex:=S.ex
 data:=rfl
 ents:=he
 nd:=nd
 b0:=b0
 fits:=fits
 led:=led.trans S.led
 up:=up
theorem lV {g:Bool->Sem Unit} (hg:∀ (b:Bool) (s₁ : Shared) (Q':Unit->Shared->Prop),Q' () s₁->wpAny (model prog w) A (g b) Q' E s₁) {es1:Array (Int × Value)} {t2:SetTable} {ks':List K}
  (S:cC knd s.heap a ks o es ep t) (he:∃ ls:List K,ls.Perm ks'/\Paired (Ent knd) es1.toList ls) (nd:ks'.Nodup) (b0:es1.size < scanBound) (fits:t2.fits es1.size=true) (led:t2.led=t.led) (up:Rp t2) {wd:Bool}
  {R:Option Bool->Shared->Prop} (q:∀ h',Heap.SameBut a s.heap h'->de knd h' a ks'->R (some true) { s with heap:=h' }) :
  wpAny (model prog w) A (storeSet a es1 t2 >>= fun _=>if (!wd && t2.tooFull)=true then g (relayAll t2 es1 (SetTable.grown es1.size)).2.2 >>= fun _ =>
   storeSet a (relayAll t2 es1 (SetTable.grown es1.size)).1 (relayAll t2 es1 (SetTable.grown es1.size)).2.1 >>= fun _=>pure (some true) else pure (some true)) R E s:=by
 refine wpAny_bind (wpAny_storeSet_of S.at_ S.data ?_ (fits_of_scanBound b0))
 have S1:=S.store he nd b0 fits led up
 have b1:=Heap.SameBut.update s.heap a (Obj.putSet es1 t2)
 by_cases hc:(!wd && t2.tooFull)=true
 ·rw [if_pos hc]
  have p1:=relayAll_perm t2 es1 (SetTable.grown es1.size)
  have p2:=relayAll_fits t2 es1 (SetTable.grown es1.size)
  have p3:=Rp.relayAll t2 es1 (SetTable.grown es1.size)
  generalize relayAll t2 es1 (SetTable.grown es1.size)=R3 at p1 p2 p3
  obtain⟨es3,t3,gv⟩:=R3
  obtain⟨ls,l1,l2⟩:=he
  obtain⟨ls3,l3,l4⟩:=ir p1 l2
  have z:es3.size=es1.size:=by rw [<-Array.length_toList,p1.length_eq,Array.length_toList]
  have few3:es3.size < scanBound:=by rw [z];exact b0
  refine wpAny_bind (hg _ _ _ ?_)
  refine wpAny_bind (wpAny_storeSet_of S1.at_ S1.data ?_ (fits_of_scanBound few3))
  exact wpAny_pure (q _ (b1.trans (Heap.SameBut.update _ a _)) ⟨_,_,_,_,S1.store ⟨ls3,l3.trans l1,l4⟩ nd few3 p2 p3.2 p3.1⟩)
 ·rw [if_neg hc]
  exact wpAny_pure (q _ b1 ⟨_,_,_,_,S1⟩)
theorem uN {k:K} {x:Value} {Q:Bool->Shared->Prop} (hk:knd.is k x=true) (hsc:x.scannable=true) (S:de knd s.heap a ks) (room:ks.length+1 < scanBound)
  (q:∀ h',Heap.SameBut a s.heap h'->de knd h' a (if k ∈ ks then ks else ks ++ [k])->Q (!decide (k ∈ ks)) { s with heap:=h' }) :
  wpAny (model prog w) A (setAddHashed a x (knd.hash k)) Q E s:=by
 obtain⟨o,es,ep,t,S⟩:=S
 have few1:es.size+1 < scanBound:=by rw [S.len];exact room
 unfold setAddHashed setAddHashedIn
 refine wpAny_holding (wpAny_bind (wpAny_setState_of S.at_ S.data S.fits ?_))
 dsimp only
 rw [byScan_of hsc S.b0 S.elems]
 simp only [↓reduceIte]
 unfold setAddByScan
 refine wpAny_bind (wpAny_bind (wpAny_rule ?_))
 refine wpAny_bind (wpAny_setScan_of hk S.at_ S.data S.fits S.elems ?_)
 cases hr:List.findIdx? (fun e=>knd.is k e.2) es.toList with
 | some j =>
  obtain⟨hj,hpj,_⟩:=List.findIdx?_eq_some_iff_getElem.mp hr
  have hin:k ∈ ks:=(S.mem k).mpr ⟨es.toList[j],List.getElem_mem hj,hpj⟩
  refine wpAny_pure (wpAny_pure ?_)
  have:=q s.heap (Heap.SameBut.refl a s.heap) (by rw [if_pos hin];exact⟨o,es,ep,t,S⟩)
  rw [decide_eq_true hin] at this
  exact this
 | none =>
  have hin:¬ k ∈ ks:=fun z=>by
   obtain⟨e,he,hp⟩:=(S.mem k).mp z
   have:=List.findIdx?_eq_none_iff.mp hr e he
   rw [hp] at this;exact Bool.noConfusion this
  rw [if_neg hin,decide_eq_false hin] at q
  have p1:=layNew_perm t es (knd.hash k) x
  have p2:=layNew_fits t es (knd.hash k) x
  have p3:=S.up.layNew es (knd.hash k) x
  dsimp only
  generalize layNew t es (knd.hash k) x=L at p1 p2 p3 ⊢
  obtain⟨es1,t1,wd,gv⟩:=L
  dsimp only at p1 p2 p3 ⊢
  rw [Array.toList_push] at p1
  have hE:∃ ls:List K,ls.Perm (ks ++ [k])/\Paired (Ent knd) es1.toList ls:=by
   obtain⟨ls,l1,l2⟩:=S.ents
   obtain⟨m,m1,m2⟩:=ir p1 (lr (F:=Ent knd) (x:=(knd.hash k,x)) (y:=k) ⟨hk,rfl,hsc⟩ l2)
   exact⟨m,m1.trans (l1.append_right _),m2⟩
  have nd1:(ks ++ [k]).Nodup:=by
   rw [List.nodup_append]
   exact⟨S.nd,by simp,fun y hy z hz e=>hin (by rw [List.mem_singleton] at hz;rw [<-hz,<-e];exact hy)⟩
  have few2:es1.size < scanBound:=by rw [<-Array.length_toList,p1.length_eq,List.length_append,Array.length_toList];simpa using few1
  have gw:∀ (b:Bool) (s₁ : Shared) (Q':Unit->Shared->Prop),Q' () s₁->wpAny (model prog w) A (match b with | true=>rule "set.scan.the-table-gave-way" | false=>pure ()) Q' E s₁:=fun b s₁ Q' hq=>by
   cases b
   ·exact wpAny_pure hq
   ·exact wpAny_rule hq
  refine wpAny_bind (gw _ _ _ ?_)
  by_cases hp:t1.plain=true
  ·rw [if_pos hp]
   refine wpAny_bind ?_
   rw [hashByValue_scannable 8 hsc]
   refine wpAny_pure ?_
   by_cases hv:plainKind x=true
   ·rw [if_pos hv]
    exact lV gw S hE nd1 few2 p2 p3.2 p3.1 fun h' b Sk=>wpAny_pure (q h' b Sk)
   ·rw [if_neg hv]
    exact lV gw S hE nd1 few2 (SetTable.fits_plain_off p2) p3.2 (fun z=>by cases z) fun h' b Sk=>wpAny_pure (q h' b Sk)
  ·rw [if_neg hp]
   refine wpAny_bind (wpAny_pure ?_)
   rw [if_pos rfl]
   exact lV gw S hE nd1 few2 p2 p3.2 p3.1 fun h' b Sk=>wpAny_pure (q h' b Sk)
theorem jT {led:Bool} (hl:led = !(w.params.followText "set-order")) (at_:h.get? a=some { cls:=.type "set",dict:=none,data:=.set #[] 0 (.fresh 0 0 led) }):de knd h a [] :=
 ⟨_,#[],0,_,at_,⟨rfl,rfl,rfl⟩,rfl,⟨[],.refl _,.nil⟩,List.nodup_nil,by decide,by rfl,hl,fun _=>Up.b0 (Nat.zero_le _)⟩
end
theorem ja {α : Type}:∀ (l:List α) (i:Nat) (h:i < l.length),(l[i] :: l.eraseIdx i).Perm l
 | x :: l,0,_=>.refl _
 | x :: l,i+1,h=>by
  have hi:i < l.length:=by simpa using h
  have ih:=ja l i hi
  show (l[i] :: x :: l.eraseIdx i).Perm (x :: l)
  exact (List.Perm.swap x _ _).trans (ih.cons x)
theorem wy {α : Type} (f:Nat->Nat):∀ (n k:Nat) (l:List α) (out:Array α),l.length=n->(pickOrder.go f n k l out).toList.Perm (out.toList++l):=by
 intro n
 induction n with
 | zero =>
  intro k l out hl
  have:l = []:=List.length_eq_zero_iff.mp hl
  subst this
  unfold pickOrder.go
  simp
 | succ n ih =>
  intro k l out hl
  unfold pickOrder.go
  have hlt:f k % l.length < l.length:=Nat.mod_lt _ (by omega)
  rw [List.getElem?_eq_getElem hlt]
  dsimp only
  refine (ih _ _ _ (by rw [List.length_eraseIdx_of_lt hlt];omega)).trans ?_
  rw [Array.toList_push,List.append_assoc]
  refine List.Perm.append_left _ ?_
  exact ja _ _ hlt
theorem fJ {α : Type} (f:Nat->Nat) (xs:Array α):(pickOrder f xs).toList.Perm xs.toList:=by
 unfold pickOrder
 have:=wy f xs.size 0 xs.toList #[] (by simp)
 simpa using this
section
variable {prog:Program} {w:World} {A:Around} {E:Value->Shared->Prop} {s:Shared}
theorem kK {Q:Bool->Shared->Prop} (q:Q (w.params.followText "set-order") s):wpAny (model prog w) A setsByText Q E s:=by
 unfold setsByText
 exact wpAny_bind (wpAny_askSetting (wpAny_pure q))
theorem zY {src:Source} {n:Nat} {Q:Nat->Shared->Prop} (hn:n ≠ 0) (q:∀ (i:Nat) (d:_),i < n->Q i { s with drawn:=d }):wpAny (model prog w) A (choose src n) Q E s:=by
 intro Γ p hΓ
 show Sem.wp _ _ (.choose src n .pure) _ _ _ _
 rw [Sem.wp_choose]
 exact⟨hn,q _ _ (Nat.mod_lt _ (Nat.pos_of_ne_zero hn))⟩
theorem Cb:∀ (n:Nat) (xs:List Nat) (s:Shared) {Q:List Nat->Shared->Prop},xs.length=n->(∀ (ys:List Nat) (d:_),ys.Perm xs->Q ys { s with drawn:=d })->wpAny (model prog w) A (drawOrder n xs) Q E s:=by
 intro n
 induction n with
 | zero =>
  intro xs s Q hl q
  have:xs = []:=List.length_eq_zero_iff.mp hl
  subst this
  unfold drawOrder
  exact wpAny_pure (q [] s.drawn (.refl _))
 | succ n ih =>
  intro xs s Q hl q
  cases xs with
  | nil=>cases hl
  | cons x0 xs =>
   unfold drawOrder
   refine wpAny_bind (zY (by simp) fun i d hi=>?_)
   rw [List.getElem?_eq_getElem hi]
   dsimp only
   refine wpAny_bind (ih _ _ (by rw [List.length_eraseIdx_of_lt hi];omega) fun ys d' hp=>?_)
   refine wpAny_pure (q _ d' ?_)
   exact (hp.cons _).trans (ja _ _ hi)
end
section
variable {prog:Program} {w:World} {K:Type} [DecidableEq K] {knd:KeyKind prog w K}
variable {A:Around} {E:Value->Shared->Prop} {s:Shared} {a:Addr} {ks:List K} {o:Obj} {es:Array (Int × Value)} {ep:Nat} {t:SetTable}
theorem wz {slot i:Nat} {Q:Option (Value × Nat)->Shared->Prop} (S:cC knd s.heap a ks o es ep t) (hb:w.params.followText "set-order" = true)
  (q:Q (((pickOrder (w.params.setOrder a ep) es)[i]?).map fun e=>(e.2,slot)) s):wpAny (model prog w) A (setNext a slot i ep) Q E s:=by
 unfold setNext
 refine wpAny_bind (wpAny_setState_of S.at_ S.data S.fits ?_)
 dsimp only
 refine wpAny_bind (kK ?_)
 rw [hb,if_pos rfl]
 rw [if_neg (by simp)]
 unfold setWalk
 refine wpAny_bind (wpAny_bind (wpAny_setState_of S.at_ S.data S.fits ?_))
 dsimp only
 refine wpAny_bind (kK ?_)
 rw [hb,if_pos rfl]
 exact wpAny_bind (wpAny_askSetting (wpAny_pure (wpAny_pure q)))
theorem wA {slot i:Nat} {Q:Option (Value × Nat)->Shared->Prop} (S:cC knd s.heap a ks o es ep t) (hb:w.params.followText "set-order" = false) (hd:t.plain=true\/es.size<=1) (hs:SetTable.below t.place slot=i)
  (q:Q (match es[i]?,t.place[i]? with | some (_,x),some j=>some (x,j+1) | _,_=>none) s):wpAny (model prog w) A (setNext a slot i ep) Q E s:=by
 unfold setNext
 refine wpAny_bind (wpAny_setState_of S.at_ S.data S.fits ?_)
 dsimp only
 refine wpAny_bind (kK ?_)
 rw [hb,if_neg Bool.false_ne_true]
 refine wpAny_ite_split (fun h=>absurd (show (!t.plain && decide (es.size > 1))=true from h) ?_) (fun _=>?_)
 ·rcases hd with h | h
  ·rw [h];simp
  ·rw [show decide (es.size > 1)=false by simp;omega];simp
 have hl:t.led=true:=by rw [S.led,hb];rfl
 refine wpAny_bind ?_
 show wpAny _ _ (if (!t.led && !es.isEmpty)=true then unsupported "set:maker-not-led" else pure ()) _ _ s
 rw [hl,if_neg (by simp)]
 refine wpAny_pure ?_
 rw [hs]
 exact wpAny_pure q
theorem Bo {i:Nat} {e:Int × Value} {Q:Value->Shared->Prop} (S:cC knd s.heap a ks o es ep t) (he:es[i]? = some e) (q:Q e.2 s):wpAny (model prog w) A (setNextDrawn a i ep) Q E s:=by
 unfold setNextDrawn
 refine wpAny_bind (wpAny_setState_of S.at_ S.data S.fits ?_)
 dsimp only
 rw [if_neg (by simp)]
 rw [he]
 exact wpAny_pure q
theorem slot_next:Slot "set_iterator" "__next__" "set_iterator.__next__" :=
  Slot.of (owner := "set_iterator") (n := "__next__")
    (by rw [typeLookup_type,builtinLookup_eq_fast]
        kernel_rfl)
    (by decide +kernel)
    (by decide +kernel)
    (by decide +kernel)
    (by first
      | exact .inl (by decide +kernel)
      | exact .inr (by decide +kernel))
    (by rw [isSubtype_type]
        kernel_rfl)
theorem entry_next:entryFor table "set_iterator.__next__" = some Builtin.«set_iterator.__next__» :=
 entryFor_of_tree (by kernel_rfl)
theorem oR:Manifest.owners.lookup (String.ofList ['r','o','t','a','r','e','t','i','_','t','e','s'].reverse)=some Manifest.sig_set_iterator:=by
 kernel_rfl
theorem args_next (v:Value):argsOk "set_iterator.__next__" ⟨[v],[]⟩:=by
 unfold argsOk
 rw [signature?_of (id := "set_iterator.__next__") (n:=['_','_','t','x','e','n','_','_']) (o:=['r','o','t','a','r','e','t','i','_','t','e','s'])
  (by kernel_rfl) oR]
 kernel_rfl
end
def dM (h:Heap) (I:Addr) (first:Value) (i:Nat) (a:Addr) (n ep:Nat):Prop :=
 ∃ oI,h.get? I=some oI/\oI.cls=.type "set_iterator" /\ oI.data=.fields #[first,.int i 0,.ref a,.int n 0,.int ep 0]
theorem dM.type {s:Shared} {I:Addr} {first:Value} {i:Nat} {a:Addr} {n ep:Nat} (h:dM s.heap I first i a n ep):s.TypeIs (.ref I) "set_iterator" := let ⟨o,e,c,_⟩:=h;⟨o,e,c⟩
theorem dM.keep {h h':Heap} {I:Addr} {first:Value} {i:Nat} {a:Addr} {n ep:Nat} (x:dM h I first i a n ep) (k:∀ o,h.get? I=some o->h'.get? I=some o):dM h' I first i a n ep :=
 let ⟨o,e,c⟩:=x;⟨o,k _ e,c⟩
section
variable {prog:Program} {w:World} {K:Type} [DecidableEq K] {knd:KeyKind prog w K}
variable {A:Around} {E:Value->Shared->Prop} {s:Shared} {a I:Addr} {ks:List K} {o:Obj} {es:Array (Int × Value)} {ep:Nat} {t:SetTable}
theorem qL {slot nx i:Nat} {x:Value} {Q:Option Value->Shared->Prop} (hit:dM s.heap I (.int slot 0) i a es.size ep) (S:cC knd s.heap a ks o es ep t)
  (hn:∀ (A:Around) (E:Value->Shared->Prop) (Q:Option (Value × Nat)->Shared->Prop),Q (some (x,nx)) s->wpAny (model prog w) A (setNext a slot i ep) Q E s)
  (q:∀ h',dM h' I (.int nx 0) (i+1) a es.size ep->Heap.SameBut I s.heap h'->Q (some x) { s with heap:=h' }):wpAny (model prog w) A (pyNext (.ref I)) Q E s:=by
 obtain⟨oI,ho,hc,hd⟩:=id hit
 unfold pyNext
 refine wpAny_bind (wpAny_attempt (wpAny_callSpecial?_slot (name:=Str.ofString "__next__") hit.type slot_next (wpAny_call_entry slot_next hit.type entry_next ?_ (args_next _))))
 unfold Builtin.«set_iterator.__next__»
 refine wpAny_bind (wpAny_pure ?_)
 refine wpAny_bind (wpAny_fieldsOf ho hd ?_)
 dsimp only
 refine wpAny_bind (wpAny_setEntries_of S.at_ S.data S.fits ?_)
 rw [if_neg (by simp)]
 simp only [Int.toNat_natCast]
 refine wpAny_bind (hn _ _ _ ?_)
 dsimp only
 refine wpAny_bind (wpAny_setField ho hd (by simp) ?_)
 have d1:(Obj.mapFields (·.setIfInBounds 0 (rawInt (nx:Int))) oI).data=.fields #[.int nx 0,.int i 0,.ref a,.int es.size 0,.int ep 0]:=by rw [Obj.data_mapFields hd];simp [rawInt]
 have g1:=Heap.get?_update_self (Obj.mapFields (·.setIfInBounds 0 (rawInt (nx:Int)))) ho (Obj.isFreed_of_fields (Obj.data_mapFields hd _))
 refine wpAny_bind (wpAny_setField g1 d1 (by simp) ?_)
 refine wpAny_pure ⟨_,rfl,wpAny_pure (q _ ⟨_,Heap.get?_update_self _ g1 (Obj.isFreed_of_fields (Obj.data_mapFields d1 _)),?_,?_⟩ ((Heap.SameBut.update ..).trans (Heap.SameBut.update ..)))⟩
 ·exact (Obj.cls_mapFields ..).trans ((Obj.cls_mapFields ..).trans hc)
 ·rw [Obj.data_mapFields d1];simp [rawInt]
theorem lu {Q:Option Value->Shared->Prop} {s0:Shared} (hh:A.handled=none) (hk:∀ b o,b ≠ I->s0.heap.get? b=some o->s.heap.get? b=some o)
  (q:∀ h',(∀ b o,b ≠ I->s0.heap.get? b=some o->h'.get? b=some o)->Q none { s with heap:=h' }) :
  wpAny (model prog w) A.in1 (newExc (.type "StopIteration") [] >>= fun e=>(raiseNew e:Sem Fin)) (fun _ _=>False)
   (fun e s'=>wpAny (model prog w) A (isInstance e (.type "StopIteration") >>= fun b=>if b=true then pure none else throw e) Q E s') s:=by
 refine wpAny_bind ?_
 simp only [newExc,newTuple]
 refine wpAny_bind (wpAny_newObj_type ?_ (by size_fits))
 refine wpAny_bind (m:=firstArgMember _ _) (wpAny_of_eq (a:=Value.none) (by first | rfl | (simp only [firstArgMember];rfl)) ?_)
 refine wpAny_newObj_type ?_ (by size_fits)
 simp only [raiseNew]
 refine wpAny_bind (wpAny_handled ?_)
 rw [show A.in1.handled=none from hh]
 refine wpAny_bind (wpAny_pure (wpAny_throw ?_))
 refine wpAny_bind (wpAny_isInstance (T := "StopIteration") (b:=true) ⟨_,Heap.get?_push_size _ rfl,rfl⟩ isSubtype_stop ?_)
 exact wpAny_pure (q _ fun b o hb e=>Heap.get?_push_of_some _ (Heap.get?_push_of_some _ (hk b o hb e)))
theorem tK {slot i:Nat} {Q:Option Value->Shared->Prop} (hh:A.handled=none) (hit:dM s.heap I (.int slot 0) i a es.size ep) (S:cC knd s.heap a ks o es ep t)
  (hn:∀ (A:Around) (E:Value->Shared->Prop) (Q:Option (Value × Nat)->Shared->Prop),Q none s->wpAny (model prog w) A (setNext a slot i ep) Q E s)
  (q:∀ h',(∀ b o,b ≠ I->s.heap.get? b=some o->h'.get? b=some o)->Q none { s with heap:=h' }):wpAny (model prog w) A (pyNext (.ref I)) Q E s:=by
 obtain⟨oI,ho,hc,hd⟩:=id hit
 unfold pyNext
 refine wpAny_bind (wpAny_attempt (wpAny_callSpecial?_slot (name:=Str.ofString "__next__") hit.type slot_next (wpAny_call_entry slot_next hit.type entry_next ?_ (args_next _))))
 unfold Builtin.«set_iterator.__next__»
 refine wpAny_bind (wpAny_pure ?_)
 refine wpAny_bind (wpAny_fieldsOf ho hd ?_)
 dsimp only
 refine wpAny_bind (wpAny_setEntries_of S.at_ S.data S.fits ?_)
 rw [if_neg (by simp)]
 simp only [Int.toNat_natCast]
 refine wpAny_bind (hn _ _ _ ?_)
 dsimp only
 refine wpAny_bind (wpAny_setField ho hd (by simp) ?_)
 refine wpAny_mono (lu (I:=I) (s0:=s) (E:=E) (Q:=Q) hh (fun b o hb e=>(Heap.get?_update_other _ _ (Ne.symm hb)).trans e) fun h' k=>q h' k) (fun _ _ z=>z.elim) fun e s' z=>z
theorem yi {T:Addr} {i k:Nat} {oT:Obj} {its:Array Value} {c:Nat} {x:Int × Value} {Q:Option Value->Shared->Prop} (hit:dM s.heap I (.ref T) i a es.size ep) (S:cC knd s.heap a ks o es ep t)
  (hT:s.heap.get? T=some oT) (dT:oT.data=.seq its c) (hk:its[i]? = some (.int k 0)) (hx:es[k]? = some x)
  (q:∀ h',dM h' I (.ref T) (i+1) a es.size ep->Heap.SameBut I s.heap h'->Q (some x.2) { s with heap:=h' }):wpAny (model prog w) A (pyNext (.ref I)) Q E s:=by
 obtain⟨oI,ho,hc,hd⟩:=id hit
 unfold pyNext
 refine wpAny_bind (wpAny_attempt (wpAny_callSpecial?_slot (name:=Str.ofString "__next__") hit.type slot_next (wpAny_call_entry slot_next hit.type entry_next ?_ (args_next _))))
 unfold Builtin.«set_iterator.__next__»
 refine wpAny_bind (wpAny_pure ?_)
 refine wpAny_bind (wpAny_fieldsOf ho hd ?_)
 dsimp only
 refine wpAny_bind (wpAny_setEntries_of S.at_ S.data S.fits ?_)
 rw [if_neg (by simp)]
 refine wpAny_bind (wpAny_seqItems hT dT ?_)
 dsimp only
 simp only [Int.toNat_natCast]
 rw [hk]
 dsimp only
 simp only [Int.toNat_natCast]
 refine wpAny_bind (Bo S hx ?_)
 refine wpAny_bind (wpAny_setField ho hd (by simp) ?_)
 refine wpAny_pure ⟨_,rfl,wpAny_pure (q _ ⟨_,Heap.get?_update_self _ ho (Obj.isFreed_of_fields (Obj.data_mapFields hd _)),?_,?_⟩ (Heap.SameBut.update ..))⟩
 ·exact (Obj.cls_mapFields ..).trans hc
 ·rw [Obj.data_mapFields hd];simp [rawInt]
theorem zZ {T:Addr} {i:Nat} {oT:Obj} {its:Array Value} {c:Nat} {Q:Option Value->Shared->Prop} (hh:A.handled=none) (hit:dM s.heap I (.ref T) i a es.size ep) (S:cC knd s.heap a ks o es ep t)
  (hT:s.heap.get? T=some oT) (dT:oT.data=.seq its c) (hk:its[i]? = none)
  (q:∀ h',(∀ b o,b ≠ I->s.heap.get? b=some o->h'.get? b=some o)->Q none { s with heap:=h' }):wpAny (model prog w) A (pyNext (.ref I)) Q E s:=by
 obtain⟨oI,ho,hc,hd⟩:=id hit
 unfold pyNext
 refine wpAny_bind (wpAny_attempt (wpAny_callSpecial?_slot (name:=Str.ofString "__next__") hit.type slot_next (wpAny_call_entry slot_next hit.type entry_next ?_ (args_next _))))
 unfold Builtin.«set_iterator.__next__»
 refine wpAny_bind (wpAny_pure ?_)
 refine wpAny_bind (wpAny_fieldsOf ho hd ?_)
 dsimp only
 refine wpAny_bind (wpAny_setEntries_of S.at_ S.data S.fits ?_)
 rw [if_neg (by simp)]
 refine wpAny_bind (wpAny_seqItems hT dT ?_)
 dsimp only
 simp only [Int.toNat_natCast]
 rw [hk]
 dsimp only
 refine wpAny_bind (wpAny_setField ho hd (by simp) ?_)
 have d1:(Obj.mapFields (·.setIfInBounds 0 (rawInt 0)) oI).data=.fields #[.int 0 0,.int i 0,.ref a,.int es.size 0,.int ep 0]:=by rw [Obj.data_mapFields hd];simp [rawInt]
 have g1:=Heap.get?_update_self (Obj.mapFields (·.setIfInBounds 0 (rawInt 0))) ho (Obj.isFreed_of_fields (Obj.data_mapFields hd _))
 refine wpAny_bind (wpAny_setField g1 d1 (by simp) ?_)
 refine wpAny_mono (lu (I:=I) (s0:=s) (E:=E) (Q:=Q) hh (fun b o hb e=>(Heap.get?_update_other _ _ (Ne.symm hb)).trans ((Heap.get?_update_other _ _ (Ne.symm hb)).trans e)) fun h' k=>q h' k) (fun _ _ z=>z.elim) fun e s' z=>z
theorem mO:Slot "set_iterator" "__iter__" "set_iterator.__iter__" :=
  Slot.of (owner := "set_iterator") (n := "__iter__")
    (by rw [typeLookup_type,builtinLookup_eq_fast]
        kernel_rfl)
    (by decide +kernel)
    (by decide +kernel)
    (by decide +kernel)
    (by first
      | exact .inl (by decide +kernel)
      | exact .inr (by decide +kernel))
    (by rw [isSubtype_type]
        kernel_rfl)
theorem rV:entryFor table "set_iterator.__iter__" = some Builtin.«dict_keyiterator.__iter__» :=
 entryFor_alias (id' := "dict_keyiterator.__iter__")
  (by kernel_rfl) rfl
  (by decide +kernel)
  (by kernel_rfl)
theorem uO (v:Value):argsOk "set_iterator.__iter__" ⟨[v],[]⟩:=by
 unfold argsOk
 rw [signature?_of (id := "set_iterator.__iter__") (n:=['_','_','r','e','t','i','_','_']) (o:=['r','o','t','a','r','e','t','i','_','t','e','s'])
  (by kernel_rfl) oR]
 kernel_rfl
theorem jU {first:Value} {i:Nat} {Q:Value->Shared->Prop} {n:Nat} (hit:dM s.heap I first i a n ep) (q:Q (.ref I) s):wpAny (model prog w) A (pyIter (.ref I)) Q E s:=by
 refine wpAny_pyIter_slot hit.type mO (wpAny_call_entry mO hit.type rV ?_ (uO _))
 show wpAny _ _ (ret (.ref I)) _ _ s
 exact wpAny_pure ⟨_,rfl, "set_iterator",_,hit.type,slot_next.lookup,q⟩
theorem Bp (hh:A.handled=none) (hI:a ≠ I) (hb:w.params.followText "set-order" = true) (nd:True) :
  Walks prog w A I [I,a] [I] es.size (fun i v=>∃ e,(pickOrder (w.params.setOrder a ep) es)[i]? = some e/\e.2=v) (fun i h=>dM h I (.int 0 0) i a es.size ep/\cC knd h a ks o es ep t) where
 sub:=fun b hb=>by simp at hb;simp [hb]
 frame:=fun _ _ _ st k=>⟨st.1.keep fun o e=>k I (by simp) o e,st.2.keep fun o e=>k a (by simp) o e⟩
 item:=fun i s Q E hi st q=>by
  have z:(pickOrder (w.params.setOrder a ep) es).size=es.size:=by have:=(fJ (w.params.setOrder a ep) es).length_eq;simpa using this
  have g:(pickOrder (w.params.setOrder a ep) es)[i]? = some ((pickOrder (w.params.setOrder a ep) es)[i]'(by omega)):=by simp
  refine qL (slot:=0) (nx:=0) st.1 st.2 (fun A E Q h=>wz st.2 hb (by rw [g];exact h)) fun h' hit' sb=>?_
  exact q _ h' s.toks ⟨_,g,rfl⟩ ⟨hit',st.2.keep fun o e=>sb.extBut a o hI e⟩ fun b o hb e=>sb.extBut b o (fun z=>hb (by simp [z])) e
 done:=fun s Q E st q=>by
  have z:(pickOrder (w.params.setOrder a ep) es).size=es.size:=by have:=(fJ (w.params.setOrder a ep) es).length_eq;simpa using this
  refine tK (slot:=0) hh st.1 st.2 (fun A E Q h=>wz st.2 hb (by rw [Array.getElem?_eq_none (by omega)];exact h)) fun h' k=>?_
  exact q h' s.toks fun b o hb e=>k b o (fun z=>hb (by simp [z])) e
 self:=fun _ _ _ _ st q=>jU st.1 q
theorem lW {α : Type} {es:Array α}:∀ {ys:List Nat},(∀ k ∈ ys,k < es.size)->∀ i:Nat,(ys.filterMap fun k=>es[k]?)[i]? = (ys[i]?).bind fun k=>es[k]?
 | [],_,i=>by simp
 | y :: ys,h,i=>by
  have hy:es[y]? = some (es[y]'(h y (List.mem_cons_self ..))):=by simp
  rw [List.filterMap_cons,hy]
  cases i with
  | zero=>simp
  | succ i =>
   have:=lW (ys:=ys) (fun k hk=>h k (List.mem_cons_of_mem _ hk)) i
   simpa using this
def mP (t:SetTable):Nat->Nat
 | 0=>0
 | i+1=>t.place.getD i 0+1
theorem mQ {t:SetTable} (up:Up t.place) {i:Nat} (h:i<=t.place.size):SetTable.below t.place (mP t i)=i:=by
 cases i with
 | zero=>exact uM up
 | succ i =>
  have hi:i < t.place.size:=by omega
  have e:t.place[i]? = some (t.place.getD i 0):=by simp [Array.getD,hi]
  exact uL up e
theorem Bq (hh:A.handled=none) (hI:a ≠ I) (hb:w.params.followText "set-order" = false) (hd:t.plain=true\/es.size<=1) (hf:t.fits es.size=true) (hr:Rp t) :
  Walks prog w A I [I,a] [I] es.size (fun i v=>∃ e,es[i]? = some e/\e.2=v) (fun i h=>dM h I (.int (mP t i) 0) i a es.size ep/\cC knd h a ks o es ep t) where
 sub:=fun b hb=>by simp at hb;simp [hb]
 frame:=fun _ _ _ st k=>⟨st.1.keep fun o e=>k I (by simp) o e,st.2.keep fun o e=>k a (by simp) o e⟩
 item:=fun i s Q E hi st q=>by
  have z:t.place.size=es.size:=by simp only [SetTable.fits,Bool.and_eq_true,beq_iff_eq] at hf;exact hf.1
  have up:Up t.place:=by
   rcases hd with c | c
   ·exact hr c
   ·exact Up.b0 (by omega)
  have g:es[i]? = some es[i]:=by simp [hi]
  have gp:t.place[i]? = some (t.place.getD i 0):=by simp [Array.getD,z,hi]
  refine qL (slot:=mP t i) (nx:=mP t (i+1)) (x:=es[i].2) st.1 st.2 (fun A E Q h=>wA st.2 hb hd (mQ up (by omega)) (by rw [g,gp];exact h)) fun h' hit' sb=>?_
  exact q _ h' s.toks ⟨_,g,rfl⟩ ⟨hit',st.2.keep fun o e=>sb.extBut a o hI e⟩ fun b o hb e=>sb.extBut b o (fun z=>hb (by simp [z])) e
 done:=fun s Q E st q=>by
  have z:t.place.size=es.size:=by simp only [SetTable.fits,Bool.and_eq_true,beq_iff_eq] at hf;exact hf.1
  have up:Up t.place:=by
   rcases hd with c | c
   ·exact hr c
   ·exact Up.b0 (by omega)
  refine tK (slot:=mP t es.size) hh st.1 st.2 (fun A E Q h=>wA st.2 hb hd (mQ up (by omega)) (by rw [Array.getElem?_eq_none (Nat.le_refl _)];exact h)) fun h' k=>?_
  exact q h' s.toks fun b o hb e=>k b o (fun z=>hb (by simp [z])) e
 self:=fun _ _ _ _ st q=>jU st.1 q
theorem Br {T:Addr} {oT:Obj} {ys:List Nat} (hh:A.handled=none) (hI:a ≠ I) (hT:T ≠ I) (dT:oT.data=.seq (ys.map fun (i:Nat)=>rawInt i).toArray 0) (hp:ys.Perm (List.range es.size)) :
  Walks prog w A I [I,a,T] [I] es.size (fun i v=>∃ e,((ys.filterMap fun k=>es[k]?))[i]? = some e/\e.2=v) (fun i h=>dM h I (.ref T) i a es.size ep/\cC knd h a ks o es ep t/\h.get? T=some oT) where
 sub:=fun b hb=>by simp at hb;simp [hb]
 frame:=fun _ _ _ st k=>⟨st.1.keep fun o e=>k I (by simp) o e,st.2.1.keep fun o e=>k a (by simp) o e,k T (by simp) _ st.2.2⟩
 item:=fun i s Q E hi st q=>by
  have hl:ys.length=es.size:=by rw [hp.length_eq,List.length_range]
  have hin:∀ k ∈ ys,k < es.size:=fun k hk=>List.mem_range.mp (hp.mem_iff.mp hk)
  have h1:ys[i]? = some (ys[i]'(by omega)):=by simp
  have hk:ys[i]'(by omega) < es.size:=hin _ (List.getElem_mem _)
  generalize ys[i]'(by omega)=k at h1 hk
  have hx:es[k]? = some es[k]:=by simp [hk]
  have hv:(ys.filterMap fun k=>es[k]?)[i]? = some es[k]:=by
   rw [lW hin,h1]
   exact hx
  refine yi (k:=k) (x:=es[k]) st.1 st.2.1 st.2.2 dT (by simp [h1,rawInt]) hx fun h' hit' sb=>?_
  exact q _ h' s.toks ⟨_,hv,rfl⟩ ⟨hit',st.2.1.keep fun o e=>sb.extBut a o hI e,sb.extBut T _ hT st.2.2⟩ fun b o hb e=>sb.extBut b o (fun z=>hb (by simp [z])) e
 done:=fun s Q E st q=>by
  have hl:ys.length=es.size:=by rw [hp.length_eq,List.length_range]
  refine zZ hh st.1 st.2.1 st.2.2 dT (by simp [hl]) fun h' k=>?_
  exact q h' s.toks fun b o hb e=>k b o (fun z=>hb (by simp [z])) e
 self:=fun _ _ _ _ st q=>jU st.1 q
theorem iu {b x y:Addr} (h:b ∈ [x,y]):b=x\/b=y:=by simpa using h
theorem yj {b x y z:Addr} (h:b ∈ [x,y,z]):b=x\/b=y\/b=z:=by simpa using h
theorem uP:entryFor table "set.__iter__" = some Builtin.«frozenset.__iter__» :=
 entryFor_alias (id' := "frozenset.__iter__")
  (by kernel_rfl) rfl
  (by decide +kernel)
  (by kernel_rfl)
theorem cC.typeIs (S:cC knd s.heap a ks o es ep t):s.TypeIs (.ref a) "set" := ⟨o,S.at_,S.ex.1⟩
theorem rW {Q:Bool->Shared->Prop} (S:cC knd s.heap a ks o es ep t) (q:Q (!(w.params.followText "set-order") && (!t.plain && decide (es.size > 1))) s):wpAny (model prog w) A (setDrawn a) Q E s:=by
 unfold setDrawn
 refine wpAny_bind (wpAny_setState_of S.at_ S.data S.fits ?_)
 dsimp only
 exact wpAny_bind (kK (wpAny_pure q))
def Comes (es:Array (Int × Value)) (P:Nat->Value->Prop):Prop:=∃ l:List (Int × Value),l.Perm es.toList/\P=fun i v=>∃ e,l[i]? = some e/\e.2=v
theorem yk {Q:Value->Shared->Prop} (hh:A.handled=none) (S:cC knd s.heap a ks o es ep t)
  (q:∀ (I:Addr) (h':Heap) (d:_) (fp:List Addr) (P:Nat->Value->Prop) (St:Nat->Heap->Prop),(∀ b o,s.heap.get? b=some o->h'.get? b=some o)->s.heap.objs.size<=I->(∀ b ∈ fp,b < h'.objs.size)->(∀ b,h'.objs.size<=b->b ∉ fp) ->
   (∀ b ∈ fp,b=a\/s.heap.objs.size<=b)->Comes es P->(∀ A:Around,A.handled=none->Walks prog w A I fp [I] es.size P St)->St 0 h'->Q (.ref I) { s with heap:=h',drawn:=d }) :
  wpAny (model prog w) A (pyIter (.ref a)) Q E s:=by
 have la:a < s.heap.objs.size:=Heap.lt_size S.at_
 refine wpAny_pyIter_slot S.typeIs PySem.F.slot_set_iter (wpAny_call_entry PySem.F.slot_set_iter S.typeIs uP ?_ (PySem.F.args_set_iter_1 _))
 unfold Builtin.«frozenset.__iter__»
 refine wpAny_bind ?_
 unfold Builtin.Frozenset.slot0
 refine wpAny_bind (wpAny_pure ?_)
 refine wpAny_pure ?_
 refine wpAny_bind ?_
 unfold Builtin.Frozenset.sizeOf
 refine wpAny_bind (wpAny_setEntries_of S.at_ S.data S.fits (wpAny_pure ?_))
 refine wpAny_bind (rW S ?_)
 cases hb:w.params.followText "set-order" with
 | true =>
  rw [Bool.not_true,Bool.false_and,if_neg Bool.false_ne_true]
  refine wpAny_bind (wpAny_pure ?_)
  refine wpAny_bind (wpAny_setEpoch_of S.at_ S.data S.fits ?_)
  refine wpAny_bind ?_
  simp only [newFields]
  refine wpAny_newObj_type (wpAny_pure ⟨_,rfl, "set_iterator",_,⟨_,Heap.get?_push_size _ rfl,rfl⟩,slot_next.lookup,?_⟩) (by size_fits)
  refine q _ _ s.drawn [s.heap.objs.size,a] _ _ (fun b o e=>Heap.get?_push_of_some _ e) (Nat.le_refl _) (fun b hb=>?_) (fun b hb hm=>?_) (fun b hb=>?_) ⟨_,fJ (w.params.setOrder a ep) es,?_⟩ (fun A hh=>Bp (knd:=knd) (ks:=ks) (o:=o) (t:=t) hh (Nat.ne_of_lt la) hb trivial) ⟨⟨_,Heap.get?_push_size _ rfl,rfl,rfl⟩,S.keep fun o e=>Heap.get?_push_of_some _ e⟩
  ·rw [Heap.size_push]
   rcases iu hb with e | e
   ·rw [e];exact Nat.lt_succ_self _
   ·rw [e];exact Nat.lt_succ_of_lt la
  ·rw [Heap.size_push] at hb
   rcases iu hm with e | e
   ·rw [e] at hb;exact Nat.not_succ_le_self _ hb
   ·rw [e] at hb;exact Nat.lt_irrefl _ (Nat.lt_of_lt_of_le la (Nat.le_of_succ_le hb))
  ·rcases iu hb with e | e
   ·exact .inr (by rw [e];exact Nat.le_refl _)
   ·exact .inl e
  ·funext i v;simp
 | false =>
  rw [Bool.not_false,Bool.true_and]
  by_cases hd:(!t.plain && decide (es.size > 1))=true
  ·rw [hd,if_pos rfl]
   refine wpAny_bind (Cb es.size (List.range es.size) s (by simp) fun ys d hp=>?_)
   have hz:(ys.map fun (i:Nat)=>rawInt i).length<=sizeLine:=by rw [List.length_map,hp.length_eq,List.length_range];exact fits_of_scanBound S.b0
   refine wpAny_bind (wpAny_newTuple ?_ hz)
   have S1:cC knd (s.heap.push { cls:=.type "tuple",data:=.seq (ys.map fun (i:Nat)=>rawInt i).toArray }) a ks o es ep t:=S.keep fun o e=>Heap.get?_push_of_some _ e
   refine wpAny_bind (wpAny_setEpoch_of S1.at_ S1.data S1.fits ?_)
   refine wpAny_bind ?_
   simp only [newFields]
   refine wpAny_newObj_type (wpAny_pure ⟨_,rfl, "set_iterator",_,⟨_,Heap.get?_push_size _ rfl,rfl⟩,slot_next.lookup,?_⟩) (by size_fits)
   refine q _ _ d [(s.heap.push { cls:=.type "tuple",data:=.seq (ys.map fun (i:Nat)=>rawInt i).toArray }).objs.size,a,s.heap.objs.size] _ _ (fun b o e=>Heap.get?_push_of_some _ (Heap.get?_push_of_some _ e)) (by rw [Heap.size_push];exact Nat.le_succ _) (fun b hb=>?_) (fun b hb hm=>?_) (fun b hb=>?_) ⟨ys.filterMap fun k=>es[k]?,?_,rfl⟩
    (fun A hh=>Br (knd:=knd) (ks:=ks) (o:=o) (t:=t) (oT:={ cls:=.type "tuple",data:=.seq (ys.map fun (i:Nat)=>rawInt i).toArray }) hh (by rw [Heap.size_push];exact Nat.ne_of_lt (Nat.lt_succ_of_lt la)) (by rw [Heap.size_push];exact Nat.ne_of_lt (Nat.lt_succ_self _)) rfl hp) ⟨⟨_,Heap.get?_push_size _ rfl,rfl,rfl⟩,S1.keep fun o e=>Heap.get?_push_of_some _ e,Heap.get?_push_of_some _ (Heap.get?_push_size _ rfl)⟩
   ·rw [Heap.size_push,Heap.size_push]
    rcases yj hb with e | e | e
    ·rw [e,Heap.size_push];exact Nat.lt_succ_self _
    ·rw [e];exact Nat.lt_succ_of_lt (Nat.lt_succ_of_lt la)
    ·rw [e];exact Nat.lt_succ_of_lt (Nat.lt_succ_self _)
   ·rw [Heap.size_push,Heap.size_push] at hb
    rcases yj hm with e | e | e
    ·rw [e,Heap.size_push] at hb;exact Nat.not_succ_le_self _ hb
    ·rw [e] at hb;exact Nat.lt_irrefl _ (Nat.lt_of_lt_of_le la (Nat.le_of_succ_le (Nat.le_of_succ_le hb)))
    ·rw [e] at hb;exact Nat.not_succ_le_self _ (Nat.le_of_succ_le hb)
   ·rcases yj hb with e | e | e
    ·exact .inr (by rw [e,Heap.size_push];exact Nat.le_succ _)
    ·exact .inl e
    ·exact .inr (by rw [e];exact Nat.le_refl _)
   ·refine (hp.filterMap _).trans ?_
    have:((List.range es.size).filterMap fun k=>es[k]?)=es.toList:=by
     refine List.ext_getElem? fun i=>?_
     rw [lW (fun k hk=>List.mem_range.mp hk)]
     by_cases hi:i < es.size
     ·rw [List.getElem?_range hi];simp
     ·rw [List.getElem?_eq_none (by simp;omega),List.getElem?_eq_none (by simp;omega)];rfl
    rw [this]
  ·rw [if_neg hd]
   refine wpAny_bind (wpAny_pure ?_)
   refine wpAny_bind (wpAny_setEpoch_of S.at_ S.data S.fits ?_)
   refine wpAny_bind ?_
   simp only [newFields]
   refine wpAny_newObj_type (wpAny_pure ⟨_,rfl, "set_iterator",_,⟨_,Heap.get?_push_size _ rfl,rfl⟩,slot_next.lookup,?_⟩) (by size_fits)
   have hd':t.plain=true\/es.size<=1:=by
    cases hp:t.plain with
    | true=>exact .inl rfl
    | false=>right;rw [hp] at hd;simp at hd;exact hd
   refine q _ _ s.drawn [s.heap.objs.size,a] _ _ (fun b o e=>Heap.get?_push_of_some _ e) (Nat.le_refl _) (fun b hb=>?_) (fun b hb hm=>?_) (fun b hb=>?_) ⟨es.toList,.refl _,?_⟩ (fun A hh=>Bq (knd:=knd) (ks:=ks) (o:=o) (t:=t) hh (Nat.ne_of_lt la) hb hd' S.fits S.up) ⟨⟨_,Heap.get?_push_size _ rfl,rfl,rfl⟩,S.keep fun o e=>Heap.get?_push_of_some _ e⟩
   ·rw [Heap.size_push]
    rcases iu hb with e | e
    ·rw [e];exact Nat.lt_succ_self _
    ·rw [e];exact Nat.lt_succ_of_lt la
   ·rw [Heap.size_push] at hb
    rcases iu hm with e | e
    ·rw [e] at hb;exact Nat.not_succ_le_self _ hb
    ·rw [e] at hb;exact Nat.lt_irrefl _ (Nat.lt_of_lt_of_le la (Nat.le_of_succ_le hb))
   ·rcases iu hb with e | e
    ·exact .inr (by rw [e];exact Nat.le_refl _)
    ·exact .inl e
   ·funext i v;simp
theorem yl {Q:Bool->Shared->Prop} (hT:s.TypeIs (.ref a) "set") (q:Q false s):wpAny (model prog w) A (Builtin.List.listLengthHint (.ref a)) Q E s:=by
 unfold Builtin.List.listLengthHint
 refine wpAny_bind (wpAny_specialOf hT PySem.F.slot_set_len.lookup ?_)
 generalize hid:("set.__len__" : String)=id0
 wp_delta
 rw [show splitId id0=some ("set", "__len__") from by subst hid;decide +kernel]
 subst hid
 refine wpAny_bind (wpAny_isInstance (T := "set") (b:=true) hT sub_set_self ?_)
 refine wpAny_ite_split (fun hab=>absurd hab (by decide)) (fun _=>?_)
 refine wpAny_ite_split (fun _=>?_) (fun hab=>absurd (by decide +kernel) hab)
 refine wpAny_bind (wpAny_typeOf hT ?_)
 exact wpAny_pure q
end
open PySem.Calls PySem.W
section
variable {prog:Program} {w:World} {K:Type} [DecidableEq K] {knd:KeyKind prog w K}
variable {A:Around} {E:Value->Shared->Prop} {s:Shared} {a:Addr} {ks:List K} {o:Obj} {es:Array (Int × Value)} {ep:Nat} {t:SetTable}
theorem rX {P:Nat->Value->Prop} {got:Array Value} (hc:Comes es P) (hi:ItemsOf P got es.size):∃ l:List (Int × Value),l.Perm es.toList/\got.toList=l.map (·.2):=by
 obtain⟨l,hp,rfl⟩:=hc
 refine⟨l,hp,?_⟩
 have hl:l.length=es.size:=by rw [hp.length_eq,Array.length_toList]
 refine List.ext_getElem? fun i=>?_
 rw [List.getElem?_map]
 by_cases h:i < es.size
 ·have e1:got.toList[i]? = some (got[i]'(by rw [hi.1];exact h)):=by simp [hi.1,h]
  obtain⟨e,he,hv⟩:=hi.2 i _ (by rw [<-Array.getElem?_toList];exact e1)
  rw [e1,he,<-hv];rfl
 ·rw [List.getElem?_eq_none (by rw [Array.length_toList,hi.1];omega),List.getElem?_eq_none (by omega)];rfl
theorem uQ {R:Result->Shared->Prop} (hh:A.handled=none) (S:cC knd s.heap a ks o es ep t) (L:Addr) (hLa:L ≠ a) (hL:s.heap.get? L=some { cls:=.type "list",data:=.seq #[] 0 }) (res:Value)
  (fin:∀ (g:Heap) (tk:Nat) (d:_) (got:Array Value) (c:Nat),(∀ b o,b ≠ L->s.heap.get? b=some o->g.get? b=some o)->g.get? L=some { cls:=.type "list",dict:=none,data:=.seq got c,slots:=#[] } ->
   (∃ l:List (Int × Value),l.Perm es.toList/\got.toList=l.map (·.2))->R (.ok (.ret res)) { s with heap:=g,toks:=tk,drawn:=d }) :
  wpAny (model prog w) A.in1 (Builtin.List.listExtendWith (.ref L) (.ref a) res)
   (fun fin s'=>match fin with | .done f=>R (.ok f) s' | .again c'=>c'.quiet=true/\codeAny (model prog w) A c' R s') (fun e s'=>R (.error e) s') s:=by
 have hz:es.size<=sizeLine:=fits_of_scanBound S.b0
 unfold Builtin.List.listExtendWith
 refine wpAny_bind (wpAny_typeOf S.typeIs ?_)
 have h1:Builtin.List.listSameRef (.ref L) (.ref a)=false:=by simp [Builtin.List.listSameRef,hLa]
 rw [h1]
 have h2:(Value.type "set" == Value.type "list")=false:=by decide
 have h3:(Value.type "set" == Value.type "tuple")=false:=by decide
 rw [h2,h3]
 rw [if_neg (by decide)]
 refine wpAny_bind (yk (A:=A.in1) hh S fun I h1 d fp P St keep hI hfp hnew hof hc W st=>?_)
 have hLlt:L < s.heap.objs.size:=Heap.lt_size hL
 have hLf:L ∉ fp:=fun hm=>by
  rcases hof L hm with e | e
  ·exact hLa e
  ·exact Nat.lt_irrefl _ (Nat.lt_of_lt_of_le hLlt e)
 have hLI:L ≠ I:=fun e=>Nat.lt_irrefl _ (Nat.lt_of_lt_of_le hLlt (e ▸ hI))
 have Wk:=W A.in1 hh
 have loop:∀ (g:Heap) (c tk:Nat),St 0 g->(∀ b o,b ≠ L->s.heap.get? b=some o->g.get? b=some o)->g.get? L=some { cls:=.type "list",data:=.seq #[] c } ->
   codeAny (model prog w) A (.builtin "list.extend.loop" ⟨[.ref L,.ref I,res],[]⟩) R { s with heap:=g,toks:=tk,drawn:=d }:=by
  intro g c tk st' kp gL
  refine codeAny_extend_loopS Wk.toS hz L hLf res es.size 0 _ #[] c rfl (Nat.zero_le _) st' gL (ItemsOf.nil _) fun s' got c' mv gL' its=>?_
  have e:=Moved.eq_with mv
  rw [e]
  refine fin s'.heap s'.toks d got c' (fun b o hb e=>mv.heap b o (fun hm=>?_) (kp b o hb e)) gL' (rX hc its)
  rcases List.mem_cons.mp hm with e' | hm
  ·exact hb e'
  ·rw [List.mem_singleton] at hm
   subst hm
   exact Nat.lt_irrefl _ (Nat.lt_of_lt_of_le (Heap.lt_size e) hI)
 have gL1:=keep _ _ hL
 refine wpAny_bind (wpAny_holding (yl ⟨o,keep _ _ S.at_,S.ex.1⟩ ?_))
 refine wpAny_ite_split (fun _=>?_) (fun _=>wpAny_pure ⟨plainId_quiet PySem.F.plain_extend_loop _,loop _ 0 _ st (fun b o _ e=>keep b o e) gL1⟩)
 refine wpAny_bind (wpAny_rule ?_)
 refine wpAny_bind ?_
 show wpAny _ _ (updateSeq L (·.push .none) >>= fun _=>updateSeq L (·.pop)) _ _ _
 refine wpAny_bind (wpAny_updateSeq gL1 rfl ?_)
 have gL2:=Heap.get?_update_self (Obj.mapSeq (·.push Value.none)) gL1 rfl
 refine wpAny_updateSeq (hz:=by seq_fits) gL2 rfl ?_
 have gL3:=Heap.get?_update_self (Obj.mapSeq (·.pop)) gL2 rfl
 refine wpAny_pure ⟨plainId_quiet PySem.F.plain_extend_loop _,loop _ _ _ ?_ (fun b o hb e=>?_) gL3⟩
 ·refine Wk.frame 0 _ _ st fun b hb o e=>?_
  have hbL:b ≠ L:=fun h=>hLf (h ▸ hb)
  exact (Heap.get?_update_other _ _ (Ne.symm hbL)).trans ((Heap.get?_update_other _ _ (Ne.symm hbL)).trans e)
 ·exact (Heap.get?_update_other _ _ (Ne.symm hb)).trans ((Heap.get?_update_other _ _ (Ne.symm hb)).trans (keep b o e))
theorem mR {G:List Value->Shared->Prop} (calm:A.handled=none) (S:cC knd s.heap a ks o es ep t)
  (fin:∀ (g:Heap) (tk:Nat) (d:_) (got:Array Value),(∀ b o,s.heap.get? b=some o->g.get? b=some o)->(∃ l:List (Int × Value),l.Perm es.toList/\got.toList=l.map (·.2))->s.heap.objs.size<=g.objs.size->G got.toList { s with heap:=g,toks:=tk,drawn:=d }) :
  wpAny (model prog w) A (collect (.ref a)) G E s:=by
 have la:a < s.heap.objs.size:=Heap.lt_size S.at_
 unfold collect
 refine wpAny_bind (wpAny_runValue (codeAny_builtin entry_proto_collect' ?_))
 rw [Around.under_plainId PySem.F.plain_proto_collect _]
 show wpAny _ A.in1 (newList [] >>= fun z=>again (.builtin "list.__iadd__" ⟨[z,.ref a],[]⟩)) _ _ s
 refine wpAny_bind (wpAny_newObj_type (wpAny_pure ⟨plainId_quiet PySem.F.plain_list_iadd _,codeAny_builtin entry_list_iadd' ?_⟩))
 rw [Around.under_plainId PySem.F.plain_list_iadd _]
 show wpAny _ A.in1 (Builtin.List.listExtendWith (.ref s.heap.objs.size) (.ref a) (.ref s.heap.objs.size)) _ _ _
 have made:(s.heap.push { cls:=.type "list",data:=.seq ([]:List Value).toArray }).get? s.heap.objs.size=some { cls:=.type "list",data:=.seq #[] 0 }:=Heap.get?_push_size _ rfl
 have run:=uQ (A:=A) (s:={ s with heap:=s.heap.push { cls:=.type "list",data:=.seq ([]:List Value).toArray } })
  (R:=fun (z:Result) (t:Shared)=>∃ (g:Heap) (tk:Nat) (d:_) (got:Array Value) (c:Nat),z=.ok (.ret (.ref s.heap.objs.size))/\t = { s with heap:=g,toks:=tk,drawn:=d } /\
   (∀ b o,s.heap.get? b=some o->g.get? b=some o)/\g.get? s.heap.objs.size=some { cls:=.type "list",dict:=none,data:=.seq got c,slots:=#[] }/\∃ l:List (Int × Value),l.Perm es.toList/\got.toList=l.map (·.2))
  calm (S.keep fun o e=>Heap.get?_push_of_some _ e) s.heap.objs.size (Nat.ne_of_gt la) made (.ref s.heap.objs.size)
  (fun g tk d got c kept at_ its=>⟨g,tk,d,got,c,rfl,rfl,fun b o e=>kept b o (Nat.ne_of_lt (Heap.lt_size e)) (Heap.get?_push_of_some _ e),at_,its⟩)
 refine wpAny_mono run (fun z t x=>?_) fun z t ⟨_,_,_,_,_,bad,_⟩=>by cases bad
 cases z with
 | done f =>
  obtain⟨g,tk,d,got,c,e,rfl,kept,at_,its⟩:=x
  cases e
  show wpAny _ A (load s.heap.objs.size >>= _) _ _ _
  exact wpAny_bind (wpAny_load at_ (wpAny_pure (fin g tk d got kept its (Nat.le_of_lt (Heap.lt_size at_)))))
 | again more =>
  refine⟨x.1,codeAny_mono x.2 fun z' t' ⟨g,tk,d,got,c,e1,e2,kept,at_,its⟩=>?_⟩
  subst e1 e2
  show wpAny _ A (load s.heap.objs.size >>= _) _ _ _
  exact wpAny_bind (wpAny_load at_ (wpAny_pure (fin g tk d got kept its (Nat.le_of_lt (Heap.lt_size at_)))))
end
end LS
namespace L2
open PySem PySem.Spec PyProof.Rows LS
theorem lB {P:Program} {w:World} {i:Int} {v:Value} (h:(aG P w).is (Sum.inl i) v=true):∃ t,v=.int i t:=by
 rcases b5 (show fQ (Sum.inl i) v=true from h) with ⟨j,t,e,rfl⟩ | ⟨x,t,e,rfl⟩
 ·cases e;exact⟨t,rfl⟩
 ·cases e
def mS (m:List Key):List Str:=m.filterMap fun k=>match k with | .inr x=>some x | .inl _=>none
def mT (m:List Key):List Int:=m.filterMap fun k=>match k with | .inl x=>some x | .inr _=>none
theorem wB (ss:List Str):mS (ss.map Sum.inr)=ss:=by
 induction ss with
 | nil=>rfl
 | cons x ss ih=>show x :: mS (ss.map Sum.inr)=x :: ss;rw [ih]
theorem wC (ss:List Int):mT (ss.map Sum.inl)=ss:=by
 induction ss with
 | nil=>rfl
 | cons x ss ih=>show x :: mT (ss.map Sum.inl)=x :: ss;rw [ih]
theorem ym {m:List Key} {ss:List Str} (p:m.Perm (ss.map Sum.inr)):m=(mS m).map Sum.inr/\(mS m).Perm ss:=by
 refine⟨?_,by have:=p.filterMap (fun k:Key=>match k with | .inr x=>some x | .inl _=>none);rw [show List.filterMap _ (ss.map Sum.inr)=ss from wB ss] at this;exact this⟩
 have hall:∀ k ∈ m,∃ x,k=Sum.inr x:=fun k hk=>by
  obtain⟨x,_,rfl⟩:=List.mem_map.mp (p.mem_iff.mp hk)
  exact⟨x,rfl⟩
 clear p
 induction m with
 | nil=>rfl
 | cons k m ih =>
  obtain⟨x,rfl⟩:=hall k (List.mem_cons_self ..)
  have:=ih fun k hk=>hall k (List.mem_cons_of_mem _ hk)
  show Sum.inr x :: m=Sum.inr x :: (mS m).map Sum.inr
  rw [<-this]
theorem yn {m:List Key} {ss:List Int} (p:m.Perm (ss.map Sum.inl)):m=(mT m).map Sum.inl/\(mT m).Perm ss:=by
 refine⟨?_,by have:=p.filterMap (fun k:Key=>match k with | .inl x=>some x | .inr _=>none);rw [show List.filterMap _ (ss.map Sum.inl)=ss from wC ss] at this;exact this⟩
 have hall:∀ k ∈ m,∃ x,k=Sum.inl x:=fun k hk=>by
  obtain⟨x,_,rfl⟩:=List.mem_map.mp (p.mem_iff.mp hk)
  exact⟨x,rfl⟩
 clear p
 induction m with
 | nil=>rfl
 | cons k m ih =>
  obtain⟨x,rfl⟩:=hall k (List.mem_cons_self ..)
  have:=ih fun k hk=>hall k (List.mem_cons_of_mem _ hk)
  show Sum.inl x :: m=Sum.inl x :: (mT m).map Sum.inl
  rw [<-this]
section
variable {prog:Program} {w:World} {A:Around} {E:Value->Shared->Prop} {s:Shared} {a:Addr} {ks:List Key} {o:Obj} {es:Array (Int × Value)} {ep:Nat} {t:SetTable}
theorem qM {got:List Value} (S:LS.cC (aG prog w) s.heap a ks o es ep t) (h:∃ l:List (Int × Value),l.Perm es.toList/\got=l.map (·.2)):∃ m:List Key,m.Perm ks/\Paired (fun v k=>(aG prog w).is k v=true) got m:=by
 obtain⟨l,hp,rfl⟩:=h
 obtain⟨ls,q1,q2⟩:=S.ents
 obtain⟨m,m1,m2⟩:=ir hp q2
 refine⟨m,m1.trans q1,?_⟩
 clear hp q2 m1
 induction m2 with
 | nil=>exact .nil
 | cons r _ ih=>exact .cons r.1 ih
theorem jV:∀ {got:List Value} {ss:List Str},Paired (fun v k=>(aG prog w).is k v=true) got (ss.map Sum.inr)->StrsAre got ss
 | _,[],.nil=>.nil
 | _,x :: ss,.cons r t=>by
  obtain⟨t',rfl⟩:=lq r
  exact .cons x t' (jV t)
theorem jW:∀ {got:List Value} {ss:List Int},Paired (fun v k=>(aG prog w).is k v=true) got (ss.map Sum.inl)->IntsAre got ss
 | _,[],.nil=>.nil
 | _,x :: ss,.cons r t=>by
  obtain⟨t',rfl⟩:=lB r
  exact .cons x t' (jW t)
theorem rY {ss:List Str} {Q:Value->Shared->Prop} (hh:A.handled=none) (S:LS.cC (aG prog w) s.heap a (ss.map Sum.inr) o es ep t) (h64:ss.length < 64)
  (q:∀ (h':Heap) (tk:Nat) (d:_) (D:Addr) (out:Array Value) (ss':List Str) (e:Nat),(∀ b o,s.heap.get? b=some o->h'.get? b=some o)->s.heap.objs.size<=D->h'.get? D=some { cls:=.type "list",data:=.seq out e } ->
   StrsAre out.toList ss'->ss'.Perm ss->sortedS ss' = true->Q (.ref D) { s with heap:=h',toks:=tk,drawn:=d }) :
  wpAny (model prog w) A (call (.builtin "sorted") [.ref a]) Q E s:=by
 refine Calls.call_function_entry kind_sorted plain_sorted entry_sorted (args_sorted1 _) ?_
 unfold Builtin.«sorted»
 refine wpAny_bind (m:=checkCount "sorted" 1 1 _) (wpAny_pure ?_)
 refine wpAny_bind (mR (A:=A.in1) hh S fun h' tk d acc hkeep hacc hsz=>?_)
 obtain⟨m,m1,m2⟩:=qM S hacc
 obtain⟨e1,p1⟩:=ym m1
 rw [e1] at m2
 have hS:=jV m2
 have hl:acc.toList.length < 64:=by rw [m2.length,List.length_map,p1.length_eq];exact h64
 refine wpAny_bind (wpAny_newList ?_ (Nat.le_trans (Nat.le_of_lt hl) (by decide)))
 have hoL:(h'.push (seqObj "list" acc.toList.toArray 0)).get? h'.objs.size=some (seqObj "list" acc.toList.toArray 0):=Heap.get?_push_size _ rfl
 refine wpAny_bind (wpAny_holding (wpAny_call_entry slot_list_sort ⟨_,hoL,rfl⟩ entry_list_sort (list_sort_treeK strKind_oneLt hoL hS.keysOf (fun v₁ v₂ rest e=>keyKind_strs (by rw [<-e];exact hS)) hl fun st' a1 a2=>⟨_,rfl,?_⟩) (args_list_sort _)))
 obtain⟨ss',b1,b2,b3⟩:=sorted_out_str hS a1 a2
 obtain⟨e,he⟩:=sortedHeap_at (out:=(arrOf st').map (·.2)) hoL
 refine wpAny_pure ⟨_,rfl,q _ tk d _ _ ss' e (fun b o ho=>?_) hsz he b1 (b2.trans p1) b3⟩
 have h1:=hkeep b o ho
 have hlt:=Heap.lt_size h1
 rw [sortedHeap_old (Nat.ne_of_lt hlt) (by rw [size_push'];exact Nat.lt_succ_of_lt hlt)]
 exact Heap.get?_push_of_some _ h1
theorem rZ {ss:List Int} {Q:Value->Shared->Prop} (hh:A.handled=none) (S:LS.cC (aG prog w) s.heap a (ss.map Sum.inl) o es ep t) (h64:ss.length < 64)
  (q:∀ (h':Heap) (tk:Nat) (d:_) (D:Addr) (out:Array Value) (ss':List Int) (e:Nat),(∀ b o,s.heap.get? b=some o->h'.get? b=some o)->s.heap.objs.size<=D->h'.get? D=some { cls:=.type "list",data:=.seq out e } ->
   IntsAre out.toList ss'->ss'.Perm ss->ss'.Pairwise (· <= ·)->Q (.ref D) { s with heap:=h',toks:=tk,drawn:=d }) :
  wpAny (model prog w) A (call (.builtin "sorted") [.ref a]) Q E s:=by
 refine Calls.call_function_entry kind_sorted plain_sorted entry_sorted (args_sorted1 _) ?_
 unfold Builtin.«sorted»
 refine wpAny_bind (m:=checkCount "sorted" 1 1 _) (wpAny_pure ?_)
 refine wpAny_bind (mR (A:=A.in1) hh S fun h' tk d acc hkeep hacc hsz=>?_)
 obtain⟨m,m1,m2⟩:=qM S hacc
 obtain⟨e1,p1⟩:=yn m1
 rw [e1] at m2
 have hS:=jW m2
 have hl:acc.toList.length < 64:=by rw [m2.length,List.length_map,p1.length_eq];exact h64
 refine wpAny_bind (wpAny_newList ?_ (Nat.le_trans (Nat.le_of_lt hl) (by decide)))
 have hoL:(h'.push (seqObj "list" acc.toList.toArray 0)).get? h'.objs.size=some (seqObj "list" acc.toList.toArray 0):=Heap.get?_push_size _ rfl
 refine wpAny_bind (wpAny_holding (wpAny_call_entry slot_list_sort ⟨_,hoL,rfl⟩ entry_list_sort (list_sort_tree hoL hS hl fun out ss' b1 b2 b3=>⟨_,rfl,?_⟩) (args_list_sort _)))
 obtain⟨e,he⟩:=sortedHeap_at (out:=out) hoL
 refine wpAny_pure ⟨_,rfl,q _ tk d _ _ ss' e (fun b o ho=>?_) hsz he b1 (b2.trans p1) b3⟩
 have h1:=hkeep b o ho
 have hlt:=Heap.lt_size h1
 rw [sortedHeap_old (Nat.ne_of_lt hlt) (by rw [size_push'];exact Nat.lt_succ_of_lt hlt)]
 exact Heap.get?_push_of_some _ h1
end
def bU (P:Program) (w:World) (a:Addr) (ks:List Key):HO:=.ext fun h=>de (aG P w) h a ks
theorem iK {P:Program} {w:World} {H:Hp} {h:Heap} {a:Addr} {ks:List Key} (S:de (aG P w) h a ks):bC P w H h a (bU P w a ks) :=
 ⟨S,let ⟨o,_,_,_,S⟩:=S;⟨o,S.at_⟩,fun h1 h2 S k=>S.keep k⟩
section
variable {X:Cx} {pins:List (Addr × Obj)} {σ : List (Option V)} {H:Hp} {s:Shared}
theorem Inv.nU {a:Addr} {ks:List Key} (I:Inv X pins σ H s) (h:H a=some (bU X.prog X.w a ks)):de (aG X.prog X.w) s.heap a ks:=(I.aJ a _ h).1
theorem Inv.tL {d:_} (I:Inv X pins σ H s):Inv X pins σ H { s with drawn:=d }:=⟨I.ok,I.os,I.bare,I.base,I.loc,I.cell,I.free,I.eI,I.pin,I.aJ,I.len⟩
theorem pN (hc:X.calm=true):cJ X (.builtin "sorted") (fun vs H Q=>∃ (a:Addr) (ss:List Str),vs = [.ref a]/\H a=some (bU X.prog X.w a (ss.map Sum.inr))/\ss.length < 64 /\
  ∀ (l:Addr) (ss':List Str),ss'.Perm ss->sortedS ss' = true->H l=none->Q (.ref l) (upd H l (.lst (ss'.map V.str)))):=by
 intro pins s σ H xs us Q I r h
 obtain⟨a,ss,rfl,ha,h64,q⟩:=h
 obtain⟨u,rfl,ru⟩:=vals1 r
 cases (show u=Value.ref a from ru)
 obtain⟨o,es,ep,t,S⟩:=I.nU ha
 refine rY (I.ok.hd hc) S h64 fun h' tk d D out ss' e hkeep hD he hS hp hs=>?_
 have hv:Vals (ss'.map V.str) out.toList:=nR hS
 refine⟨.ref D,_,(I.tL (d:=d)).laid (t':=tk) (o:=.lst (ss'.map V.str)) hkeep hD (show bC X.prog X.w _ h' _ (.lst (ss'.map V.str)) from ⟨?_,out.toList,e,hv,by simpa using he⟩),rfl,q D ss' hp hs (I.aJ.fresh hD)⟩
 rw [List.length_map,hp.length_eq]
 exact Nat.le_trans (Nat.le_of_lt h64) (by decide)
theorem jx (hc:X.calm=true):cJ X (.builtin "sorted") (fun vs H Q=>∃ (a:Addr) (ss:List Int),vs = [.ref a]/\H a=some (bU X.prog X.w a (ss.map Sum.inl))/\ss.length < 64 /\
  ∀ (l:Addr) (ss':List Int),ss'.Perm ss->ss'.Pairwise (· <= ·)->H l=none->Q (.ref l) (upd H l (.lst (ss'.map V.int)))):=by
 intro pins s σ H xs us Q I r h
 obtain⟨a,ss,rfl,ha,h64,q⟩:=h
 obtain⟨u,rfl,ru⟩:=vals1 r
 cases (show u=Value.ref a from ru)
 obtain⟨o,es,ep,t,S⟩:=I.nU ha
 refine rZ (I.ok.hd hc) S h64 fun h' tk d D out ss' e hkeep hD he hS hp hs=>?_
 have hv:Vals (ss'.map V.int) out.toList:=fW hS
 refine⟨.ref D,_,(I.tL (d:=d)).laid (t':=tk) (o:=.lst (ss'.map V.int)) hkeep hD (show bC X.prog X.w _ h' _ (.lst (ss'.map V.int)) from ⟨?_,out.toList,e,hv,by simpa using he⟩),rfl,q D ss' hp hs (I.aJ.fresh hD)⟩
 rw [List.length_map,hp.length_eq]
 exact Nat.le_trans (Nat.le_of_lt h64) (by decide)
end
end L2
namespace LS
open PySem PySem.Spec PyProof.Rows L2
section
variable {K:Type} [DecidableEq K]
def putIn (acc:List K) (k:K):List K:=if k ∈ acc then acc else acc ++ [k]
def cM (ms:List K):List K:=ms.foldl putIn []
theorem dq {acc:List K} {k x:K}:x ∈ putIn acc k ↔ x ∈ acc\/x=k:=by
 unfold putIn
 split
 ·rename_i h
  exact⟨.inl,fun z=>z.elim id (fun e=>e ▸ h)⟩
 ·simp
theorem wF (acc:List K) (k:K):(putIn acc k).length<=acc.length+1:=by unfold putIn;split <;> simp
theorem qN:∀ (ms acc:List K) (x:K),x ∈ ms.foldl putIn acc ↔ x ∈ acc\/x ∈ ms
 | [],acc,x=>by simp
 | k :: ms,acc,x=>by
  rw [List.foldl_cons,qN ms,dq]
  simp [or_assoc]
theorem oU {ms:List K} {x:K}:x ∈ cM ms ↔ x ∈ ms:=by unfold cM;rw [qN];simp
theorem qO:∀ (ms acc:List K),(ms.foldl putIn acc).length<=acc.length+ms.length
 | [],acc=>by simp
 | k :: ms,acc=>by
  rw [List.foldl_cons]
  have:=qO ms (putIn acc k)
  have:=wF acc k
  simp only [List.length_cons];omega
theorem tM:∀ (ms acc:List K),acc.Nodup->(ms.foldl putIn acc).Nodup
 | [],acc,h=>h
 | k :: ms,acc,h=>by
  rw [List.foldl_cons]
  refine tM ms _ ?_
  unfold putIn
  split
  ·exact h
  ·rename_i hn
   rw [List.nodup_append]
   exact⟨h,by simp,fun a ha b hb e=>hn (by rw [List.mem_singleton] at hb;rw [<-hb,<-e];exact ha)⟩
theorem qP (ms:List K):(cM ms).Nodup:=tM ms [] List.nodup_nil
end
section
variable {prog:Program} {w:World} {A:Around} {E:Value->Shared->Prop} {s:Shared}
theorem qQ {k:Key} {v:Value} (h:(aG prog w).is k v=true):v.scannable=true:=by
 rcases b5 (show fQ k v=true from h) with ⟨j,t,_,rfl⟩ | ⟨x,t,_,rfl⟩ <;> rfl
theorem nV {a:Addr} {ks:List Key} {k:Key} {v:Value} {Q:Bool->Shared->Prop} (hk:(aG prog w).is k v=true) (S:de (aG prog w) s.heap a ks) (room:ks.length+1 < scanBound)
  (q:∀ h',Heap.SameBut a s.heap h'->de (aG prog w) h' a (putIn ks k)->∀ c:Bool,Q c { s with heap:=h',toks:=s.toks+1 }):wpAny (model prog w) A (setAdd a v) Q E s:=by
 unfold setAdd
 refine wpAny_holding ?_
 refine wpAny_bind ((aG prog w).pyHash hk ?_)
 exact uN (s:={ s with toks:=s.toks+1 }) hk (qQ hk) S room fun h' b S'=>q h' b S' _
theorem yo {a:Addr} {ks:List Key} {k:Key} {v:Value} {Q:Value->Shared->Prop} (hk:(aG prog w).is k v=true) (S:de (aG prog w) s.heap a ks) (room:ks.length+1 < scanBound)
  (q:∀ h',Heap.SameBut a s.heap h'->de (aG prog w) h' a (putIn ks k)->Q .none { s with heap:=h',toks:=s.toks+1 }):wpAny (model prog w) A (call (.builtin "set.add") [.ref a,v]) Q E s:=by
 refine wpAny_call_entry PySem.F.slot_set_add S.setOf.typeIs PySem.F.entry_set_add ?_ (PySem.F.args_set_add_2 _ _)
 unfold Builtin.«set.add» Builtin.Frozenset.oneOther
 simp only [List.isEmpty_nil,bind_assoc]
 unfold Builtin.Frozenset.addrOf
 refine wpAny_bind (wpAny_pure ?_)
 refine wpAny_bind (wpAny_pure ?_)
 refine wpAny_bind (nV hk S room fun h' b S' _=>?_)
 exact wpAny_pure ⟨_,rfl,q h' b S'⟩
theorem wG {I L:Addr} {fp wr:List Addr} {G:Array GenState->Array GenState->Prop} {n:Nat} {P:Nat->Value->Prop} {St:Nat->Shared->Prop} {R:Result->Shared->Prop} (W:WalksS prog w A.in1 I fp wr G n P St) (hLf:L ∉ fp)
  (ms:List Key) (hl:ms.length=n) (hm:∀ i v,P i v->∃ k,ms[i]? = some k/\(aG prog w).is k v=true) (hb:n+1 < scanBound) :
  ∀ (k i:Nat) (s:Shared),n - i=k->i<=n->St i s->de (aG prog w) s.heap L (cM (ms.take i)) ->
   (∀ s',Moved (L :: wr) G s s'->de (aG prog w) s'.heap L (cM ms)->R (.ok (.ret .none)) s') ->
   codeAny (model prog w) A (.builtin "set.update.loop" ⟨[.ref L,.ref I],[]⟩) R s:=by
 have hLw:L ∉ wr:=fun h=>hLf (W.sub _ h)
 intro k
 induction k with
 | zero =>
  intro i s hk hi st S q
  have e:i=n:=by omega
  subst e
  refine codeAny_builtin PyProof.Rows.F.entry_set_update_loop ?_
  rw [Around.under_plainId PyProof.Rows.F.plain_set_update_loop _]
  show wpAny _ A.in1 (pyNext (.ref I) >>= _) _ _ s
  refine wpAny_bind (W.done s _ _ st fun s' mv=>?_)
  refine wpAny_pure (q s' (mv.mono fun b hb=>List.mem_cons_of_mem _ hb) ?_)
  rw [List.take_of_length_le (by omega)] at S
  exact S.keep fun o e=>mv.heap L _ hLw e
 | succ k ih =>
  intro i s hk hi st S q
  have hlt:i < n:=by omega
  refine codeAny_builtin PyProof.Rows.F.entry_set_update_loop ?_
  rw [Around.under_plainId PyProof.Rows.F.plain_set_update_loop _]
  show wpAny _ A.in1 (pyNext (.ref I) >>= _) _ _ s
  refine wpAny_bind (W.item i s _ _ hlt st fun v s' hP st' mv=>?_)
  obtain⟨key,hkey,his⟩:=hm i v hP
  have S':de (aG prog w) s'.heap L (cM (ms.take i)):=S.keep fun o e=>mv.heap L _ hLw e
  refine wpAny_bind (wpAny_holding (nV his S' ?_ fun h' sb S2 _=>?_))
  ·have h1:=qO (ms.take i) []
   have h2:(ms.take i).length<=i:=by rw [List.length_take];omega
   have h3:(cM (ms.take i)).length<=0+(ms.take i).length:=h1
   omega
  ·have e1:putIn (cM (ms.take i)) key=cM (ms.take (i+1)):=by
    unfold cM
    rw [List.take_add_one,hkey,List.foldl_append];rfl
   rw [e1] at S2
   refine wpAny_pure ⟨plainId_quiet PyProof.Rows.F.plain_set_update_loop _,ih (i+1) _ (by omega) hlt (W.frame _ s' _ _ st' (Nat.le_succ _) fun b hb o e=>?_) S2 fun s'' mv2 S3=>?_⟩
   ·rw [sb.2 b (fun h:b=L=>hLf (by rw [<-h];exact hb))];exact e
   ·refine q s'' (Moved.trans W.gtrans ((mv.mono fun b hb=>List.mem_cons_of_mem _ hb).then_heap (Nat.le_succ _) fun b o hb e=>?_) mv2) S3
    rw [sb.2 b (fun h:b=L=>hb (by rw [h];exact List.mem_cons_self))];exact e
end
theorem dt {α β : Type} {F:α->β->Prop}:∀ {l:List α} {m:List β},Paired F l m->∀ {i:Nat} {x:α},l[i]? = some x->∃ y,m[i]? = some y/\F x y
 | _,_,.nil,i,x,e=>by simp at e
 | _,_,.cons r _,0,x,e=>by simp at e;subst e;exact⟨_,rfl,r⟩
 | _,_,.cons _ t,i+1,x,e=>by simpa using dt t (i:=i) (x:=x) (by simpa using e)
def bK (w:World):Obj:={ cls:=.type "set",dict:=none,data:=.set #[] 0 (.fresh 0 0 (!(w.params.followText "set-order"))) }
section
variable {prog:Program} {w:World} {A:Around} {E:Value->Shared->Prop} {s:Shared}
theorem wH (rest:List Value) (hc:checkBuiltinCall "set.__new__" ⟨.type "set" :: rest,[]⟩=pure ()) {Q:Value->Shared->Prop} (q:Q (.ref s.heap.objs.size) { s with heap:=s.heap.push (bK w) }) :
  codeAny (model prog w) A (.call (.builtin "set.__new__") ⟨.type "set" :: rest,[]⟩) (wants Q E) s:=by
 refine codeAny_of_tree ?_
 show wpAny _ A.in1 (checkBuiltinCall "set.__new__" ⟨.type "set" :: rest,[]⟩ >>= fun _=>again (.builtin "set.__new__" ⟨.type "set" :: rest,[]⟩)) _ _ s
 refine wpAny_bind (wpAny_of_eq hc (wpAny_pure ⟨plainId_quiet PySem.F.plain_set_new _,codeAny_builtin PySem.F.entry_set_new ?_⟩))
 rw [Around.under_plainId PySem.F.plain_set_new _]
 unfold Builtin.«set.__new__» Builtin.Frozenset.newClass
 have hsub:=sub_set_self
 obtain⟨hp,g,d,tk,os⟩:=s
 dsimp only
 wp_walk
 refine wpAny_askSetting (wpAny_pure ?_)
 dsimp only
 simp only [newObj]
 refine wpAny_bind (wpAny_alloc (wpAny_pure ?_))
 exact wpAny_pure q
theorem lX {rest:List Value} {Q:Value->Shared->Prop} (hct:checkTypeCall "set" ⟨rest,[]⟩=pure ()) (hcn:checkBuiltinCall "set.__new__" ⟨.type "set" :: rest,[]⟩=pure ())
  (hci:∀ (M:Model) (A:Around) (E:Value->Shared->Prop) (s':Shared) (Q':Unit->Shared->Prop),s'.TypeIs (.ref s.heap.objs.size) "set" -> Q' () s'->wpAny M A (checkBuiltinCall "set.__init__" ⟨.ref s.heap.objs.size :: rest,[]⟩) Q' E s')
  (init:∀ (R:Result->Shared->Prop),(∀ h' tk,(∀ b o,s.heap.get? b=some o->h'.get? b=some o)->Q (.ref s.heap.objs.size) { s with heap:=h',toks:=tk }->R (.ok (.ret .none)) { s with heap:=h',toks:=tk }) ->
   wpAny (model prog w) A.in1.in1 (Builtin.«set.__init__» ⟨.ref s.heap.objs.size :: rest,[]⟩) (fun fin s'=>match fin with | .done f=>R (.ok f) s' | .again c'=>c'.quiet=true/\codeAny (model prog w) A.in1 c' R s') (fun e s'=>R (.error e) s')
    { s with heap:=s.heap.push (bK w) }) :
  wpAny (model prog w) A (call (.type "set") rest) Q E s:=by
 obtain⟨c,tl,hmro⟩:=PySem.F.called_set.mro
 have hmade:=PySem.F.called_set.made
 have hsub:=PySem.F.called_set.sub
 refine wpAny_call (codeAny_of_tree ?_)
 show wpAny _ _ (callAny (.type "set") _) _ _ _
 refine wpAny_pure ⟨Code.quiet_builtin _ (by decide +kernel),codeAny_builtin PySem.F.entry_type_call ?_⟩
 rw [Around.under_plain (weight_type_call_type "set" rest []) rfl]
 have h1:=PySem.F.called_set.notType
 have h2:=PySem.F.called_set.canCreate
 repeat (any_goals (first | assumption | wp_step))
 refine codeAny_mono (wH (w:=w) rest hcn (E:=E) (Q:=fun obj s₁=>obj=.ref s.heap.objs.size/\s₁ = { s with heap:=s.heap.push (bK w) }) ⟨rfl,rfl⟩) fun r s₁ hr=>?_
 cases r with
 | error e=>exact hr
 | ok fl =>
  cases fl with
  | ret obj =>
   obtain⟨rfl,rfl⟩:=hr
   have hS:(s.heap.push (bK w)).get? s.heap.objs.size=some (bK w):=Heap.get?_push_size _ rfl
   have hT:Shared.TypeIs { s with heap:=s.heap.push (bK w) } (.ref s.heap.objs.size) "set" := ⟨_,hS,rfl⟩
   have hli:=PySem.F.called_set.init.lookup
   have hbi:=PySem.F.called_set.init.bind (.ref s.heap.objs.size)
   repeat (any_goals (first | assumption | wp_step))
   refine codeAny_mono (codeAny_call_builtin (R:=wants (fun r s₂=>r=.none/\Q (.ref s.heap.objs.size) s₂) E) PySem.F.called_set.init.plain PySem.F.entry_set_init (hci _ _ _ _ _ hT (init _ fun h' tk _ q=>⟨rfl,q⟩))) fun r₂ s₂ hr₂=>?_
   cases r₂ with
   | error e=>exact hr₂
   | ok fl₂ =>
    cases fl₂ with
    | ret r =>
     obtain⟨rfl,hq⟩:=hr₂
     repeat (any_goals (first | assumption | wp_step))
    | _=>exact hr₂.elim
  | _=>exact hr.elim
theorem wI {Q:Value->Shared->Prop} (q:∀ h',de (aG prog w) h' s.heap.objs.size []->(∀ b o,s.heap.get? b=some o->h'.get? b=some o)->Q (.ref s.heap.objs.size) { s with heap:=h' }):wpAny (model prog w) A (call (.type "set") []) Q E s:=by
 refine lX PySem.F.typeCall_set_0 PySem.F.newCall_set_0 (fun M A E s' Q' hT q'=>check_set_init hT q') fun R fin=>?_
 have hS:(s.heap.push (bK w)).get? s.heap.objs.size=some (bK w):=Heap.get?_push_size _ rfl
 have hT:Shared.TypeIs { s with heap:=s.heap.push (bK w) } (.ref s.heap.objs.size) "set" := ⟨_,hS,rfl⟩
 unfold bK at hS hT ⊢
 unfold Builtin.«set.__init__» noKeywords
 wp_walk
 exact fin _ s.toks (fun b o e=>Heap.get?_push_of_some _ e) (q _ (jT rfl hS) fun b o e=>Heap.get?_push_of_some _ e)
theorem set_list {l:Addr} {items:Array Value} {ms:List Key} {Q:Value->Shared->Prop} (hh:A.handled=none) (hl:s.heap.IsList l items) (hm:Paired (fun v k=>(aG prog w).is k v=true) items.toList ms) (hb:items.size+1 < scanBound)
  (q:∀ h' tk,de (aG prog w) h' s.heap.objs.size (cM ms)->(∀ b o,s.heap.get? b=some o->h'.get? b=some o)->Q (.ref s.heap.objs.size) { s with heap:=h',toks:=tk }):wpAny (model prog w) A (call (.type "set") [.ref l]) Q E s:=by
 refine lX (PySem.F.typeCall_set_1 _) (PySem.F.newCall_set_1 _) (fun M A E s' Q' hT q'=>check_set_init_1 hT q') fun R fin=>?_
 have hS:(s.heap.push (bK w)).get? s.heap.objs.size=some (bK w):=Heap.get?_push_size _ rfl
 have hT:Shared.TypeIs { s with heap:=s.heap.push (bK w) } (.ref s.heap.objs.size) "set" := ⟨_,hS,rfl⟩
 have hz:(s.heap.push (bK w)).objs.size=s.heap.objs.size+1:=Heap.size_push _ _
 obtain⟨ol,hol,hcl,nl,hdl⟩:=id hl
 obtain⟨ocls,odict,odata,oslots⟩:=ol
 simp only at hcl hdl
 subst hcl
 subst hdl
 have hol':(s.heap.push (bK w)).get? l=some { cls:=.type "list",dict:=odict,data:=.seq items nl,slots:=oslots }:=Heap.get?_push_of_some _ hol
 have hsls:=PySem.F.sub_list_set
 have hslf:=PySem.F.sub_list_frozenset
 have hne:(Value.type "list" == Value.type "dict")=false:=by decide
 have hl1:(s.heap.push (bK w)).IsList l items:=⟨_,hol',rfl,nl,rfl⟩
 have hlS:l < s.heap.objs.size:=Heap.lt_size hol
 unfold bK at hS hT hz hol' hl1 ⊢
 unfold Builtin.«set.__init__» noKeywords Builtin.Frozenset.updateFrom
 generalize hPI:pyIter=PI
 wp_walk
 subst hPI
 refine wpAny_pyIter_list hl1 ?_
 refine wpAny_bind (wpAny_runValue ?_)
 have hh3:A.in1.in1.in1.handled=none:=by simp [hh]
 refine wG (L:=s.heap.objs.size) ((Walks.list hh3 _ l ?_ items).toS) ?_ ms ?_ (fun i v hv=>?_) hb (items.size - 0) 0 _ (by omega) (Nat.zero_le _) ⟨⟨_,Heap.get?_push_size _ rfl,rfl,rfl⟩,(hl1.push _)⟩ ?_ fun s' mv S'=>?_
 ·rw [hz];exact Nat.ne_of_lt (Nat.lt_succ_of_lt hlS)
 ·rw [hz]
  intro hmem
  rcases iu hmem with e | e
  ·exact absurd e (Nat.ne_of_lt (Nat.lt_succ_self _))
  ·exact absurd e (Nat.ne_of_gt hlS)
 ·rw [<-hm.length,Array.length_toList]
 ·have hv':items.toList[i]? = some v:=by rw [Array.getElem?_toList];exact hv
  exact dt hm hv'
 ·exact jT rfl (Heap.get?_push_of_some _ hS)
 ·obtain⟨h',g',d',tk',os'⟩:=s'
  have eg:g' = s.gens:=mv.gens
  have ed:d' = s.drawn:=mv.drawn
  have eo:os' = s.os:=mv.os
  subst eg;subst ed;subst eo
  have kp:∀ b o,s.heap.get? b=some o->h'.get? b=some o:=fun b o e=>mv.heap b o (fun hm=>by
   rcases iu hm with e' | e'
   ·exact absurd e' (Nat.ne_of_lt (Heap.lt_size e))
   ·rw [hz] at e';exact absurd e' (Nat.ne_of_lt (Nat.lt_succ_of_lt (Heap.lt_size e)))) (Heap.get?_push_of_some _ (Heap.get?_push_of_some _ e))
  show wpAny _ _ _ _ _ _
  refine wpAny_pure ?_
  exact wpAny_pure (fin h' tk' kp (q h' tk' S' kp))
end
end LS
namespace L2
open PySem PySem.Spec PyProof.Rows LS
theorem qR:bootBuiltins "set" = some (.type "set"):=by decide +kernel
theorem z5 {K:Type} [DecidableEq K] {k:K} {ks:List K}:decide (k ∈ ks)=true ↔ k ∈ ks:=decide_eq_true_iff
theorem kL {P:Program} {w:World} {k:Key} {v:Value} (r:RelV (kV k) v):(aG P w).is k v=true:=by
 cases k with
 | inl i=>obtain⟨t,rfl⟩:=r;exact kU P w i t
 | inr x=>obtain⟨t,rfl⟩:=r;exact kW P w x t
theorem lC {P:Program} {w:World}:∀ {ks:List Key} {us:List Value},Vals (ks.map kV) us->Paired (fun v k=>(aG P w).is k v=true) us ks
 | [],_,.nil=>.nil
 | k :: ks,_,.cons r t=>.cons (kL r) (lC t)
section
variable {X:Cx}
theorem Inv.Co {pins:List (Addr × Obj)} {σ : List (Option V)} {H:Hp} {s:Shared} {n:Nat} (I:Inv X pins σ H s):Inv X pins σ H { s with toks:=n }:=⟨I.ok,I.os,I.bare,I.base,I.loc,I.cell,I.free,I.eI,I.pin,I.aJ,I.len⟩
theorem wJ:cJ X (.type "set") (fun vs H Q=>vs = []/\∀ l,H l=none->Q (.ref l) (upd H l (bU X.prog X.w l []))):=by
 intro pins s σ H xs us Q I r h
 obtain⟨rfl,q⟩:=h
 cases r
 refine wI fun h' S kp=>?_
 exact⟨.ref s.heap.objs.size,_,I.laid (t':=s.toks) kp (Nat.le_refl _) (iK S),rfl,q _ I.fresh⟩
theorem wK (hc:X.calm=true):cJ X (.type "set") (fun vs H Q=>∃ (p:Addr) (ks:List Key),vs = [.ref p]/\aI X.K H p (ks.map kV)/\ks.length+1 < scanBound/\∀ l,H l=none->Q (.ref l) (upd H l (bU X.prog X.w l (cM ks)))):=by
 intro pins s σ H xs us Q I r h
 obtain⟨p,ks,rfl,hp,hz,q⟩:=h
 obtain⟨u,rfl,ru⟩:=vals1 r
 cases (show u=Value.ref p from ru)
 obtain⟨its,hv,pl,_⟩:=I.list hp
 have hm:=lC (P:=X.prog) (w:=X.w) hv
 refine LS.set_list (I.ok.hd hc) pl.isList (by simpa using hm) (by have:=hm.length;simp at this ⊢;omega) fun h' tk S kp=>?_
 exact⟨.ref s.heap.objs.size,_,I.laid (t':=tk) kp (Nat.le_refl _) (iK S),rfl,q _ I.fresh⟩
inductive C2 (P:Program) (w:World) (neg:Bool) (x:V) (y:V) (H:Hp) (Q:VK):Prop
 | mk (a ks k:_) (_:y=.ref a) (_:H a=some (bU P w a ks)) (_:x=kV k) (_:∀ b:Bool,(b=true ↔ k ∈ ks)->Q (.bl (if neg then !b else b)) H)
theorem wL:cY X (compareOp .NotIn) (C2 X.prog X.w true):=by
 intro pins s σ H x y v u Q I rx ry h
 obtain⟨a,ks,k,rfl,ha,rfl,q⟩:=h
 cases ry
 have hk:(aG X.prog X.w).is k v=true:=kL rx
 have S:=(I.nU ha).setOf
 exact wpAny_notInSet_of hk (qQ hk) S ⟨.bl _,H,I.Co,rfl,q _ z5⟩
def C3 (P:Program) (w:World) (r:V->List V->Hp->VK->Prop) (to:TE) (t:TA):TE:=fun σ H Q=>to σ H fun x H1=>(∃ a ks,x=.ref a/\H1 a=some (bU P w a ks))/\t σ H1 fun xs H2=>r x xs H2 Q
variable {o e:Expr} {es:List Expr} {to:TE} {t:TA} {name:Str} {apos cpos:Pos} {id:String} {r:V->List V->Hp->VK->Prop}
theorem wM (slot:Slot "set" name id) (hty:typeOf (.builtin id)=pure (.type "method_descriptor")) (hm:sU X id r) (ho:PE X o to) (ha:PA X (e :: es) t)
  (hbase:attributeBase o name X.env (eval o X.env)=eval o X.env:=by rfl)
  (hfew:((backTo cpos (starEach (e :: es) X.env)).all (fun x=>!x.1) && (backToKw cpos (keywordEach [] X.env)).all (fun x=>x.1.isSome)
   && decide ((e :: es).length+([]:List Keyword).length+(if ([]:List Keyword).isEmpty then 0 else 1) < 30))=true:=by rfl)
  (hline:(apos.endLine == cpos.line)=true:=by rfl) (hs:starEach (e :: es) X.env=(false,eval e X.env) :: starEach es X.env:=by rfl) (hplain:(backTo cpos (starEach es X.env)).any (·.1)=false:=by rfl) :
  PE X (.Call (.Attribute o name apos) (e :: es) [] cpos) (C3 X.prog X.w r to t):=by
 intro pins s σ H Q I h
 refine wpAny_Call_method_late hbase hfew hline rfl (aT (ho pins s σ H _ I h) fun v s1 ⟨x,H1,I1,r1,ty,q1⟩=>?_)
 obtain⟨a,ks,rfl,hset⟩:=ty
 cases (show v=Value.ref a from r1)
 have S:=(I1.nU hset).setOf
 refine⟨"set",id,PySem.F.plainAttrs_set,slot,hty,S.typeIs,S.noDict,?_⟩
 have hA:=ha cpos pins s1 σ H1 _ I1 q1
 rw [hs] at hA ⊢
 refine Calls.callWith_builtin (by show (false || (backTo cpos (starEach es X.env)).any (·.1))=false;rw [hplain] <;> rfl) (Calls.evalArgs_plain ?_)
 exact aT hA fun us s2 ⟨vs,H2,I2,r2,q2⟩=>hm pins s2 σ H2 (.ref a) vs (.ref a) us Q I2 rfl r2 q2
inductive Cc (P:Program) (w:World) (x:V) (vs:List V) (H:Hp) (Q:VK):Prop
 | mk (a ks k:_) (_:x=.ref a) (_:vs = [kV k]) (_:H a=some (bU P w a ks)) (_:ks.length+1 < scanBound) (_:Q .bg (upd H a (bU P w a (putIn ks k))))
theorem tN:sU X "set.add" (Cc X.prog X.w):=by
 intro pins s σ H x xs v us Q I rx r h
 obtain⟨a,ks,k,rfl,rfl,ha,hz,q⟩:=h
 cases (show v=Value.ref a from rx)
 obtain⟨u,rfl,ru⟩:=vals1 r
 refine yo (kL ru) (I.nU ha) hz fun h' b S'=>?_
 refine⟨.bg,_,I.write (t':=s.toks+1) (x:=a) (e:=a) (by rw [ha];exact trivial) (.inl rfl) (fun c u' hc hu=>b.extBut c u' hc hu) ?_ (iK S'),rfl,q⟩
 obtain⟨o,_,_,_,So⟩:=S'
 exact⟨o,So.at_⟩
end
structure p8 (K:PySem.W.Frag) (mg:Str->Option Value) (aD d0 d1 d2 d3 d4:Addr):Prop where
 tab:yc K mg "DEED_PARTS" aD [("put",d0),("copy",d1),("add",d2),("read",d3),("tell",d4)]
 q0:KTup K d0 ["name", "number"]
 q1:KTup K d1 ["name", "name"]
 q2:KTup K d2 ["name", "number"]
 q3:KTup K d3 ["name"]
 q4:KTup K d4 ["name"]
def cU:cG->List Str
 | .put x _=>[x]
 | .copy x y=>[x,y]
 | .add x _=>[x]
 | .read x=>[x]
 | .tell x=>[x]
def hR:End->List Str
 | .cH _ x _ _ _=>[x]
 | _=>[]
def pNames (p:Piece):List Str:=p.1.flatMap cU++hR p.2
def bo (ps:List Piece):List Str:=ps.flatMap pNames
def kD:cG->List Str
 | .put ..=>["name", "number"]
 | .copy ..=>["name", "name"]
 | .add ..=>["name", "number"]
 | .read ..=>["name"]
 | .tell ..=>["name"]
def wD:cG->Str
 | .put .. => "put"
 | .copy .. => "copy"
 | .add .. => "add"
 | .read .. => "read"
 | .tell .. => "tell"
theorem uR (d:cG):∃ xs,p7 d=.str (wD d) :: xs/\xs.length<=1000/\pick "name" xs (kD d)=(cU d).map V.str:=by
 have h2:¬ ("number" : Str) = "name" := by decide +kernel
 cases d with
 | put x n=>exact⟨_,rfl,by show 2<=1000;decide,by simp [pick,kD,cU,h2]⟩
 | copy x y=>exact⟨_,rfl,by show 2<=1000;decide,by simp [pick,kD,cU]⟩
 | add x n=>exact⟨_,rfl,by show 2<=1000;decide,by simp [pick,kD,cU,h2]⟩
 | read x=>exact⟨_,rfl,by show 1<=1000;decide,by simp [pick,kD,cU]⟩
 | tell x=>exact⟨_,rfl,by show 1<=1000;decide,by simp [pick,kD,cU]⟩
theorem uS (e:End):∃ xs,eO e=.str (wE e) :: xs/\xs.length<=1000/\pick "name" xs (kE e)=(hR e).map V.str:=by
 have h1:¬ ("piece" : Str) = "name" := by decide +kernel
 have h2:¬ ("number" : Str) = "name" := by decide +kernel
 cases e with
 | stop=>exact⟨[],rfl,by decide,rfl⟩
 | go p=>exact⟨_,rfl,by show 1<=1000;decide,by simp [pick,kE,hR,h1]⟩
 | cH b x n p q=>exact⟨_,rfl,by show 4<=1000;decide,by simp [pick,kE,hR,h1,h2]⟩
theorem iL {k:Str} {d:Addr} {D:List (Str × Addr)}:KTD.datumAt k ((k,d) :: D)=some d:=by
 show (if decide (k=k)=true then some d else KTD.datumAt k D)=some d
 rw [if_pos (decide_eq_true rfl)]
theorem dA {k x:Str} {d:Addr} {D:List (Str × Addr)} {o:Option Addr} (h:¬ k=x) (e:KTD.datumAt k D=o):KTD.datumAt k ((x,d) :: D)=o:=by
 show (if decide (k=x)=true then some d else KTD.datumAt k D)=o
 rw [if_neg (by rw [decide_eq_false h];decide)]
 exact e
theorem p8.at_ {K:PySem.W.Frag} {mg:Str->Option Value} {aD d0 d1 d2 d3 d4:Addr} (G:p8 K mg aD d0 d1 d2 d3 d4) (d:cG) :
  ∃ s,KTD.datumAt (wD d) [(("put" : Str),d0),("copy",d1),("add",d2),("read",d3),("tell",d4)] = some s/\KTup K s (kD d):=by
 cases d with
 | put x n=>exact⟨d0,iL,G.q0⟩
 | copy x y=>exact⟨d1,dA (show ¬ (("copy" : Str) = "put") by decide +kernel) iL,G.q1⟩
 | add x n=>exact⟨d2,dA (show ¬ (("add" : Str) = "put") by decide +kernel) (dA (show ¬ (("add" : Str) = "copy") by decide +kernel) iL),G.q2⟩
 | read x=>exact⟨d3,dA (show ¬ (("read" : Str) = "put") by decide +kernel) (dA (show ¬ (("read" : Str) = "copy") by decide +kernel) (dA (show ¬ (("read" : Str) = "add") by decide +kernel) iL)),G.q3⟩
 | tell x=>exact⟨d4,dA (show ¬ (("tell" : Str) = "put") by decide +kernel) (dA (show ¬ (("tell" : Str) = "copy") by decide +kernel) (dA (show ¬ (("tell" : Str) = "add") by decide +kernel) (dA (show ¬ (("tell" : Str) = "read") by decide +kernel) iL))),G.q4⟩
theorem yq (acc ys:List Str):(ys.map (Sum.inr:Str->Key)).foldl LS.putIn (acc.map Sum.inr)=(ys.foldl LS.putIn acc).map Sum.inr:=by
 induction ys generalizing acc with
 | nil=>rfl
 | cons y ys ih =>
  rw [List.map_cons,List.foldl_cons,List.foldl_cons,<-ih]
  congr 1
  unfold LS.putIn
  by_cases h:y ∈ acc
  ·rw [if_pos h,if_pos (List.mem_map.mpr ⟨y,h,rfl⟩)]
  ·rw [if_neg h,if_neg (fun z=>by obtain⟨x,hx,e⟩:=List.mem_map.mp z;cases e;exact h hx),List.map_append];rfl
theorem uT (ys:List Str):cM (ys.map (Sum.inr:Str->Key))=(cM ys).map Sum.inr:=yq [] ys
theorem z6 (ys:List Str):(ys.map (Sum.inr:Str->Key)).map kV=ys.map V.str:=by rw [List.map_map];rfl
theorem oV {xs:List Str} {m:Nat} {ps:List Piece} (ok:bY xs m ps):∀ x ∈ bo ps,x ∈ xs:=fun x hx=>by
 obtain⟨p,hp,hx⟩:=List.mem_flatMap.mp hx
 rcases List.mem_append.mp hx with h | h
 ·obtain⟨d,hd,h⟩:=List.mem_flatMap.mp h
  have dk:=(ok.gG p hp).2 d hd
  cases d with
  | put a n=>rw [List.mem_singleton.mp h];exact dk.1
  | copy a b =>
   rcases List.mem_cons.mp h with rfl | h
   ·exact dk.1
   ·rw [List.mem_singleton.mp h];exact dk.2
  | add a n=>rw [List.mem_singleton.mp h];exact dk.1
  | read a=>rw [List.mem_singleton.mp h];exact dk
  | tell a=>rw [List.mem_singleton.mp h];exact dk
 ·have ek:=ok.ends p hp
  obtain⟨ds,e⟩:=p
  cases e with
  | stop=>cases h
  | go q=>cases h
  | cH b a n q r=>rw [List.mem_singleton.mp h];exact ek.1
theorem oW {α β : Type} {l:List α} {f:α->List β} {i:Nat} {x:α} (h:l[i]? = some x):(l.take (i+1)).flatMap f=(l.take i).flatMap f++f x:=by
 rw [List.take_add_one,h,List.flatMap_append];simp
theorem jy {α β : Type} {l:List α} {f:α->List β} (i:Nat):((l.take i).flatMap f).length<=(l.flatMap f).length:=by
 conv=>rhs;rw [<-List.take_append_drop i l,List.flatMap_append,List.length_append]
 exact Nat.le_add_right _ _
inductive oX  (vs:List V) (H:Hp) (Q:VK) (_:XK):Prop
 | mk (plv:V) (ps:List Piece) (xs:List Str) (m:Nat) (_:vs = [plv]) (_:aP H plv (eM ps)) (_:bY xs m ps) (_:xs.length < 64) (_:(bo ps).length<=4000) (_:∀ (t:Addr) (ss:List Str) (H':Hp),H' t=some (.tup (ss.map V.str))->ss.Perm (cM (bo ps))->sortedS ss=true->ss.length < 64->ae H H'->Q (.ref t) H')
theorem yr {xs:List Str} {m:Nat} {ps:List Piece} (ok:bY xs m ps):(cM (bo ps)).length<=xs.length :=
 sub_len (qP _) fun x hx=>oV ok x (oU.mp hx)
end L2
namespace PySem
theorem pO:typeLookup (.type "tuple") "keys" = pure none:=by rw [typeLookup_type,builtinLookup_eq_fast];kernel_rfl
section
variable {prog:Program} {w:World} {A:Around} {E:Value->Shared->Prop} {s:Shared}
theorem pP {a:Addr} {xs:Array Value} {k:Nat} {sl:Array (Option Value)} {name:Str} {u:Tok} {Q:Value->Shared->Prop} (hx:s.heap.get? a=some { cls:=.type "tuple",dict:=none,data:=.seq xs k,slots:=sl })
  (miss:typeLookup (.type "tuple") name=pure none) (plain:(["__module__", "__name__", "__qualname__", "__doc__", "__annotations__"]:List Str).contains name=false) (calm:A.handled=none) (fits:name.length+100<=sizeLine)
  (fin:∀ g tk e,Heap.NewExcOf s.heap g e "AttributeError" -> E (.ref e) { s with heap:=g,toks:=tk }):wpAny (model prog w) A (getAttrBy (.ref a) (.str name u) false) Q E s:=by
 obtain⟨hp,gs,dr,tk,os⟩:=s
 have hT:∀ tk',(⟨hp,gs,dr,tk',os⟩:Shared).TypeIs (.ref a) "tuple" := fun _=>⟨_,hx,rfl⟩
 have f1:=sub_AttributeError
 have f3:=F.slot_tuple_getattribute.lookup
 have f4:=F.slot_tuple_getattribute.bind (.ref a)
 have f5:=am_tuple_getattr_none
 unfold getAttrBy
 repeat (any_goals (first | exact hT _ | assumption | ((with_reducible show wpAny _ _ (call (Value.builtin "tuple.__getattribute__") _ _) _ _ _);refine call_meets F.slot_tuple_getattribute (hT _) am_entry_tuple_getattribute (F.args_tuple_getattribute_2 _ _) (meets_getattribute_miss_tuple a xs k sl name _ miss plain fits) ⟨hx,calm,fun g t e ne=>?_⟩) | wp_step))
 obtain⟨t',u',there⟩:=ne.there
 show wpAny _ _ (getattributeRaised _ _ _ _ _ _ _) _ _ _
 unfold getattributeRaised
 repeat (any_goals (first | wp_step | assumption))
 exact fin g _ e ne.of
theorem mU {a:Addr} {xs:Array Value} {k:Nat} {sl:Array (Option Value)} {Q:Option Value->Shared->Prop} (hx:s.heap.get? a=some { cls:=.type "tuple",dict:=none,data:=.seq xs k,slots:=sl }) (calm:A.handled=none)
  (fin:∀ g tk,(∀ b o,s.heap.get? b=some o->g.get? b=some o)->Q none { s with heap:=g,toks:=tk }):wpAny (model prog w) A (getAttr? (.ref a) "keys") Q E s:=by
 unfold getAttr? getAttrBy?
 refine wpAny_bind (wpAny_mkText ?_)
 refine wpAny_bind (wpAny_attempt ?_)
 refine pP (s:={ s with toks:=s.toks+1 }) hx pO (by decide +kernel) calm (by decide +kernel) fun g tk e ne=>?_
 obtain⟨ob,vs,he,hc,_⟩:=ne.there
 have hT:({ s with heap:=g,toks:=tk }:Shared).TypeIs (.ref e) "AttributeError" := ⟨ob,he,hc⟩
 refine wpAny_bind (wpAny_isInstance hT sub_AttributeError ?_)
 exact wpAny_pure (fin g tk ne.keeps)
end
end PySem
namespace PySem
theorem iM:entryFor table "dict.update.loop" = some Builtin.«dict.update.loop»:=entryFor_of_tree (by kernel_rfl)
theorem er:plainId "dict.update.loop" = true:=by decide +kernel
section
variable {prog:Program} {w:World} {K:Type} [DecidableEq K] {knd:KeyKind prog w K} {A:Around} {s:Shared}
def qS (knd:KeyKind prog w K) (h:Heap) (q:Addr) (p:K × Value):Prop:=∃ key n sl,h.get? q=some { cls:=.type "tuple",dict:=none,data:=.seq #[key,p.2] n,slots:=sl }/\knd.is p.1 key=true
theorem pQ {E:Value->Shared->Prop} {q:Addr} {x y:Value} {n:Nat} {sl:Array (Option Value)} {Q:List Value->Shared->Prop} (hq:s.heap.get? q=some { cls:=.type "tuple",dict:=none,data:=.seq #[x,y] n,slots:=sl })
  (fin:Q [x,y] s):wpAny (model prog w) A (Builtin.Dict.pairItems (.ref q)) Q E s:=by
 have hT:s.TypeIs (.ref q) "tuple" := ⟨_,hq,rfl⟩
 unfold Builtin.Dict.pairItems
 refine wpAny_bind (wpAny_typeOf hT ?_)
 rw [if_pos (by decide)]
 unfold seqItems?
 obtain⟨hp,gs,dr,tk,os⟩:=s
 repeat (any_goals (first | wp_step | assumption))
theorem uU {E:Value->Shared->Prop} {d I ax:Addr} {items:Array Value} {rs:List (K × Value)} {R:Result->Shared->Prop} {h0:Heap} (calm:A.handled=none) (ndI:d ≠ I) (nda:d ≠ ax) (nax:ax ≠ I) (len:rs.length=items.size) (b0:rs.length<=sizeLine)
  (pairs:∀ (i:Nat) (p:K × Value),rs[i]? = some p->∃ q,items[i]? = some (.ref q)/\q ≠ d/\q ≠ I/\qS knd h0 q p)
  (fin:∀ (g:Heap) (tk:Nat),g.DictOf knd d (merged [] rs)->(∀ b o,b ≠ d->b ≠ I->h0.get? b=some o->g.get? b=some o)->R (.ok (.ret .none)) { s with heap:=g,toks:=tk }) :
  ∀ (m i:Nat) (h:Heap) (tk:Nat) (t:Tok),rs.length - i=m->i<=rs.length->h.IsTupleIter I ax i->h.IsTuple ax items->h.DictOf knd d (merged [] (rs.take i))->(∀ b o,b ≠ d->b ≠ I->h0.get? b=some o->h.get? b=some o) ->
   codeAny (model prog w) A (.builtin "dict.update.loop" ⟨[.ref d,.ref I,.int i t,.none],[]⟩) R { s with heap:=h,toks:=tk }:=by
 have W:=Walks.tuple (prog:=prog) (w:=w) (A:=A.in1) calm I ax nax items
 intro m
 induction m with
 | zero =>
  intro i h tk t em hi it ta dd kp
  have ei:i=rs.length:=by omega
  subst ei
  refine codeAny_builtin iM ?_
  rw [Around.under_plainId er _]
  show wpAny _ A.in1 (pyNext (.ref I) >>= _) _ _ _
  refine wpAny_bind (W.done { s with heap:=h,toks:=tk } _ _ ⟨by rw [<-len];exact it,ta⟩ fun g tk' kg=>?_)
  show wpAny _ A.in1 (Builtin.Dict.addKeywords d [] >>= fun _=>ret Value.none) _ _ _
  refine wpAny_bind (wpAny_pure ?_)
  refine wpAny_pure (fin g tk' ?_ fun b o n1 n2 e=>kg b o (by simpa using n2) (kp b o n1 n2 e))
  rw [List.take_length] at dd
  obtain⟨ob,es,ep,ho,rest⟩:=dd
  exact⟨ob,es,ep,kg d ob (by simpa using ndI) ho,rest⟩
 | succ m ih =>
  intro i h tk t em hi it ta dd kp
  have hlt:i < rs.length:=by omega
  have hp:rs[i]? = some rs[i]:=by simp [hlt]
  generalize rs[i] = p at hp
  obtain⟨q,hq,nqd,nqI,key,n,sl,hqo,hkey⟩:=pairs i p hp
  refine codeAny_builtin iM ?_
  rw [Around.under_plainId er _]
  show wpAny _ A.in1 (pyNext (.ref I) >>= _) _ _ _
  refine wpAny_bind (W.item i { s with heap:=h,toks:=tk } _ _ (by omega) ⟨it,ta⟩ fun v g tk' hv st kg=>?_)
  rw [hq] at hv
  cases hv
  have kp':∀ b o,b ≠ d->b ≠ I->h0.get? b=some o->g.get? b=some o:=fun b o n1 n2 e=>kg b o (by simpa using n2) (kp b o n1 n2 e)
  refine wpAny_bind (wpAny_holding (wpAny_bind (wpAny_tryCatch (pQ (kp' q _ nqd nqI hqo) ?_))))
  have dd':g.DictOf knd d (merged [] (rs.take i)):=by
   obtain⟨ob,es,ep,ho,rest⟩:=dd
   exact⟨ob,es,ep,kg d ob (by simpa using ndI) ho,rest⟩
  refine wpAny_holding (wpAny_dictSet_pairs hkey dd' (fun g2 dd2 same=>?_) ?_)
  ·refine wpAny_pure ⟨plainId_quiet er _,?_⟩
   rw [<-merged_take_succ [] rs i p hp] at dd2
   have k2:∀ b o,b ≠ d->g.get? b=some o->g2.get? b=some o:=fun b o nb e=>(same.2 b nb).trans e
   refine ih (i+1) g2 _ _ (by omega) hlt ?_ ?_ dd2 fun b o n1 n2 e=>k2 b o n1 (kp' b o n1 n2 e)
   ·exact st.1.at fun o e=>k2 I o ndI.symm e
   ·exact st.2.at fun o e=>k2 ax o nda.symm e
  ·have e:=merged_length_le ([]:List (K × Value)) (rs.take i)
   rw [List.length_take] at e
   simp only [List.length_nil] at e
   omega
open PySem.Calls in
theorem pR {E:Value->Shared->Prop} {ax:Addr} {items:Array Value} {na:Nat} {sa:Array (Option Value)} {rs:List (K × Value)} {Q:Value->Shared->Prop} (calm:A.handled=none)
  (hx:s.heap.get? ax=some { cls:=.type "tuple",dict:=none,data:=.seq items na,slots:=sa }) (len:rs.length=items.size) (b0:rs.length<=sizeLine)
  (pairs:∀ (i:Nat) (p:K × Value),rs[i]? = some p->∃ q,items[i]? = some (.ref q)/\qS knd s.heap q p)
  (fin:∀ (g:Heap) (tk:Nat),g.DictOf knd s.heap.objs.size (merged [] rs)->(∀ b o,s.heap.get? b=some o->g.get? b=some o)->Q (.ref s.heap.objs.size) { s with heap:=g,toks:=tk }) :
  wpAny (model prog w) A (call (.type "dict") [.ref ax]) Q E s:=by
 refine callType_codes (Q₁:=fun ob s1=>ob=.ref s.heap.objs.size/\s1 = { s with heap:=s.heap.push { cls:=.type "dict",data:=.dict #[] } }) F.kt_called_dict (F.kt_typeCall_dict_1 _) F.entry_dict_init (kt_code_dict_new _ ⟨rfl,rfl⟩) fun ob s1 e1=>?_
 obtain⟨rfl,rfl⟩:=e1
 have fresh:(s.heap.push { cls:=.type "dict",data:=.dict #[] }).DictOf knd s.heap.objs.size []:=Heap.DictOf.new s.heap
 have hx1:=Heap.get?_push_of_some { cls:=.type "dict",data:=.dict #[] } hx
 refine⟨fresh.typeIs,F.args_dict_init_2 _ _,?_⟩
 have hT:({ s with heap:=s.heap.push { cls:=.type "dict",data:=.dict #[] } }:Shared).TypeIs (.ref ax) "tuple" := ⟨_,hx1,rfl⟩
 unfold Builtin.«dict.__init__»
 refine wpAny_bind ?_
 unfold Builtin.Dict.selfAndRest
 refine wpAny_bind (wpAny_notOrdered_dict fresh.typeIs (wpAny_pure ?_))
 show wpAny _ _ (Builtin.Dict.updateFrom "dict.__init__" s.heap.objs.size (.ref ax) [] .none) _ _ _
 unfold Builtin.Dict.updateFrom
 refine wpAny_bind (wpAny_typeOf hT ?_)
 rw [if_pos (by decide)]
 refine wpAny_bind (mU hx1 calm fun g tk kg=>?_)
 rw [if_pos (show (none:Option Value).isNone=true from rfl)]
 refine wpAny_bind (wpAny_rule ?_)
 have hxg:=kg _ _ hx1
 have hta:g.IsTuple ax items:=⟨_,hxg,rfl,na,rfl⟩
 refine wpAny_bind (wpAny_pyIter_tuple hta ?_)
 have dg:g.DictOf knd s.heap.objs.size []:=by
  obtain⟨ob,es,ep,ho,rest⟩:=fresh
  exact⟨ob,es,ep,kg _ _ ho,rest⟩
 have ltd:s.heap.objs.size < g.objs.size:=by
  obtain⟨ob,es,ep,ho,rest⟩:=dg
  exact Heap.lt_size ho
 have lta:ax < g.objs.size:=Heap.lt_size hxg
 have ltx:ax < s.heap.objs.size:=Heap.lt_size hx
 have kg':∀ b o,s.heap.get? b=some o->(g.push { cls:=.type "tuple_iterator",data:=.fields #[.ref ax,.int 0 0] }).get? b=some o:=fun b o e=>Heap.get?_push_of_some _ (kg b o (Heap.get?_push_of_some _ e))
 refine wpAny_pure ⟨plainId_quiet er _,?_⟩
 refine uU (E:=E) (knd:=knd) (s:=s) (A:=A.in1) (items:=items) (rs:=rs) (h0:=g.push { cls:=.type "tuple_iterator",data:=.fields #[.ref ax,.int 0 0] }) calm (Nat.ne_of_lt ltd) (Nat.ne_of_gt ltx) (Nat.ne_of_lt lta) len b0 (fun i p hp=>?_) (fun g2 tk2 dd2 k2=>⟨rfl,fin g2 tk2 dd2 fun b o e=>k2 b o (Nat.ne_of_lt (Heap.lt_size e)) (Nat.ne_of_lt (Nat.lt_trans (Heap.lt_size e) ltd)) (kg' b o e)⟩) rs.length 0 _ _ _ (Nat.sub_zero _) (Nat.zero_le _) ⟨_,Heap.get?_push_size _ rfl,rfl,rfl⟩ (hta.push _) (dg.push _) fun b o _ _ e=>e
 obtain⟨q,hq,key,n,sl,hqo,hkey⟩:=pairs i p hp
 have hql:=Heap.lt_size hqo
 exact⟨q,hq,Nat.ne_of_lt hql,Nat.ne_of_lt (Nat.lt_trans hql ltd),key,n,sl,kg' q _ hqo,hkey⟩
end
end PySem
namespace L2
open PySem PySem.Spec PyProof.Rows
theorem zm:∀ (kvs:List (Key × V)) (P:Nat->Key × Value->Prop),(∀ (i:Nat) (k:Key) (v:V),kvs[i]? = some (k,v)->∃ u,RelV v u/\P i (k,u))->∃ rs:List (Key × Value),KV kvs rs/\∀ (i:Nat) (p:Key × Value),rs[i]? = some p->P i p
 | [],_,_=>⟨[],.nil,fun i p h=>by simp at h⟩
 | (k,v) :: r,P,h=>by
  obtain⟨u,ru,hu⟩:=h 0 k v rfl
  obtain⟨rs,kr,hr⟩:=zm r (fun i=>P (i+1)) fun i k' v' e=>h (i+1) k' v' (by simpa using e)
  refine⟨(k,u) :: rs,.cons ⟨rfl,ru⟩ kr,fun i p e=>?_⟩
  cases i with
  | zero=>cases (Option.some.inj e);exact hu
  | succ i=>exact hr i p (by simpa using e)
theorem qT:∀ {xs:List V} {us:List Value} {j:Nat} {x:V},Vals xs us->xs[j]? = some x->∃ u,us[j]? = some u/\RelV x u
 | _,_,_,_,.nil,e=>by simp at e
 | _,_,0,_,.cons r _,e=>by
  cases (Option.some.inj e)
  exact⟨_,rfl,r⟩
 | _,_,j+1,x,.cons _ t,e=>by
  obtain⟨u,h1,h2⟩:=qT (j:=j) (x:=x) t (by simpa using e)
  exact⟨u,by simpa using h1,h2⟩
section
variable {X:Cx}
theorem fm (hc:X.calm=true):cJ X (.type "dict") (fun vs H Q=>∃ (a:Addr) (xs:List V) (kvs:List (Key × V)),vs = [.ref a]/\H a=some (.tup xs)/\xs.length=kvs.length /\
  (∀ (i:Nat) (k:Key) (v:V),kvs[i]? = some (k,v)->∃ q,xs[i]? = some (.ref q)/\H q=some (.tup [kV k,v]))/\(kvs.map (·.1)).Nodup/\∀ d,H d=none->Q (.ref d) (upd H d (.dK kvs))):=by
 intro pins s σ H vs us Q I r h
 obtain⟨a,xs,kvs,rfl,ha,hl,hp,nd,q⟩:=h
 obtain⟨u,rfl,ru⟩:=vals1 r
 cases (show u=Value.ref a from ru)
 obtain⟨hz,its,rv,⟨c,dct,dat,sl⟩,h1,h2,n,h3,h4⟩:=(show bC X.prog X.w H s.heap a (.tup xs) from I.aJ a _ ha)
 dsimp only at h2 h3 h4
 subst h2 h3 h4
 have hil:its.length=kvs.length:=by rw [<-rv.length];exact hl
 obtain⟨rs,rel,prs⟩:=zm kvs (fun i p=>∃ q,its.toArray[i]? = some (.ref q)/\qS (aG X.prog X.w) s.heap q p) fun i k v e=>by
  obtain⟨q,e1,e2⟩:=hp i k v e
  obtain⟨_,its2,rv2,⟨c2,dct2,dat2,sl2⟩,g1,g2,n2,g3,g4⟩:=(show bC X.prog X.w H s.heap q (.tup [kV k,v]) from I.aJ q _ e2)
  dsimp only at g2 g3 g4
  subst g2 g3 g4
  obtain⟨key,u2,rfl,rk,ru2⟩:=vals2 rv2
  refine⟨u2,ru2,q,?_,key,n2,sl2,g1,mG rk⟩
  obtain⟨w',hw,rw'⟩:=qT rv e1
  cases (show w' = Value.ref q from rw')
  simpa using hw
 have hkl:kvs.length<=sizeLine:=by rw [<-hl];exact hz
 have ndr:(rs.map (·.1)).Nodup:=by rw [<-rel.keys];exact nd
 refine pR (knd:=aG X.prog X.w) (rs:=rs) (I.ok.hd hc) h1 (by rw [<-rel.length,<-hil];simp) (by rw [<-rel.length];exact hkl) prs fun g tk dd kg=>?_
 rw [merged_nil_of_nodup rs ndr] at dd
 exact⟨.ref s.heap.objs.size,_,I.laid (a:=s.heap.objs.size) (o:=.dK kvs) (t':=tk) kg (Nat.le_refl _) (wb hkl (beq_eq_false_iff_ne.mpr (Ne.symm (Nat.ne_of_lt I.big))) rel dd),rfl,q _ (I.aJ.fresh (Nat.le_refl _))⟩
end
def mV (a b:Str):Prop:=a.cps.toList<=b.cps.toList
theorem wN {a b c:Str} (h:mV a b) (g:mV b c):mV a c:=List.le_trans h g
theorem yt {a b:Str} (h:mV a b) (g:mV b a):a=b:=by
 have e:a.cps.toList=b.cps.toList:=List.le_antisymm h g
 have e2:a.cps=b.cps:=by rw [<-Array.toArray_toList (xs:=a.cps),e,Array.toArray_toList]
 cases a
 cases b
 cases e2
 rfl
theorem oY:∀ (l:List Str) (p:Str),risingS p l=true->(p :: l).Pairwise mV
 | [],p,_=>by simp
 | x :: r,p,h=>by
  have h':(!ltCps x.cps.toList p.cps.toList && risingS x r)=true:=h
  rw [Bool.and_eq_true,Bool.not_eq_true'] at h'
  have h1:mV p x:=by
   have:=h'.1
   rw [ltCps_eq] at this
   exact of_decide_eq_false this
  have ih:=oY r x h'.2
  refine List.Pairwise.cons (fun y hy=>?_) ih
  rcases List.mem_cons.mp hy with e | hy
  ·rw [e];exact h1
  ·exact wN h1 ((List.pairwise_cons.mp ih).1 y hy)
theorem oZ {l:List Str} (h:sortedS l=true):l.Pairwise mV:=by
 cases l with
 | nil=>exact List.Pairwise.nil
 | cons x r=>exact oY r x h
structure ij (ss:List Str):Prop where
 pw:ss.Pairwise mV
 nd:ss.Nodup
theorem ij.tail {x:Str} {r:List Str} (h:ij (x :: r)):ij r:=⟨(List.pairwise_cons.mp h.pw).2,(List.nodup_cons.mp h.nd).2⟩
theorem ij.unique:∀ {l m:List Str},ij l->ij m->(∀ x,x ∈ l ↔ x ∈ m)->l=m
 | [],[],_,_,_=>rfl
 | [],b :: m,_,_,h=>absurd ((h b).mpr (List.mem_cons_self ..)) (by simp)
 | a :: l,[],_,_,h=>absurd ((h a).mp (List.mem_cons_self ..)) (by simp)
 | a :: l,b :: m,hl,hm,h=>by
  have e:a=b:=by
   rcases List.mem_cons.mp ((h a).mp (List.mem_cons_self ..)) with e | h1
   ·exact e
   ·rcases List.mem_cons.mp ((h b).mpr (List.mem_cons_self ..)) with e | h2
    ·exact e.symm
    ·exact yt ((List.pairwise_cons.mp hl.pw).1 b h2) ((List.pairwise_cons.mp hm.pw).1 a h1)
  subst e
  have na:=(List.nodup_cons.mp hl.nd).1
  have nb:=(List.nodup_cons.mp hm.nd).1
  rw [ij.unique hl.tail hm.tail fun x=>⟨fun hx=>?_,fun hx=>?_⟩]
  ·rcases List.mem_cons.mp ((h x).mp (List.mem_cons_of_mem _ hx)) with e | h1
   ·exact absurd (by rw [<-e];exact hx) na
   ·exact h1
  ·rcases List.mem_cons.mp ((h x).mpr (List.mem_cons_of_mem _ hx)) with e | h1
   ·exact absurd (by rw [<-e];exact hx) nb
   ·exact h1
theorem ij.filter {l:List Str} (h:ij l) (p:Str->Bool):ij (l.filter p):=⟨h.pw.filter p,h.nd.filter p⟩
abbrev Sx:=Option Int × Option Int
def df:Sx:=(none,none)
structure gh (K:PySem.W.Frag) (mg:Str->Option Value) (aA:Addr):Prop where
 oQ:mg "ALL" = some (.ref aA)
 at_:∃ dc n sl,K.lookup aA=some ⟨.type "tuple",dc,.seq #[.none,.none] n,sl⟩
theorem gh.sq {K:PySem.W.Frag} {mg:Str->Option Value} {aA:Addr} (h:gh K mg aA) (H:Hp):av K H aA [.bg,.bg]:=by
 obtain⟨dc,n,sl,e⟩:=h.at_
 exact .inr ⟨_,#[.none,.none],n,e,rfl,rfl,by decide,.cons rfl (.cons rfl .nil)⟩
def SH (H:Hp) (v:V) (s:Sx):Prop:=∃ q,v=.ref q/\H q=some (.tup [vO s.1,vO s.2])
def SV (aA:Addr) (H:Hp) (v:V) (s:Sx):Prop:=SH H v s\/(v=.ref aA/\s=df)
def dS (s:Sx):PyData:=.tuple [dO s.1,dO s.2]
theorem SH.rd {H:Hp} {v:V} {s:Sx} (h:SH H v s):aP H v (dS s):=by
 obtain⟨q,rfl,e⟩:=h
 exact .tup e (.cons (Bg _) (.cons (Bg _) .nil))
theorem SH.aW {H H':Hp} {v:V} {s:Sx} (h:SH H v s) (k:∀ p xs,H p=some (.tup xs)->H' p=some (.tup xs)):SH H' v s:=by
 obtain⟨q,e,h⟩:=h
 exact⟨q,e,k _ _ h⟩
theorem SV.aW {aA:Addr} {H H':Hp} {v:V} {s:Sx} (h:SV aA H v s) (k:∀ p xs,H p=some (.tup xs)->H' p=some (.tup xs)):SV aA H' v s:=h.elim (fun h=>.inl (h.aW k)) .inr
theorem SV.sq {K:PySem.W.Frag} {mg:Str->Option Value} {aA:Addr} {H:Hp} {v:V} {s:Sx} (g:gh K mg aA) (h:SV aA H v s):∃ q,v=.ref q/\av K H q [vO s.1,vO s.2]:=by
 rcases h with ⟨q,e,h⟩ | ⟨e,rfl⟩
 ·exact⟨q,e,av.of h⟩
 ·exact⟨aA,e,g.sq H⟩
theorem tO {H:Hp} {v:V} {o:Option Int} (h:aP H v (dO o)):v=vO o:=by
 cases o with
 | none=>cases h;rfl
 | some i=>exact h.int_inv
structure Tb (aA:Addr) (H:Hp) (kvs:List (Key × V)) (ks:List Str) (T:Str->Sx):Prop where
 keys:kvs.map (·.1)=ks.map Sum.inr
 nd:ks.Nodup
 val:∀ x:Str,(cn kvs (Sum.inr x)=none/\T x=df/\¬ x ∈ ks)\/(∃ v,cn kvs (Sum.inr x)=some v/\SV aA H v (T x)/\x ∈ ks)
def dY (T:Str->Sx) (x:Str) (s:Sx):Str->Sx:=fun y=>if y=x then s else T y
theorem Tb.aW {aA:Addr} {H H':Hp} {kvs:List (Key × V)} {ks:List Str} {T:Str->Sx} (h:Tb aA H kvs ks T) (k:∀ p xs,H p=some (.tup xs)->H' p=some (.tup xs)):Tb aA H' kvs ks T :=
 ⟨h.keys,h.nd,fun x=>(h.val x).elim .inl fun ⟨v,e,s,m⟩=>.inr ⟨v,e,s.aW k,m⟩⟩
theorem Tb.put {aA:Addr} {H:Hp} {kvs:List (Key × V)} {ks:List Str} {T:Str->Sx} (h:Tb aA H kvs ks T) {v:V} {s:Sx} (x:Str) (hv:SV aA H v s) :
  ∃ ks',Tb aA H (putK kvs (Sum.inr x) v) ks' (dY T x s)/\ks'.length<=ks.length+1/\∀ y,y ∈ ks' ↔ y ∈ ks\/y=x:=by
 have vals:∀ (ks':List Str),(∀ y,y ∈ ks' ↔ y ∈ ks\/y=x)->∀ y:Str,(cn (putK kvs (Sum.inr x) v) (Sum.inr y)=none/\dY T x s y=df/\¬ y ∈ ks')\/(∃ u,cn (putK kvs (Sum.inr x) v) (Sum.inr y)=some u/\SV aA H u (dY T x s y)/\y ∈ ks'):=by
  intro ks' hk y
  rw [xS]
  unfold dY
  by_cases e:y=x
  ·subst e
   rw [if_pos rfl,if_pos rfl]
   exact .inr ⟨v,rfl,hv,(hk y).mpr (.inr rfl)⟩
  ·rw [if_neg (fun z=>e (Sum.inr.inj z)),if_neg e]
   rcases h.val y with ⟨a,b,c⟩ | ⟨u,a,b,c⟩
   ·exact .inl ⟨a,b,fun z=>((hk y).mp z).elim c e⟩
   ·exact .inr ⟨u,a,b,(hk y).mpr (.inl c)⟩
 rcases oP (kvs:=kvs) (k:=(Sum.inr x:Key)) (v:=v) with ⟨e1,hm⟩ | ⟨e1,hn⟩
 ·have hx:x ∈ ks:=by
   rw [h.keys] at hm
   obtain⟨y,hy,e⟩:=List.mem_map.mp hm
   cases e
   exact hy
  have hk:∀ y,y ∈ ks ↔ y ∈ ks\/y=x:=fun y=>⟨.inl,fun z=>z.elim id fun e=>by rw [e];exact hx⟩
  exact⟨ks,⟨by rw [e1];exact h.keys,h.nd,vals ks hk⟩,Nat.le_succ _,hk⟩
 ·have hx:¬ x ∈ ks:=fun z=>hn (by rw [h.keys];exact List.mem_map.mpr ⟨x,z,rfl⟩)
  have hk:∀ y,y ∈ ks ++ [x] ↔ y ∈ ks\/y=x:=fun y=>by simp
  refine⟨ks ++ [x],⟨by rw [e1,h.keys,List.map_append];rfl,?_,vals _ hk⟩,by simp,hk⟩
  rw [List.nodup_append]
  refine⟨h.nd,by simp,fun a ha b hb=>?_⟩
  rw [List.mem_singleton] at hb
  subst hb
  exact fun z=>hx (by rw [<-z];exact ha)
def dF (T:Str->Sx) (x:Str):PyData:=.tuple [.str x,dS (T x)]
def FV (H:Hp) (v:V) (T:Str->Sx):Prop:=∃ (p:Addr) (xs:List V) (ss:List Str),v=.ref p/\H p=some (.tup xs)/\ij ss/\(∀ x,x ∈ ss ↔ T x ≠ df)/\aU H xs (ss.map (dF T))
def d7 (T:Str->Sx) (ss:List Str):PyData:=.tuple (ss.map (dF T))
theorem kM (T:Str->Sx):∀ ss:List Str,bV (ss.map (dF T))=true
 | []=>rfl
 | x :: ss=>by
  show (bR (dF T x) && bV (ss.map (dF T)))=true
  rw [kM T ss]
  show ((true && ((bR (dO (T x).1) && (bR (dO (T x).2) && true)) && true)) && true)=true
  cases (T x).1 <;> cases (T x).2 <;> rfl
theorem FV.aW {H H':Hp} {v:V} {T:Str->Sx} (h:FV H v T) (k:∀ p xs,H p=some (.tup xs)->H' p=some (.tup xs)):FV H' v T:=by
 obtain⟨p,xs,ss,e,hp,hs,hm,r⟩:=h
 exact⟨p,xs,ss,e,k _ _ hp,hs,hm,r.aW k (kM T ss)⟩
theorem FV.same {H H':Hp} {v:V} {T:Str->Sx} (h:FV H v T) (s:ae H H'):FV H' v T:=h.aW fun p xs e=>s _ _ e
theorem FV.tb {H:Hp} {xs:List V} {T:Str->Sx} {ss:List Str} (aA:Addr) (hs:ij ss) (hm:∀ x,x ∈ ss ↔ T x ≠ df) (r:aU H xs (ss.map (dF T))) :
  ∃ kvs:List (Key × V),xs.length=kvs.length/\(∀ (i:Nat) (k:Key) (v:V),kvs[i]? = some (k,v)->∃ q,xs[i]? = some (.ref q)/\H q=some (.tup [kV k,v]))/\(kvs.map (·.1)).Nodup/\Tb aA H kvs ss T:=by
 have go:∀ (ss:List Str) (xs:List V),aU H xs (ss.map (dF T))->∃ kvs:List (Key × V),xs.length=kvs.length/\(∀ (i:Nat) (k:Key) (v:V),kvs[i]? = some (k,v)->∃ q,xs[i]? = some (.ref q)/\H q=some (.tup [kV k,v])) /\
   kvs.map (·.1)=ss.map Sum.inr/\∀ x:Str,(cn kvs (Sum.inr x)=none/\¬ x ∈ ss)\/(∃ v,cn kvs (Sum.inr x)=some v/\SH H v (T x)/\x ∈ ss):=by
  intro ss
  induction ss with
  | nil =>
   intro xs r
   have z:=aU.nil_inv r
   subst z
   exact⟨[],rfl,fun i k v e=>by simp at e,rfl,fun x=>.inl ⟨rfl,by simp⟩⟩
  | cons y ss ih =>
   intro xs r
   obtain⟨x1,t1,rfl,h1,r⟩:=aU.cons_inv r
   obtain⟨kvs,l1,l2,l3,l4⟩:=ih t1 r
   obtain⟨q,zs,rfl,hq,rz⟩:=aP.bx h1
   obtain⟨z1,t2,rfl,g1,rz⟩:=rz.cons_inv
   obtain⟨z2,t3,rfl,g2,rz⟩:=rz.cons_inv
   have z:=rz.nil_inv
   subst z
   obtain⟨q2,ws,rfl,hq2,rw2⟩:=aP.bx g2
   obtain⟨w1,t4,rfl,f1,rw2⟩:=rw2.cons_inv
   obtain⟨w2,t5,rfl,f2,rw2⟩:=rw2.cons_inv
   have z:=rw2.nil_inv
   subst z
   have e1:w1=vO (T y).1:=tO f1
   have e2:w2=vO (T y).2:=tO f2
   subst e1 e2
   rw [g1.str_inv] at hq
   refine⟨(Sum.inr y,.ref q2) :: kvs,by simp [l1],fun i k v e=>?_,by simp [l3],fun x=>?_⟩
   ·cases i with
    | zero=>cases (Option.some.inj e);exact⟨q,rfl,hq⟩
    | succ i =>
     obtain⟨q',a,b⟩:=l2 i k v (by simpa using e)
     exact⟨q',by simpa using a,b⟩
   ·by_cases e:x=y
    ·subst e
     exact .inr ⟨_,cO rfl,⟨q2,rfl,hq2⟩,List.mem_cons_self ..⟩
    ·rw [cP (fun z=>e (Sum.inr.inj z).symm)]
     rcases l4 x with ⟨a,b⟩ | ⟨v,a,b,c⟩
     ·exact .inl ⟨a,fun z=>(List.mem_cons.mp z).elim e b⟩
     ·exact .inr ⟨v,a,b,List.mem_cons_of_mem _ c⟩
 obtain⟨kvs,l1,l2,l3,l4⟩:=go ss xs r
 refine⟨kvs,l1,l2,?_,⟨l3,hs.nd,fun x=>?_⟩⟩
 ·rw [l3]
  exact List.Pairwise.map _ (fun a b n z=>n (Sum.inr.inj z)) hs.nd
 ·rcases l4 x with ⟨a,b⟩ | ⟨v,a,b,c⟩
  ·refine .inl ⟨a,?_,b⟩
   exact Classical.byContradiction fun z=>b ((hm x).mpr z)
  ·exact .inr ⟨v,a,.inl b,c⟩
theorem z7 (s:Sx):PyData.eqv (dS s) (.tuple [.none,.none])=decide (s=df):=by
 obtain⟨a,b⟩:=s
 cases a <;> cases b <;> rfl
theorem zo (s:Sx):(dS s).canLay0=true:=by
 obtain⟨a,b⟩:=s
 cases a <;> cases b <;> rfl
theorem Cd (s:Sx):(dS s).depth<=60:=by
 obtain⟨a,b⟩:=s
 cases a <;> cases b <;> (show (1:Nat)<=60;decide)
section
variable {X:Cx}
theorem wO {pins:List (Addr × Obj)} {σ : St} {H:Hp} {s:Shared} {aA:Addr} (I:Inv X pins σ H s) (g:gh X.K X.mg aA):∃ as,Reads s.heap (.ref aA) (.tuple [.none,.none]) as:=by
 obtain⟨dc,n,sl,e⟩:=g.at_
 exact⟨_,.tuple (I.gu aA _ e) rfl rfl (.cons .none (.cons .none .nil))⟩
theorem Bs {aA:Addr} (hu:X.A.units+64 < cLine) (g:gh X.K X.mg aA):cY X (compareOp .NotEq) (fun x y H Q=>∃ s,SV aA H x s/\y=.ref aA/\Q (.bl (!decide (s=df))) H):=by
 intro pins sh σ H x y v u Q I rx ry h
 obtain⟨s,hs,rfl,q⟩:=h
 cases (show u=Value.ref aA from ry)
 obtain⟨bs,rb⟩:=wO I g
 rcases hs with hs | ⟨rfl,rfl⟩
 ·obtain⟨as,ra⟩:=hs.rd.reads I.aJ rx
  refine PySem.SeqAt.neOverData X.prog X.w X.A X.xe sh v _ _ _ as bs _ ra rb (zo s) rfl (by have:=Cd s;omega) ⟨.bl _,H,I,?_,q⟩
  show _=Value.bool (!decide (s=df))
  rw [z7]
 ·cases (show v=Value.ref aA from rx)
  exact PySem.SeqAt.neOverData X.prog X.w X.A X.xe sh _ _ _ _ bs bs _ rb rb rfl rfl (by show X.A.units+1 < cLine;omega) ⟨.bl _,H,I,rfl,q⟩
end
inductive jX (aA:Addr) (vs:List V) (H:Hp) (Q:VK) (_:XK):Prop
 | mk (d:Addr) (kvs:List (Key × V)) (ks:List Str) (T:Str->Sx) (_:vs = [.ref d]) (_:H d=some (.dK kvs)) (_:Tb aA H kvs ks T) (_:ks.length < 64) (_:∀ v H',FV H' v T->ae H H'->Q v H')
def zp (o:Option Int) (n:Int):Option Int:=o.map (· + n)
def Cq (s:Sx) (n:Int):Sx:=(zp s.1 n,zp s.2 n)
def Bt (T:Str->Sx):cG->Sx
 | .put _ n=>(some n,some n)
 | .copy _ y=>T y
 | .add x n=>Cq (T x) n
 | .read _=>df
 | .tell x=>T x
def yu (T:Str->Sx) (d:cG):Str->Sx:=dY T (mN d) (Bt T d)
def cF (T:Str->Sx):List cG->(Str->Sx):=fun ds=>ds.foldl yu T
inductive tP (K:PySem.W.Frag) (vs:List V) (H:Hp) (Q:VK) (_:XK):Prop
 | mk (q:Addr) (s:Sx) (n:Int) (_:vs = [.ref q,.int n]) (_:av K H q [vO s.1,vO s.2]) (_:∀ v H',SH H' v (Cq s n)->ae H H'->Q v H')
inductive mW (aA:Addr) (vs:List V) (H:Hp) (Q:VK) (_:XK):Prop
 | mk (d q:Addr) (kvs:List (Key × V)) (ks:List Str) (T:Str->Sx) (dd:cG) (_:vs = [.ref d,.ref q]) (_:H d=some (.dK kvs)) (_:Tb aA H kvs ks T) (_:H q=some (.tup (p7 dd))) (_:∀ v H',SV aA H' v (Bt T dd)->ae H H'->Q v H')
inductive qU  (vs:List V) (H:Hp) (Q:VK) (_:XK):Prop
 | mk (fv:V) (p:Addr) (ws:List V) (ds:List cG) (T:Str->Sx) (m:Nat) (_:vs = [fv,.ref p]) (_:FV H fv T) (_:H p=some (.tup ws)) (_:aU H ws (ds.map ef)) (_:(∀ ss:List Str,(∀ x ∈ ss,T x ≠ df)->ss.Nodup->ss.length<=m)) (_:m+ds.length < 64) (_:∀ v H',FV H' v (cF T ds)->ae H H'->Q v H')
theorem Tb.getD {aA:Addr} {H:Hp} {kvs:List (Key × V)} {ks:List Str} {T:Str->Sx} (h:Tb aA H kvs ks T) (x:Str):∃ v,(cn kvs (Sum.inr x)).getD (.ref aA)=v/\SV aA H v (T x):=by
 rcases h.val x with ⟨a,b,_⟩ | ⟨v,a,b,_⟩
 ·exact⟨_,by rw [a];rfl,.inr ⟨rfl,b⟩⟩
 ·exact⟨v,by rw [a];rfl,b⟩
section
variable {C D:Addr} {H0 H H1:Hp} {w0 w1:WA} {plv:V} {x0 x1 x':Bj}
end
mutual
def cQ:PyData->Bool
 | .none=>true
 | .int _=>true
 | .str _=>true
 | .tuple xs=>cf xs
 | _=>false
def cf:List PyData->Bool
 | []=>true
 | x :: xs=>cQ x && cf xs
end
mutual
def mX:PyData->Nat
 | .tuple xs=>jY xs+1
 | _=>1
def jY:List PyData->Nat
 | []=>0
 | x :: xs=>mX x+jY xs
end
noncomputable instance BD:DecidableEq PyData:=fun a b=>Classical.propDecidable (a=b)
mutual
theorem nW:∀ {a b:PyData},cQ a=true->cQ b=true->(PyData.eqv a b=true ↔ a=b)
 | .none,.none,_,_=>⟨fun _=>rfl,fun _=>rfl⟩
 | .int i,.int j,_,_=>by show ((i == j)=true) ↔ _;rw [beq_iff_eq];exact⟨fun h=>by rw [h],fun h=>by injection h⟩
 | .str x,.str y,_,_=>by show ((x == y)=true) ↔ _;rw [beq_iff_eq];exact⟨fun h=>by rw [h],fun h=>by injection h⟩
 | .tuple xs,.tuple ys,ha,hb=>by
  show (PyData.eqvAll xs ys=true) ↔ _
  rw [mY (show cf xs=true from ha) (show cf ys=true from hb)]
  exact⟨fun h=>by rw [h],fun h=>by injection h⟩
 | .none,.int _,_,_ | .none,.str _,_,_ | .none,.tuple _,_,_ | .int _,.none,_,_ | .int _,.str _,_,_ | .int _,.tuple _,_,_
 | .str _,.none,_,_ | .str _,.int _,_,_ | .str _,.tuple _,_,_ | .tuple _,.none,_,_ | .tuple _,.int _,_,_ | .tuple _,.str _,_,_=>⟨fun h=>(by cases h),fun h=>(by cases h)⟩
 | .bool _,_,h,_ | .list _,_,h,_ | .dict _,_,h,_=>by cases h
 | .none,.bool _,_,h | .none,.list _,_,h | .none,.dict _,_,h | .int _,.bool _,_,h | .int _,.list _,_,h | .int _,.dict _,_,h
 | .str _,.bool _,_,h | .str _,.list _,_,h | .str _,.dict _,_,h | .tuple _,.bool _,_,h | .tuple _,.list _,_,h | .tuple _,.dict _,_,h=>by cases h
theorem mY:∀ {a b:List PyData},cf a=true->cf b=true->(PyData.eqvAll a b=true ↔ a=b)
 | [],[],_,_=>⟨fun _=>rfl,fun _=>rfl⟩
 | x :: xs,y :: ys,ha,hb=>by
  have ha:(cQ x && cf xs)=true:=ha
  have hb:(cQ y && cf ys)=true:=hb
  rw [Bool.and_eq_true] at ha hb
  show ((PyData.eqv x y && PyData.eqvAll xs ys)=true) ↔ _
  rw [Bool.and_eq_true,nW ha.1 hb.1,mY ha.2 hb.2]
  exact⟨fun ⟨h1,h2⟩=>by rw [h1,h2],fun h=>by injection h with h1 h2;exact⟨h1,h2⟩⟩
 | [],_ :: _,_,_ | _ :: _,[],_,_=>⟨fun h=>(by cases h),fun h=>(by cases h)⟩
end
mutual
theorem jZ {h:Heap}:∀ {v:Value} {a b:PyData} {as bs:List Addr},Reads h v a as->Reads h v b bs->cQ a=true->cQ b=true->a=b
 | _,_,_,_,_,.none,.none,_,_=>rfl
 | _,_,_,_,_,.int i t,.int _ _,_,_=>rfl
 | _,_,_,_,_,.str x t,.str _ _,_,_=>rfl
 | _,_,_,_,_,.tuple e1 c1 d1 r1,.tuple e2 c2 d2 r2,ha,hb=>by
  rw [e1] at e2
  cases e2
  rw [d1] at d2
  cases d2
  rw [j1 r1 r2 ha hb]
 | _,_,_,_,_,.tuple e1 c1 d1 r1,.list e2 c2 d2 r2,_,hb=>by cases hb
 | _,_,_,_,_,.tuple e1 c1 d1 r1,.dict e2 c2 d2 r2 r3,_,hb=>by cases hb
 | _,_,_,_,_,.bool _,_,ha,_=>by cases ha
 | _,_,_,_,_,.list ..,_,ha,_=>by cases ha
 | _,_,_,_,_,.dict ..,_,ha,_=>by cases ha
theorem j1 {h:Heap}:∀ {vs:List Value} {a b:List PyData} {as bs:List Addr},ReadsAll h vs a as->ReadsAll h vs b bs->cf a=true->cf b=true->a=b
 | _,_,_,_,_,.nil,.nil,_,_=>rfl
 | _,_,_,_,_,.cons (d:=x) (ds:=xs) r1 t1,.cons (d:=y) (ds:=ys) r2 t2,ha,hb=>by
  have ha:(cQ x && cf xs)=true:=ha
  have hb:(cQ y && cf ys)=true:=hb
  rw [Bool.and_eq_true] at ha hb
  rw [jZ r1 r2 ha.1 hb.1,j1 t1 t2 ha.2 hb.2]
end
mutual
theorem fo {h h':Heap} (k:∀ a o n vs,h.get? a=some o->o.data=.seq vs n->h'.get? a=some o):∀ {v:Value} {a:PyData} {as:List Addr},Reads h v a as->cQ a=true->Reads h' v a as
 | _,_,_,.none,_=>.none
 | _,_,_,.int i t,_=>.int i t
 | _,_,_,.str x t,_=>.str x t
 | _,_,_,.tuple e1 c1 d1 r1,ha=>.tuple (k _ _ _ _ e1 d1) c1 d1 (jA k r1 ha)
 | _,_,_,.bool _,ha=>by cases ha
 | _,_,_,.list ..,ha=>by cases ha
 | _,_,_,.dict ..,ha=>by cases ha
theorem jA {h h':Heap} (k:∀ a o n vs,h.get? a=some o->o.data=.seq vs n->h'.get? a=some o):∀ {vs:List Value} {a:List PyData} {as:List Addr},ReadsAll h vs a as->cf a=true->ReadsAll h' vs a as
 | _,_,_,.nil,_=>.nil
 | _,_,_,.cons (d:=x) (ds:=xs) r1 t1,ha=>by
  have ha:(cQ x && cf xs)=true:=ha
  rw [Bool.and_eq_true] at ha
  exact .cons (fo k r1 ha.1) (jA k t1 ha.2)
end
section
variable {prog:Program} {w:World} {E:Value->Shared->Prop}
abbrev dZ (w:World) (d:PyData):Int:=PySem.W.hashW w.params (PySem.W.ofPy d)
mutual
theorem mZ:∀ (d:PyData) (v:Value) (as:List Addr) (A:Around) (s:Shared) (Q:Int->Shared->Prop),cQ d=true->Reads s.heap v d as->A.units+d.depth < cLine ->
  Q (dZ w d) { s with toks:=s.toks+mX d }->wpAny (model prog w) A (pyHash v) Q E s
 | .none,_,_,A,s,Q,_,x,hu,h=>by
  cases x
  exact PySem.W.pyHash_slot (T := "NoneType") rfl F.slot_NoneType_hash F.entry_NoneType_hash (F.args_NoneType_hash_1 _) (beq_builtin_none _) (.inr (by omega)) (wpAny_bind (wpAny_pure (wpAny_bind (wpAny_mkInt (wpAny_pure ⟨_,_,rfl,h⟩)))))
 | .int i,_,_,A,s,Q,_,x,_,h=>by
  cases x
  refine wpAny_pyHash_int ?_
  have e:=PySem.W.hashW_int w.params i
  rw [<-e]
  exact h
 | .str y,_,_,A,s,Q,_,x,_,h=>by cases x;exact wpAny_pyHash_str h
 | .tuple xs,_,_,A,s,Q,hk,x,hu,h=>by
  cases x with
  | @tuple a o vs n _ _ hg hc hd hw =>
   refine PySem.W.pyHash_slot (T := "tuple") ⟨_,hg,hc⟩ F.slot_tuple_hash F.entry_tuple_hash (F.args_tuple_hash_1 _) (beq_builtin_none _) (.inr (by omega)) ?_
   show wpAny _ _ (Builtin.Tuple.tupleItemsOf (.ref a) >>= _) _ _ s
   refine wpAny_bind (wpAny_tupleItemsOf hg hd ?_)
   refine wpAny_bind ?_
   rw [<-Array.forIn_toList]
   refine o3 xs vs.toList _ A.in1 s #[] _ hk hw (by have:(PyData.tuple xs).depth=PyData.depthAll xs+1:=rfl;rw [Around.in1_units];omega) fun b hb=>?_
   show wpAny _ _ (retInt (Builtin.Tuple.tupleHashOf b.toList)) _ _ _
   rw [hb]
   exact wpAny_bind (wpAny_mkInt (wpAny_pure ⟨_,_,rfl,h⟩))
 | .bool _,_,_,_,_,_,hk,_,_,_ | .list _,_,_,_,_,_,hk,_,_,_ | .dict _,_,_,_,_,_,hk,_,_,_=>by cases hk
theorem o3:∀ (xs:List PyData) (vs:List Value) (as:List Addr) (A:Around) (s:Shared) (b:Array Int) (Q:Array Int->Shared->Prop),cf xs=true->ReadsAll s.heap vs xs as->A.units+PyData.depthAll xs < cLine ->
  (∀ b',b'.toList=b.toList++PySem.W.hashesW w.params (PySem.W.ofPys xs)->Q b' { s with toks:=s.toks+jY xs }) ->
  wpAny (model prog w) A (forIn vs b fun x r=>do let h <-pyHash x;pure PUnit.unit;pure (ForInStep.yield (r.push h))) Q E s
 | [],_,_,A,s,b,Q,_,x,_,h=>by cases x;exact wpAny_pure (h b (by simp [PySem.W.hashesW,PySem.W.ofPys]))
 | k :: xs,_,_,A,s,b,Q,hk,x,hu,h=>by
  cases x with
  | cons x1 x2 =>
   have hk:(cQ k && cf xs)=true:=hk
   rw [Bool.and_eq_true] at hk
   have hu:A.units+max k.depth (PyData.depthAll xs) < cLine:=hu
   rw [List.forIn_cons]
   refine wpAny_bind (wpAny_bind (mZ k _ _ A s _ hk.1 x1 (by omega) ?_))
   refine wpAny_bind (wpAny_pure (wpAny_pure ?_))
   refine o3 xs _ _ A _ _ Q hk.2 x2 (by omega) fun b' hb=>?_
   have h2:=h b' (by simp [hb,PySem.W.hashesW,PySem.W.ofPys])
   have e:jY (k :: xs)=mX k+jY xs:=rfl
   rw [e,<-Nat.add_assoc] at h2
   exact h2
end
mutual
theorem ik:∀ (d:PyData) (v:Value) (as:List Addr) (A:Around) (s:Shared) (n:Nat) (Q:Bool->Shared->Prop),cQ d=true->Reads s.heap v d as->d.depth<=n->Q true s->wpAny (model prog w) A (eqIsQuiet n v) Q E s
 | .none,_,_,A,s,n,Q,_,x,_,h=>by cases x;unfold eqIsQuiet;exact wpAny_pure h
 | .int i,_,_,A,s,n,Q,_,x,_,h=>by cases x;unfold eqIsQuiet;exact wpAny_pure h
 | .str y,_,_,A,s,n,Q,_,x,_,h=>by cases x;unfold eqIsQuiet;exact wpAny_pure h
 | .tuple xs,_,_,A,s,n,Q,hk,x,hn,h=>by
  cases x with
  | @tuple a o vs n' _ _ hg hc hd hw =>
   have hn:PyData.depthAll xs+1<=n:=hn
   obtain⟨n,rfl⟩:∃ m,n=m+1:=⟨n - 1,by omega⟩
   have hT:s.TypeIs (.ref a) "tuple" := ⟨_,hg,hc⟩
   unfold eqIsQuiet
   refine wpAny_bind (wpAny_specialOf hT F.slot_tuple_eq.lookup ?_)
   show wpAny _ _ (isInstance (.ref a) (.type "tuple") >>= _) _ _ s
   refine wpAny_bind (wpAny_isInstance hT isSubtype_tuple_tuple ?_)
   simp only [Bool.not_true,Bool.false_eq_true,if_false]
   refine wpAny_bind (wpAny_seqItems hg hd ?_)
   refine wpAny_bind ?_
   show wpAny _ _ (forIn vs _ _) _ _ s
   rw [<-Array.forIn_toList]
   have hall:=o4 xs vs.toList _ A s n hk hw (by omega)
   refine wpAny_forIn_list _ (fun rest r s'=>r.1=none/\s' = s/\∀ v ∈ rest,∀ Q:Bool->Shared->Prop,Q true s->wpAny (model prog w) A (eqIsQuiet n v) Q E s) _ ?_ ?_ _ _ ⟨rfl,rfl,hall⟩
   ·rintro v rest r s' ⟨hr,rfl,hq⟩
    refine wpAny_bind (hq v List.mem_cons_self _ ?_)
    simp only [Bool.not_true,Bool.false_eq_true,if_false]
    exact wpAny_pure ⟨rfl,rfl,fun u hu'=>hq u (List.mem_cons_of_mem _ hu')⟩
   ·rintro⟨r1,r2⟩ s' ⟨hr,rfl,_⟩
    simp only at hr
    subst hr
    exact wpAny_pure h
 | .bool _,_,_,_,_,_,_,hk,_,_,_ | .list _,_,_,_,_,_,_,hk,_,_,_ | .dict _,_,_,_,_,_,_,hk,_,_,_=>by cases hk
theorem o4:∀ (xs:List PyData) (vs:List Value) (as:List Addr) (A:Around) (s:Shared) (n:Nat),cf xs=true->ReadsAll s.heap vs xs as->PyData.depthAll xs<=n->∀ v ∈ vs,∀ Q:Bool->Shared->Prop,Q true s->wpAny (model prog w) A (eqIsQuiet n v) Q E s
 | [],_,_,A,s,n,_,x,_=>by cases x;intro v hv;cases hv
 | k :: xs,_,_,A,s,n,hk,x,hn=>by
  cases x with
  | cons x1 x2 =>
   have hk:(cQ k && cf xs)=true:=hk
   rw [Bool.and_eq_true] at hk
   have hn:max k.depth (PyData.depthAll xs)<=n:=hn
   intro v hv Q h
   rcases List.mem_cons.mp hv with rfl | hv
   ·exact ik k _ _ A s n Q hk.1 x1 (by omega) h
   ·exact o4 xs _ _ A s n hk.2 x2 (by omega) v hv Q h
end
end
structure dB (d:PyData):Prop where
 key:cQ d=true
 lay:d.canLay0=true
 dep:d.depth<=7
 tup:∃ xs,d=.tuple xs
def bP (prog:Program) (w:World):HeapKind prog w PyData where
 is:=fun h d a=>dB d/\∃ as,Reads h (.ref a) d as
 hash:=dZ w
 draws:=mX
 room:=fun A=>A.units+64 < cLine
 inj:=fun ⟨h1,_,r1⟩ ⟨h2,_,r2⟩=>jZ r1 r2 h1.key h2.key
 keeps:=fun {h h' k a d o es ep} ⟨h1,as,r1⟩ hd he hs=>⟨h1,as,fo (fun b u n vs e1 e2=>by
  have hne:b ≠ d:=by
   rintro rfl
   rw [hd] at e1
   cases e1
   rw [he] at e2
   cases e2
  exact (hs.2 b hne).trans e1) r1 h1.key⟩
 pyHash:=fun hu ⟨h1,_,r1⟩ h=>mZ _ _ _ _ _ _ h1.key r1 (by have:=h1.dep;omega) h
 eqBool:=fun {A E s x y a b Q} hu ⟨h1,_,r1⟩ ⟨h2,_,r2⟩ h=>by
  refine PySem.SeqAt.eqAt_reads x y A s (.ref a) (.ref b) _ _ r1 r2 h1.lay h2.lay (by have:=h1.dep;have:=h2.dep;omega) prog w E Q ?_
  have e:PyData.eqv x y=decide (x=y):=by
   have:=nW h1.key h2.key
   by_cases hxy:x=y
   ·rw [decide_eq_true hxy];exact this.mpr hxy
   ·rw [decide_eq_false hxy];exact Bool.eq_false_iff.mpr fun z=>hxy (this.mp z)
  rw [e]
  exact h
 quiet:=fun ⟨h1,_,r1⟩ h=>ik _ _ _ _ _ _ _ h1.key r1 (by have:=h1.dep;omega) h
abbrev KX (kvs:List (PyData × Addr × V)) (xs:List (PyData × Addr × Value)):Prop:=Paired (fun (p:PyData × Addr × V) (q:PyData × Addr × Value)=>p.1=q.1/\p.2.1=q.2.1/\RelV p.2.2 q.2.2) kvs xs
def j2 (P:Program) (w:World) (a:Addr) (kvs:List (PyData × Addr × V)) (h:Heap):Prop:=(a == sysModules)=false/\kvs.length<=sizeLine /\
 ∃ (xs:List (PyData × Addr × Value)) (o:Obj) (es:Array DictEntry) (ep:Nat),h.get? a=some o/\o.ExactDict/\o.data=.dict es ep/\es.toList=xs.map (entryOfKey (bP P w))/\(xs.map (·.1)).Nodup/\KX kvs xs
def dN (P:Program) (w:World) (a:Addr) (kvs:List (PyData × Addr × V)):HO:=.ext (j2 P w a kvs)
theorem lY {P:Program} {w:World} {H:Hp} {h:Heap} {a:Addr} {kvs:List (PyData × Addr × V)} (S:j2 P w a kvs h):bC P w H h a (dN P w a kvs) :=
 ⟨S,let ⟨_,_,_,o,_,_,e,_⟩:=S;⟨o,e⟩,fun h1 h2 ⟨s1,s2,xs,o,es,ep,e,r⟩ k=>⟨s1,s2,xs,o,es,ep,k o e,r⟩⟩
def zq (H:Hp) (kvs:List (PyData × Addr × V)):Prop:=∀ p ∈ kvs,dB p.1/\aP H (.ref p.2.1) p.1
noncomputable def dH (kvs:List (PyData × Addr × V)) (d:PyData):Option V:=(kvs.find? fun p=>decide (p.1=d)).map (·.2.2)
noncomputable def putD (kvs:List (PyData × Addr × V)) (d:PyData) (k:Addr) (v:V):List (PyData × Addr × V):=if (dH kvs d).isSome then kvs.map (fun p=>if p.1=d then (p.1,p.2.1,v) else p) else kvs ++ [(d,k,v)]
theorem KX.val {d:PyData}:∀ {kvs:List (PyData × Addr × V)} {xs:List (PyData × Addr × Value)},KX kvs xs->(dH kvs d=none/\atKey xs d=none)\/∃ v a u,dH kvs d=some v/\atKey xs d=some (a,u)/\RelV v u
 | _,_,.nil=>.inl ⟨rfl,rfl⟩
 | _,_,.cons (a:=p) (b:=q) (l₁:=kvs) (l₂:=xs) ⟨e1,e2,e3⟩ t=>by
  by_cases h:p.1=d
  ·refine .inr ⟨p.2.2,q.2.1,q.2.2,?_,?_,e3⟩
   ·unfold dH;rw [List.find?_cons_of_pos (by exact decide_eq_true h)];rfl
   ·unfold atKey;rw [List.find?_cons_of_pos (by exact decide_eq_true (e1 ▸ h))];rfl
  ·have h':¬ q.1=d:=fun z=>h (e1.trans z)
   have e4:dH (p :: kvs) d=dH kvs d:=by unfold dH;rw [List.find?_cons_of_neg (by rw [decide_eq_false h];decide)]
   have e5:atKey (q :: xs) d=atKey xs d:=by unfold atKey;rw [List.find?_cons_of_neg (by rw [decide_eq_false h'];decide)]
   rw [e4,e5]
   exact KX.val t
theorem KX.put {d:PyData} {k:Addr} {v:V} {u:Value} (r:RelV v u) {kvs:List (PyData × Addr × V)} {xs:List (PyData × Addr × Value)} (h:KX kvs xs):KX (putD kvs d k v) (storedH xs d k u):=by
 have hv:=h.val (d:=d)
 unfold putD storedH
 rcases hv with ⟨h1,h2⟩ | ⟨v',a',u',h1,h2,_⟩
 ·rw [h1,h2]
  have app:∀ {l:List (PyData × Addr × V)} {m:List (PyData × Addr × Value)},KX l m->KX (l ++ [(d,k,v)]) (m ++ [(d,k,u)]):=by
   intro l m q
   induction q with
   | nil=>exact .cons ⟨rfl,rfl,r⟩ .nil
   | cons hq _ ih=>exact .cons hq ih
  exact app h
 ·rw [h1,h2]
  show KX (kvs.map fun p=>if p.1=d then (p.1,p.2.1,v) else p) (xs.map (putAt d u))
  have go:∀ {l:List (PyData × Addr × V)} {m:List (PyData × Addr × Value)},KX l m->KX (l.map fun p=>if p.1=d then (p.1,p.2.1,v) else p) (m.map (putAt d u)):=by
   intro l m q
   induction q with
   | nil=>exact .nil
   | @cons p q ps qs hq _ ih =>
    refine .cons ?_ ih
    unfold putAt
    dsimp only
    by_cases e:p.1=d
    ·rw [if_pos e,if_pos (hq.1 ▸ e)]
     exact⟨hq.1,hq.2.1,r⟩
    ·rw [if_neg e,if_neg (fun z=>e (hq.1.trans z))]
     exact hq
  exact go h
theorem yw (kvs:List (PyData × Addr × V)) (d:PyData) (k:Addr) (v:V):(putD kvs d k v).length<=kvs.length+1:=by
 unfold putD
 split
 ·rw [List.length_map];omega
 ·rw [List.length_append];exact Nat.le_refl _
theorem KX.keys:∀ {kvs:List (PyData × Addr × V)} {xs:List (PyData × Addr × Value)},KX kvs xs->∀ q ∈ xs,∃ p ∈ kvs,p.1=q.1/\p.2.1=q.2.1
 | _,_,.nil,q,hq=>nomatch hq
 | _,_,.cons (a:=p) (l₁:=kvs) ⟨e1,e2,_⟩ t,q,hq=>by
  rcases List.mem_cons.mp hq with rfl | hq
  ·exact⟨p,List.mem_cons_self ..,e1,e2⟩
  ·obtain⟨p',hp',r⟩:=KX.keys t q hq
   exact⟨p',List.mem_cons_of_mem _ hp',r⟩
section
variable {X:Cx} {pins:List (Addr × Obj)} {σ : St} {H:Hp} {s:Shared} {a k:Addr} {kvs:List (PyData × Addr × V)} {d:PyData}
theorem key_is (I:Inv X pins σ H s) (hk:dB d) (r:aP H (.ref k) d):(bP X.prog X.w).is s.heap d k:=⟨hk,r.reads I.aJ rfl⟩
theorem m4 (I:Inv X pins σ H s) (e:H a=some (dN X.prog X.w a kvs)) (hk:zq H kvs):(a == sysModules)=false/\kvs.length<=sizeLine/\∃ xs,KX kvs xs/\s.heap.DictOfH (bP X.prog X.w) a xs:=by
 obtain⟨h1,h2,xs,o,es,ep,g1,g2,g3,g4,g5,g6⟩:=(show j2 X.prog X.w a kvs s.heap from (I.aJ a _ e).1)
 refine⟨h1,h2,xs,g6,o,es,ep,g1,g2,g3,g4,fun x hx=>?_,g5⟩
 obtain⟨p,hp,e1,e2⟩:=g6.keys x hx
 have:=hk p hp
 rw [<-e1,<-e2]
 exact key_is I this.1 this.2
theorem KX.len:∀ {kvs:List (PyData × Addr × V)} {xs:List (PyData × Addr × Value)},KX kvs xs->kvs.length=xs.length
 | _,_,.nil=>rfl
 | _,_,.cons _ t=>congrArg (· + 1) (KX.len t)
theorem p9 {A:Around} (hu:A.units+66 < cLine) {P:Program} {w:World}:(bP P w).room A.in1:=by show A.in1.units+64 < cLine;rw [Around.in1_units];omega
structure uV (X:Cx) (H:Hp) (a k:Addr) (kvs:List (PyData × Addr × V)) (d:PyData):Prop where
 at_:H a=some (dN X.prog X.w a kvs)
 keys:zq H kvs
 key:dB d
 rd:aP H (.ref k) d
theorem z8 (hu:X.A.units+66 < cLine):cY X (compareOp .In) (fun x y H Q=>∃ k a d kvs,x=.ref k/\y=.ref a/\uV X H a k kvs d/\Q (.bl (dH kvs d).isSome) H):=by
 intro pins s σ H x y v u Q I rx ry h
 obtain⟨k,a,d,kvs,rfl,rfl,D,q⟩:=h
 cases rx
 cases ry
 obtain⟨h1,h2,xs,kx,dd⟩:=m4 I D.at_ D.keys
 refine wpAny_in_heap (p9 hu) (key_is I D.key D.rd) h1 dd ?_
 have e:(atKey xs d).isSome=(dH kvs d).isSome:=by
  rcases kx.val (d:=d) with ⟨e1,e2⟩ | ⟨_,_,_,e1,e2,_⟩ <;> rw [e1,e2] <;> rfl
 rw [e]
 exact⟨.bl _,H,I.tok _,rfl,q⟩
theorem uW (hu:X.A.units+66 < cLine):cY X (compareOp .NotIn) (fun x y H Q=>∃ k a d kvs,x=.ref k/\y=.ref a/\uV X H a k kvs d/\Q (.bl (!(dH kvs d).isSome)) H):=by
 intro pins s σ H x y v u Q I rx ry h
 obtain⟨k,a,d,kvs,rfl,rfl,D,q⟩:=h
 cases rx
 cases ry
 obtain⟨h1,h2,xs,kx,dd⟩:=m4 I D.at_ D.keys
 refine wpAny_notIn_heap (p9 hu) (key_is I D.key D.rd) h1 dd ?_
 have e:(atKey xs d).isSome=(dH kvs d).isSome:=by
  rcases kx.val (d:=d) with ⟨e1,e2⟩ | ⟨_,_,_,e1,e2,_⟩ <;> rw [e1,e2] <;> rfl
 rw [e]
 exact⟨.bl _,H,I.tok _,rfl,q⟩
theorem z9 {o i:Expr} {pos:Pos} {td ty:TE} (hu:X.A.units+66 < cLine) (ho:PE X o td) (hi:PE X i ty) (hs:uH i) :
  PE X (.Subscript o i pos) (fun σ H Q=>td σ H fun x H1=>ty σ H1 fun y H2=>∃ k a d kvs v,x=.ref a/\y=.ref k/\uV X H2 a k kvs d/\dH kvs d=some v/\Q v H2):=by
 intro pins s σ H Q I h
 refine nO PySem.F.slot_dict_getitem.lookup hs (aT (ho pins s σ H _ I h) fun u s1 ⟨x,H1,I1,rx,q1⟩=>aT (hi pins s1 σ H1 _ I1 q1) fun iv s2 ⟨y,H2,I2,ry,k,a,d,kvs,v,ex,ey,D,hv,q2⟩=>?_)
 subst ex ey
 obtain rfl:u=Value.ref a:=rx
 obtain rfl:iv=Value.ref k:=ry
 obtain⟨h1,h2,xs,kx,dd⟩:=m4 I2 D.at_ D.keys
 rcases kx.val (d:=d) with ⟨e1,_⟩ | ⟨v',a',u',e1,e2,e3⟩
 ·rw [e1] at hv;cases hv
 ·rw [e1] at hv
  cases hv
  exact⟨dd.typeIs,wpAny_getItem_heap (p9 hu) (key_is I2 D.key D.rd) dd e2 ⟨_,H2,I2.tok _,e3,q2⟩⟩
theorem yx (hu:X.A.units+66 < cLine):xt X (fun o i v H Q=>∃ k a d kvs,o=.ref a/\i=.ref k/\uV X H a k kvs d/\kvs.length < sizeLine/\Q (upd H a (dN X.prog X.w a (putD kvs d k v)))):=by
 intro pins s σ H o i v ov iv u Q I ro ri rv h
 obtain⟨k,a,d,kvs,rfl,rfl,D,hz,q⟩:=h
 cases ro
 cases ri
 obtain⟨h1,h2,xs,kx,dd⟩:=m4 I D.at_ D.keys
 refine wpAny_setItem_heap (p9 hu) (key_is I D.key D.rd) dd (fun h' hm' hs'=>?_) (by rw [<-kx.len];exact h2)
 obtain⟨o',es,ep,g1,g2,g3,g4,g5,g6⟩:=id hm'
 refine⟨_,I.write (t':=_) (x:=a) (e:=a) (by rw [D.at_];exact trivial) (.inl rfl) (fun c u' hc hu=>(hs'.2 c hc).trans hu) ⟨o',g1⟩ (lY ⟨h1,?_,storedH xs d k u,o',es,ep,g1,g2,g3,g4,g6,kx.put rv⟩),q⟩
 have:=yw kvs d k v
 omega
end
open LS
section
variable {X:Cx}
end
def nX (a0 a1:V):List (Str × V):=[("members",a0),("places",a1)]
section
variable {a0 a1 z:V}
theorem fq:(nX a0 a1).lookup ("members" : Str)=some a0:=Bh
theorem fZ:(nX a0 a1).lookup ("places" : Str)=some a1:=(x9 (by decide +kernel) Bh)
theorem m5:cZ "members" a0 ([]:List (Str × V))=([("members",a0)]:List (Str × V)):=Bi
theorem wQ:cZ "places" a1 ([("members",a0)]:List (Str × V))=nX a0 a1:=(C0 (by decide +kernel) Bi)
theorem qV:(nX a0 a1).lookup ("place_of" : Str)=none:=(x9 (by decide +kernel) (x9 (by decide +kernel) rfl))
end
structure qW (K:PySem.W.Frag) (C:Addr):Prop where
 cl:jM K C
 members:fU K C "members"
 places:fU K C "places"
abbrev vN (ms:List Nat):List V:=ms.map fun k=>V.int (k:Nat)
def jb (m d:Addr) (H H':Hp):Prop:=∀ c o,H c=some o->c ≠ m->c ≠ d->H' c=some o
theorem jb.refl {m d:Addr} {H:Hp}:jb m d H H:=fun _ _ h _ _=>h
theorem jb.of_same {m d:Addr} {H H':Hp} (h:ae H H'):jb m d H H':=fun c o e _ _=>h c o e
section
variable {C r m d:Addr} {H H':Hp} {ms:List Nat}
end
section
variable (C:Addr)
end
def Dn:Piece->Bool
 | ([],.go _)=>true
 | _=>false
theorem cV {l:List Nat} {n:Nat} (nd:l.Nodup) (h:∀ x ∈ l,x < n):l.length<=n:=by
 have:=sub_len nd (m:=List.range n) fun x hx=>List.mem_range.mpr (h x hx)
 simpa using this
def jc:End->List V
 | .stop=>[.str "stop"]
 | .go _=>[.str "go"]
 | .cH b x n _ _=>[.str (wT b),.str x,.int n]
def yy:End->List Nat->End
 | .go _,[a]=>.go a
 | .cH b x n _ _,[a,c]=>.cH b x n a c
 | e,_=>e
theorem yz {e:End} {ns:List Nat} (h:ns.length=(ar e).length):eO (yy e ns)=jc e++vN ns:=by
 cases e with
 | stop=>match ns,h with | [],_=>rfl
 | go p=>match ns,h with | [a],_=>rfl
 | cH b x n p q=>match ns,h with | [a,c],_=>rfl
theorem Bu {H:Hp} {t:Addr} {e:End} (h:H t=some (.tup (eO e))):aP H (.ref t) (nN e):=by
 cases e with
 | stop=>exact .tup h (.cons (.str _) .nil)
 | go p=>exact .tup h (.cons (.str _) (.cons (.int _) .nil))
 | cH b x n p q=>exact .tup h (.cons (.str _) (.cons (.str _) (.cons (.int _) (.cons (.int _) (.cons (.int _) .nil)))))
theorem qX {ms:List Nat} {k:Nat} (h:ms.Nodup):(LS.putIn ms k).Nodup:=by
 unfold LS.putIn
 split
 ·exact h
 ·next hk =>
  rw [List.nodup_append]
  refine⟨h,by simp,fun x hx y hy z=>?_⟩
  rw [List.mem_singleton.mp hy] at z
  exact hk (z ▸ hx)
inductive o5  (vs:List V) (H:Hp) (Q:VK) (_:XK):Prop
 | mk (ea:Addr) (e:End) (_:vs = [.ref ea]) (_:H ea=some (.tup (eO e))) (_:∀ t H',H' t=some (.tup (jc e))->ae H H'->Q (.ref t) H')
theorem eu (k:Nat):∀ ms:List Nat,eV (.int (k:Nat)) (vN ms)=decide (k ∈ ms)
 | []=>rfl
 | m :: ms=>by
  have ih:=eu k ms
  show ((((m:Nat):Int) == ((k:Nat):Int)) || eV (.int (k:Nat)) (vN ms))=_
  rw [ih]
  by_cases e:m=k
  ·subst e;simp
  ·have e':¬ (m:Int)=(k:Int):=by omega
   rw [beq_false_of_ne e',Bool.false_or]
   have:k ∈ m :: ms ↔ k ∈ ms:=by rw [List.mem_cons];exact⟨fun h=>h.resolve_left fun z=>e z.symm,.inr⟩
   simp only [this]
theorem e6 (ms:List Nat):(vN ms).all ff=true:=by rw [List.all_eq_true];intro v hv;obtain⟨k,_,rfl⟩:=List.mem_map.mp hv;rfl
theorem j3 (ms:List Nat):vN ms=(ms.map fun k:Nat=>(k:Int)).map V.int:=by rw [List.map_map];rfl
section
variable {X:Cx} {pins:List (Addr × Obj)} {σ : L2.St} {H:Hp} {s:Shared} {a:Addr}
end
section
variable {X:Cx}
end
theorem yA {x:Str} (h:hG x):PyData.canLay0 (.str x)=true:=by
 show (x.cps.all fun c=>decide (c < 0x110000))=true
 rw [<-Array.all_toList,List.all_eq_true]
 intro c hc
 have:=h.az c hc
 exact decide_eq_true (by omega)
def uX (T:Str->Sx) (m:Nat):Prop:=∀ ss:List Str,(∀ x ∈ ss,T x ≠ df)->ss.Nodup->ss.length<=m
inductive tQ (aA:Addr) (vs:List V) (H:Hp) (Q:VK) (_:XK):Prop
 | mk (fv:V) (x:Str) (T:Str->Sx) (_:vs = [fv,.str x]) (_:FV H fv T) (_:∀ v H',SV aA H' v (T x)->ae H H'->Q v H')
inductive lF (aA:Addr) (vs:List V) (H:Hp) (Q:VK) (_:XK):Prop
 | mk (fv sv:V) (x:Str) (T:Str->Sx) (s:Sx) (_:vs = [fv,.str x,sv]) (_:FV H fv T) (_:SV aA H sv s) (_:uX T 62) (_:∀ v H',FV H' v (dY T x s)->ae H H'->Q v H')
section
variable {X:Cx}
end
inductive tR (K:PySem.W.Frag) (vs:List V) (H:Hp) (Q:VK) (_:XK):Prop
 | mk (n:Int) (q:Addr) (lo hi:Option Int) (_:vs = [.int n,.ref q]) (_:av K H q [vO lo,vO hi]) (_:Q (.bl (i5 n lo hi)) H)
inductive j4 (K:PySem.W.Frag) (F:Option Int->Option Int->Int->Rs) (vs:List V) (H:Hp) (Q:VK) (_:XK):Prop
 | mk (p:Addr) (n:Int) (lo hi:Option Int) (_:vs = [.ref p,.int n]) (_:av K H p [vO lo,vO hi]) (_:∀ v H',RV H' v (F lo hi n)->ae H H'->Q v H')
inductive tS (K:PySem.W.Frag) (vs:List V) (H:Hp) (Q:VK) (_:XK):Prop
 | mk (p:Addr) (w:Str) (n:Int) (side:Bool) (lo hi:Option Int) (_:vs = [.ref p,.str w,.int n,.bl side]) (_:av K H p [vO lo,vO hi]) (_:∀ v H',RV H' v (fk w lo hi n side)->ae H H'->Q v H')
def eC (T:Str->Sx) (b:Bool) (x:Str) (n:Int) (side:Bool):Rs:=fk (wT b) (T x).1 (T x).2 n side
def gi (T:Str->Sx):End->List (Option (Str->Sx))
 | .stop=>[]
 | .go _=>[some T]
 | .cH b x n _ _=>[(eC T b x n true).map (dY T x),(eC T b x n false).map (dY T x)]
def BV (H:Hp) (u:V):Option (Str->Sx)->Prop
 | none=>u=.bg
 | some T=>FV H u T
theorem BV.aW {H H':Hp} {u:V} {o:Option (Str->Sx)} (h:BV H u o) (k:∀ p xs,H p=some (.tup xs)->H' p=some (.tup xs)):BV H' u o:=by
 cases o with
 | none=>exact h
 | some T=>exact FV.aW h k
def jB (H:Hp) (us:List V) (os:List (Option (Str->Sx))):Prop:=Paired (BV H) us os
def b8 (T:Str->Sx) (e:End):List (Nat × (Str->Sx)):=((ar e).zip (gi T e)).filterMap fun p=>p.2.map fun U=>(p.1,U)
inductive qY (aA:Addr) (vs:List V) (H:Hp) (Q:VK) (_:XK):Prop
 | mk (fv:V) (ea:Addr) (T:Str->Sx) (e:End) (_:vs = [fv,.ref ea]) (_:FV H fv T) (_:H ea=some (.tup (eO e))) (_:uX T 62) (_:∀ (t:Addr) (us:List V) (H':Hp),H' t=some (.tup us)->jB H' us (gi T e)->ae H H'->Q (.ref t) H')
def PV (H:Hp) (v:V) (p:Nat × (Str->Sx)):Prop:=∃ q u,v=.ref q/\H q=some (.tup [.int p.1,u])/\FV H u p.2
theorem PV.aW {H H':Hp} {v:V} {p:Nat × (Str->Sx)} (h:PV H v p) (k:∀ p xs,H p=some (.tup xs)->H' p=some (.tup xs)):PV H' v p:=by
 obtain⟨q,u,e,h1,h2⟩:=h
 exact⟨q,u,e,k _ _ h1,h2.aW k⟩
def j5 (H:Hp) (vs:List V) (ps:List (Nat × (Str->Sx))):Prop:=Paired (PV H) vs ps
theorem j5.aW {H H':Hp} (k:∀ p xs,H p=some (.tup xs)->H' p=some (.tup xs)):∀ {vs:List V} {ps:List (Nat × (Str->Sx))},j5 H vs ps->j5 H' vs ps
 | _,_,.nil=>.nil
 | _,_,.cons h t=>.cons (h.aW k) (j5.aW k t)
theorem jB.aW {H H':Hp} (k:∀ p xs,H p=some (.tup xs)->H' p=some (.tup xs)):∀ {vs:List V} {ps:List (Option (Str->Sx))},jB H vs ps->jB H' vs ps
 | _,_,.nil=>.nil
 | _,_,.cons h t=>.cons (h.aW k) (jB.aW k t)
theorem j5.same {H H':Hp} {vs:List V} {ps:List (Nat × (Str->Sx))} (h:j5 H vs ps) (s:ae H H'):j5 H' vs ps:=h.aW fun p xs e=>s _ _ e
theorem jB.same {H H':Hp} {vs:List V} {ps:List (Option (Str->Sx))} (h:jB H vs ps) (s:ae H H'):jB H' vs ps:=h.aW fun p xs e=>s _ _ e
inductive tT (aA:Addr) (vs:List V) (H:Hp) (Q:VK) (_:XK):Prop
 | mk (fv:V) (ea:Addr) (T:Str->Sx) (e:End) (_:vs = [fv,.ref ea]) (_:FV H fv T) (_:H ea=some (.tup (eO e))) (_:uX T 62) (_:∀ (t:Addr) (vs:List V) (H':Hp),H' t=some (.tup vs)->j5 H' vs (b8 T e)->ae H H'->Q (.ref t) H')
def nY (T:Str->Sx):Prop:=∀ x,T x ≠ df->PyData.canLay0 (.str x)=true
theorem wR {T:Str->Sx} (h:nY T):∀ ss:List Str,(∀ x ∈ ss,T x ≠ df)->(d7 T ss).canLay0=true
 | [],_=>rfl
 | x :: ss,hs=>by
  have ih:=wR h ss fun y hy=>hs y (List.mem_cons_of_mem _ hy)
  show ((PyData.canLay0 (.str x) && ((dS (T x)).canLay0 && true)) && (d7 T ss).canLay0)=true
  rw [h x (hs x (List.mem_cons_self ..)),zo,ih]
  rfl
theorem Bv (T:Str->Sx) (ss:List Str):(d7 T ss).depth<=3:=by
 have go:∀ ss:List Str,PyData.depthAll (ss.map (dF T))<=2:=by
  intro ss
  induction ss with
  | nil=>exact Nat.zero_le _
  | cons x ss ih =>
   show max (max 0 (max ((dS (T x)).depth) 0)+1) (PyData.depthAll (ss.map (dF T)))<=2
   have hd:(dS (T x)).depth<=1:=by
    obtain⟨a,b⟩:=T x
    cases a <;> cases b <;> (show (1:Nat)<=1;decide)
   omega
 show PyData.depthAll (ss.map (dF T))+1<=3
 have:=go ss
 omega
theorem Aa {T:Str->Sx} {e:End} (h:(ar e).length < 2):gi T e=(ar e).map fun _=>some T:=by
 cases e with
 | stop=>rfl
 | go p=>rfl
 | cH b x n p q=>exact absurd h (by show ¬ 2 < 2;omega)
theorem tU {H:Hp} {fv:V} {T:Str->Sx} (h:FV H fv T):∀ l:List Nat,jB H (List.replicate l.length fv) (l.map fun _=>some T)
 | []=>.nil
 | _ :: l=>.cons h (tU h l)
def lG (H:Hp) (vs:List V) (rs:List Rs):Prop:=Paired (RV H) vs rs
theorem lG.same {H H':Hp} (s:ae H H'):∀ {vs:List V} {rs:List Rs},lG H vs rs->lG H' vs rs
 | _,_,.nil=>.nil
 | _,_,.cons h t=>.cons (h.same s) (lG.same s t)
theorem lG.put {H:Hp} {l:Addr} {xs:List V} {o:HO} (hl:H l=some (.lst xs)):∀ {vs:List V} {rs:List Rs},lG H vs rs->lG (upd H l o) vs rs
 | _,_,.nil=>.nil
 | _,_,.cons h t=>.cons (h.put hl) (lG.put hl t)
theorem RV.sv {aA:Addr} {H:Hp} {v:V} {s:Sx} (h:RV H v (some s)):SV aA H v s:=by
 obtain⟨a,b⟩:=s
 obtain⟨p,e,h⟩:=h
 exact .inl ⟨p,e,h⟩
def j6 (ss:List Str):PyData:=.tuple (ss.map fun x=>.tuple [.str x,.tuple [.int 0,.int 0]])
inductive tV  (vs:List V) (H:Hp) (Q:VK) (_:XK):Prop
 | mk (plv:V) (ps:List Piece) (xs:List Str) (m:Nat) (_:vs = [plv]) (_:aP H plv (eM ps)) (_:bY xs m ps) (_:xs.length < 64) (_:(bo ps).length<=4000) (_:∀ (v:V) (ss:List Str) (H':Hp),aP H' v (j6 ss)->ss.Perm (cM (bo ps))->sortedS ss=true->ae H H'->Q v H')
theorem e7:∀ ss:List Str,bV (ss.map fun x=>PyData.tuple [.str x,.tuple [.int 0,.int 0]])=true
 | []=>rfl
 | x :: ss=>by
  show (true && bV (ss.map fun x=>PyData.tuple [.str x,.tuple [.int 0,.int 0]]))=true
  rw [e7 ss];rfl
theorem wU {T:Str->Sx} {e:End} {i k:Nat} {o:Option (Str->Sx)} (h1:(ar e)[i]? = some k) (h2:(gi T e)[i]? = some o) :
  (((ar e).zip (gi T e)).take (i+1)).filterMap (fun p=>p.2.map fun U=>(p.1,U))=(((ar e).zip (gi T e)).take i).filterMap (fun p=>p.2.map fun U=>(p.1,U))++(o.map fun U=>(k,U)).toList:=by
 have hz:((ar e).zip (gi T e))[i]? = some (k,o):=by rw [List.getElem?_zip_eq_some];exact⟨h1,h2⟩
 rw [List.take_add_one,hz,List.filterMap_append]
 cases o <;> rfl
theorem il {α β : Type} {F:α->β->Prop} {l:List α} {m:List β} (h:Paired F l m) {i:Nat} {x:α} (e:l[i]? = some x):∃ y,m[i]? = some y/\F x y:=LS.dt h e
theorem eB {α β : Type} {F:α->β->Prop}:∀ {l l':List α} {m m':List β},Paired F l m->Paired F l' m'->Paired F (l++l') (m++m')
 | _,_,_,_,.nil,h=>h
 | _,_,_,_,.cons r t,h=>.cons r (eB t h)
section
variable {prog:Program} {w:World} {A:Around} {E:Value->Shared->Prop} {s:Shared}
theorem qZ {l:Addr} {vs:List Value} {ns:List Int} {Q:Value->Shared->Prop} (hl:s.heap.IsList l vs.toArray) (hI:IntsAre vs ns) (h64:vs.length < 64)
  (q:∀ (h':Heap) (D:Addr) (out:Array Value) (ns':List Int) (e:Nat),(∀ b o,s.heap.get? b=some o->h'.get? b=some o)->s.heap.objs.size<=D->h'.get? D=some { cls:=.type "list",data:=.seq out e } ->
   IntsAre out.toList ns'->ns'.Perm ns->ns'.Pairwise (· <= ·)->Q (.ref D) { s with heap:=h' }):wpAny (model prog w) A (call (.builtin "sorted") [.ref l]) Q E s:=by
 refine sorted_ints hl hI h64 fun out ns' a1 a2 a3=>?_
 unfold sortedAll
 generalize hg:((s.heap.push (seqObj "list" #[] 0)).update s.heap.objs.size (Obj.mapSeq (· ++ vs.toArray)))=g
 have hz:g.objs.size=s.heap.objs.size+1:=by rw [<-hg,Heap.size_update,size_push']
 have kp:∀ b o,s.heap.get? b=some o->g.get? b=some o:=fun b o e=>by
  rw [<-hg]
  exact (Heap.get?_update_other _ _ (Nat.ne_of_gt (Heap.lt_size e))).trans (Heap.get?_push_of_some _ e)
 have hoL:(g.push (seqObj "list" vs.toArray 0)).get? (s.heap.objs.size+1)=some (seqObj "list" vs.toArray 0):=by rw [<-hz];exact Heap.get?_push_size _ rfl
 obtain⟨e,he⟩:=sortedHeap_at (out:=out) hoL
 refine q _ _ out ns' e (fun b o ho=>?_) (Nat.le_succ _) he a1 a2 a3
 have h1:=kp b o ho
 have hlt:=Heap.lt_size ho
 rw [sortedHeap_old (Nat.ne_of_lt (Nat.lt_succ_of_lt hlt)) (by rw [size_push',hz];exact Nat.lt_succ_of_lt (Nat.lt_succ_of_lt hlt))]
 exact Heap.get?_push_of_some _ h1
end
section
variable {X:Cx}
theorem pS:cJ X (.builtin "sorted") (fun vs H Q=>∃ (p:Addr) (ns:List Int),vs = [.ref p]/\aI X.K H p (ns.map V.int)/\ns.length < 64 /\
  ∀ (l:Addr) (ns':List Int),ns'.Perm ns->ns'.Pairwise (· <= ·)->H l=none->Q (.ref l) (upd H l (.lst (ns'.map V.int)))):=by
 intro pins s σ H xs us Q I r h
 obtain⟨p,ns,rfl,hp,h64,q⟩:=h
 obtain⟨u,rfl,ru⟩:=vals1 r
 cases (show u=Value.ref p from ru)
 obtain⟨its,hv,pl,_⟩:=I.list hp
 have hi:=intsAre_of hv
 refine qZ pl.isList hi (by have:=hv.length;rw [List.length_map] at this;omega) fun h' D out ns' e hkeep hD he hS hp' hs=>?_
 have hv':Vals (ns'.map V.int) out.toList:=fW hS
 refine⟨.ref D,_,I.laid (t':=s.toks) (o:=.lst (ns'.map V.int)) hkeep hD (show bC X.prog X.w _ h' _ (.lst (ns'.map V.int)) from ⟨?_,out.toList,e,hv',by simpa using he⟩),rfl,q D ns' hp' hs (I.aJ.fresh hD)⟩
 rw [List.length_map,hp'.length_eq]
 exact Nat.le_trans (Nat.le_of_lt h64) (by decide)
end
theorem Ab {xs:List Str} {m:Nat} {ps:List Piece} (ok:bY xs m ps):(bo ps).length<=ps.length * (2 * m+1):=by
 unfold bo
 have h:∀ p ∈ ps,(pNames p).length<=2 * m+1:=fun p hp=>by
  have h1:=(ok.gG p hp).1
  unfold pNames
  rw [List.length_append]
  have h2:(p.1.flatMap cU).length<=2 * p.1.length:=by
   induction p.1 with
   | nil=>simp
   | cons d ds ih =>
    rw [List.flatMap_cons,List.length_append,List.length_cons]
    have:(cU d).length<=2:=by cases d <;> simp [cU]
    omega
  have h3:(hR p.2).length<=1:=by cases p.2 <;> simp [hR]
  omega
 clear ok
 induction ps with
 | nil=>simp
 | cons p ps ih =>
  rw [List.flatMap_cons,List.length_append,List.length_cons]
  have h1:=h p (List.mem_cons_self ..)
  have h2:=ih fun q hq=>h q (List.mem_cons_of_mem _ hq)
  rw [Nat.add_mul]
  omega
theorem sd {K:PySem.W.Frag} {cd:Value} {q:Str} (h:PySem.W.codeIn K cd q=true):PySem.W.kdsCode K cd=true:=by
 unfold PySem.W.codeIn at h
 unfold PySem.W.kdsCode
 split at h
 ·split at h
  ·rename_i ho
   dsimp only
   rw [ho]
  ·cases h
 ·cases h
theorem Ac {prog:Program} {w:World} {A:Around} {E:Value->Shared->Prop} {s:Shared} {Q:Value->Shared->Prop} (q:Q (.ref s.heap.objs.size) { s with heap:=s.heap.push (bK w) }):wpAny (model prog w) A (newSet (.type "set")) Q E s:=by
 unfold newSet setsByText
 refine wpAny_bind (wpAny_bind (wpAny_askSetting (wpAny_pure ?_)))
 dsimp only
 simp only [newObj]
 first
  | exact wpAny_alloc (wpAny_pure q)
  | exact wpAny_bind (wpAny_alloc (wpAny_pure q))
  | exact wpAny_bind (wpAny_alloc (wpAny_pure (wpAny_pure q)))
  | exact wpAny_bind (wpAny_alloc q)
section
variable {X:Cx}
theorem Ad {e:Expr} {k:Nat} {pos:Pos} {te:TE} (hc:PySem.W.kdsCode X.K X.env.code=true) (he:PE X e te) (hk:displayRoad k [e] = .oneByOne:=by rfl) (hs:starEach [e] X.env = [(false,eval e X.env)]:=by rfl) :
  PE X (.Set [e] k pos) (fun σ H Q=>∀ l,H l=none->te σ (upd H l (bU X.prog X.w l [])) fun x H1=>H1 l=some (bU X.prog X.w l [])/\∃ kk,x=kV kk/\Q (.ref l) (upd H1 l (bU X.prog X.w l [kk]))):=by
 intro pins s σ H Q I h
 rw [arm_eval_Set]
 refine wpAny_bind (wpAny_standAt ?_)
 refine wpAny_bind (PySem.W.kds_main I.gu hc fun b=>?_)
 rw [hs,hk]
 unfold setDisplay
 dsimp only
 rw [if_neg (by decide)]
 refine wpAny_bind (Ac ?_)
 dsimp only
 simp only [List.map_cons,List.map_nil,List.length_cons,List.length_nil,Nat.reduceAdd,gt_iff_lt,Nat.reduceLT,if_false,List.findIdx?_cons,List.findIdx?_nil,Option.map_none,Option.getD_none,List.take_succ_cons,List.take_zero,List.drop_succ_cons,List.drop_nil,evalAll,Bool.false_eq_true]
 have hS:de (aG X.prog X.w) (s.heap.push (bK X.w)) s.heap.objs.size []:=jT rfl (Heap.get?_push_size _ rfl)
 have I1:Inv X pins σ (upd H s.heap.objs.size (bU X.prog X.w s.heap.objs.size [])) { s with heap:=s.heap.push (bK X.w) }:=I.laid (t':=s.toks) (fun b o e=>Heap.get?_push_of_some _ e) (Nat.le_refl _) (iK hS)
 refine wpAny_bind (wpAny_holding ?_)
 refine wpAny_bind (wpAny_bind (wpAny_bind (aT (he pins _ σ _ _ I1 (h _ I.fresh)) fun v s1 ⟨x,H1,I2,rx,hl1,kk,ex,q⟩=>wpAny_bind (wpAny_standAt (wpAny_pure ?_)))))
 subst ex
 refine wpAny_bind (wpAny_holding (wpAny_pure (wpAny_pure ?_)))
 refine wpAny_bind (wpAny_holding ?_)
 simp only [List.forIn_cons,List.forIn_nil]
 refine wpAny_bind (wpAny_bind (wpAny_bind (nV (kL rx) (I2.nU hl1) (by decide) fun h' b S' c=>wpAny_pure ?_)))
 refine wpAny_pure ?_
 rw [if_neg (by decide)]
 refine wpAny_pure ?_
 refine wpAny_bind (wpAny_pure (wpAny_pure (wpAny_pure ?_)))
 have e1:LS.putIn ([]:List Key) kk = [kk]:=by unfold LS.putIn;rw [if_neg (by simp)];rfl
 rw [e1] at S'
 refine⟨.ref s.heap.objs.size,_,I2.write (t':=s1.toks+1) (x:=s.heap.objs.size) (e:=s.heap.objs.size) (by rw [hl1];exact trivial) (.inl rfl) (fun c u' hc hu=>b.extBut c u' hc hu) ?_ (iK S'),rfl,q⟩
 obtain⟨o,_,_,_,So⟩:=S'
 exact⟨o,So.at_⟩
end
section
variable {prog:Program} {w:World} {A:Around} {E:Value->Shared->Prop} {s:Shared}
theorem wV {d:Addr} (hd:(d == sysModules)=false) :
  MeetsIn prog w (Builtin.«dict.__len__» ⟨[.ref d],[]⟩) (fun _ R s=>∃ (o:Obj) (es:Array DictEntry) (ep:Nat),s.heap.get? d=some o/\o.data=.dict es ep/\R (.ok (.ret (.int es.size s.toks))) { s with toks:=s.toks+1 }) :=
 .of_wp fun A R s ⟨o,es,ep,ho,hdat,h⟩=>by
  show wpAny _ _ (dictSize d >>= _) _ _ s
  unfold dictSize
  refine wpAny_bind (wpAny_bind (wpAny_dictEntries ho hdat (wpAny_pure ?_)))
  show wpAny _ _ (Builtin.Dict.pendingCount d >>= _) _ _ s
  refine wpAny_bind (wpAny_pendingCount_other hd ?_)
  refine wpAny_ret_mkInt ?_
  rw [Nat.add_zero];exact h
theorem Ae {d:Addr} {o:Obj} {es:Array DictEntry} {ep:Nat} {Q:Value->Shared->Prop} (hd:(d == sysModules)=false) (ho:s.heap.get? d=some o) (hc:o.ExactDict) (hdat:o.data=.dict es ep) (hfit:(es.size:Int) < 2 ^ 63)
  (h:Q (.int es.size (s.toks+1)) { s with toks:=s.toks+1+1 }):wpAny (model prog w) A (call (.builtin "len") [.ref d]) Q E s:=by
 refine Calls.call_function_entry kind_len plain_len entry_len (args_len1 _) ?_
 have hT:s.TypeIs (.ref d) "dict" := ⟨o,ho,hc.1⟩
 unfold Builtin.«len»
 refine wpAny_bind (m:=oneArg "len" _) (wpAny_pure ?_)
 refine wpAny_bind (m:=callSpecial? (.ref d) (Str.ofString "__len__")) (wpAny_callSpecial?_slot (name:=Str.ofString "__len__") hT F.slot_dict_len
  (call_meetsIn F.slot_dict_len hT F.entry_dict_len (F.args_dict_len_1 _) (wV hd) ⟨o,es,ep,ho,hdat,?_⟩))
 show wpAny _ _ _ _ _ { s with toks:=s.toks+1 }
 refine wpAny_bind (wpAny_holding (wpAny_pure ?_))
 refine wpAny_bind (wpAny_letGo ?_)
 show wpAny _ _ (if ((es.size:Nat):Int) < 0 then _ else _) _ _ _
 rw [if_neg (by omega)]
 show wpAny _ _ (if ((es.size:Nat):Int) >= 2 ^ 63 then _ else _) _ _ _
 rw [if_neg (by omega)]
 exact wpAny_bind (wpAny_mkInt (wpAny_pure ⟨_,rfl,h⟩))
end
section
variable {X:Cx}
theorem uY:cJ X (.builtin "len") (fun xs H Q=>∃ a kvs,xs = [V.ref a]/\H a=some (dN X.prog X.w a kvs)/\Q (.int kvs.length) H):=by
 intro pins s σ H xs us Q I r h
 obtain⟨a,kvs,rfl,ha,q⟩:=h
 obtain⟨u,rfl,ru⟩:=vals1 r
 cases ru
 obtain⟨h1,h2,xs,o,es,ep,g1,g2,g3,g4,g5,g6⟩:=(show j2 X.prog X.w a kvs s.heap from (I.aJ a _ ha).1)
 have hz:es.size=kvs.length:=by rw [g6.len,<-Array.length_toList,g4,List.length_map]
 have hn:=gW
 refine Ae h1 g1 g2 g3 (by omega) ?_
 rw [hz]
 exact⟨.int _,H,I.tok _,⟨_,rfl⟩,q⟩
theorem yB {pos:Pos} {keys:List (Option Expr)} {values:List Expr} {trs:List (TE × TE)} (hu:X.A.units+66 < cLine) (h:zh X pos keys values trs) (hall:keys.all (·.isSome)=true) (hl:keys.length=values.length) (h0:keys ≠ [])
  (h15:keys.length<=15):PE X (.Dict keys values pos) (fun σ H Q=>∀ p,H p=none->qB trs σ (upd H p (dN X.prog X.w p [])) fun ps H2=>H2 p=some (dN X.prog X.w p [])/\∃ k v d,ps = [(.ref k,v)]/\dB d/\aP H2 (.ref k) d/\Q (.ref p) (upd H2 p (dN X.prog X.w p [(d,k,v)]))):=by
 intro pins s σ H Q I q
 have hn:=I.aJ.fresh (Nat.le_refl s.heap.objs.size)
 obtain⟨_,hb,_⟩:=(show bC X.prog X.w H _ s.heap.objs.size (.dK []) from qA s.heap I.big)
 have D0:j2 X.prog X.w s.heap.objs.size [] (s.heap.push { cls:=.type "dict",data:=.dict #[] }):=⟨hb,Nat.zero_le _,[],_,#[],0,Heap.get?_push_size _ rfl,⟨rfl,rfl,rfl⟩,rfl,rfl,List.nodup_nil,.nil⟩
 have I1:=I.laid (a:=s.heap.objs.size) (o:=dN X.prog X.w s.heap.objs.size []) (h':=s.heap.push { cls:=.type "dict",data:=.dict #[] }) (t':=s.toks) (fun _ _ q=>Heap.get?_push_of_some _ q) (Nat.le_refl _) (lY D0)
 refine wpAny_Dict_any hall hl h0 h15 (aT (h pins _ σ _ _ I1 (q _ hn)) fun ws s2 ⟨ps,H2,I2,rel,e,k,v,d,ep,hk,r,q2⟩=>?_)
 subst ep
 cases rel with
 | @cons _ wp _ _ hr t =>
 cases t
 obtain⟨wk,wv⟩:=wp
 obtain⟨r1,r2⟩:=hr
 cases (show wk=Value.ref k from r1)
 obtain⟨hd0,_,xs,kx,dd⟩:=m4 I2 e (fun p hp=>nomatch hp)
 cases kx
 unfold storeAll
 simp only [List.forIn_cons,List.forIn_nil]
 refine wpAny_bind (wpAny_bind (wpAny_dictSet_heap (knd:=bP X.prog X.w) (show X.A.units+64 < cLine by omega) (key_is I2 hk r) dd (fun h' hm' hs'=>wpAny_pure (wpAny_pure ?_)) (Nat.zero_le _)))
 obtain⟨o',es,ep,g1,g2,g3,g4,g5,g6⟩:=id hm'
 refine⟨.ref s.heap.objs.size,_,I2.write (t':=_) (x:=s.heap.objs.size) (e:=s.heap.objs.size) (by rw [e];exact trivial) (.inl rfl) (fun c u' hc hu=>(hs'.2 c hc).trans hu) ⟨o',g1⟩ (lY ⟨hd0,(by show 1<=sizeLine;decide),[(d,k,wv)],o',es,ep,g1,g2,g3,g4,g6,.cons ⟨rfl,rfl,r2⟩ .nil⟩),rfl,q2⟩
end
open Classical in
noncomputable def o6 (h:Heap) (d:PyData) (u:Value):Bool:=if z:∃ (e:PyData) (as:List Addr),(cQ e=true/\e.canLay0=true/\e.depth<=7)/\Reads h u e as then decide (z.choose=d) else false
theorem wW {h:Heap} {d e:PyData} {u:Value} {as:List Addr} (r:Reads h u e as) (k:dB e):o6 h d u=decide (e=d):=by
 have z:∃ (e:PyData) (as:List Addr),(cQ e=true/\e.canLay0=true/\e.depth<=7)/\Reads h u e as:=⟨e,as,⟨k.key,k.lay,k.dep⟩,r⟩
 unfold o6
 rw [dif_pos z]
 obtain⟨as',hk,r'⟩:=z.choose_spec
 rw [jZ r' r hk.1 k.key]
theorem Bw {s:Shared} {A:Around} {d e:PyData} {u v:Value} {as bs:List Addr} (hu:A.units+64 < cLine) (r:Reads s.heap u e as) (k:dB e) (rv:Reads s.heap v d bs) (kd:dB d):SeqAt.EqAt A s u v (o6 s.heap d u):=by
 rw [wW r k]
 have h:=PySem.SeqAt.eqAt_reads e d A s u v _ _ r rv k.lay kd.lay (by have:=k.dep;omega)
 have e':PyData.eqv e d=decide (e=d):=by
  have:=nW k.key kd.key
  by_cases hxy:e=d
  ·rw [decide_eq_true hxy];exact this.mpr hxy
  ·rw [decide_eq_false hxy];exact Bool.eq_false_iff.mpr fun z=>hxy (this.mp z)
 rw [e'] at h
 exact h
inductive j7 (h:Heap):List Value->List PyData->Prop
 | nil:j7 h [] []
 | cons {u:Value} {us:List Value} {d:PyData} {ds:List PyData} (as:List Addr):Reads h u d as->dB d->j7 h us ds->j7 h (u :: us) (d :: ds)
theorem wX {P:Program} {w:World} {H:Hp} {h:Heap} (ok:cR P w H h):∀ {xs:List V} {us:List Value} {ds:List PyData},Vals xs us->aU H xs ds->(∀ d ∈ ds,dB d)->j7 h us ds
 | _,_,_,.nil,.nil,_=>.nil
 | _,_,_,.cons r t,.cons r1 t1,hk=>by
  obtain⟨as,ra⟩:=r1.reads ok r
  exact .cons as ra (hk _ (List.mem_cons_self ..)) (wX ok t t1 fun d hd=>hk d (List.mem_cons_of_mem _ hd))
theorem j7.any {h:Heap} {d:PyData}:∀ {us:List Value} {ds:List PyData},j7 h us ds->us.any (o6 h d)=decide (d ∈ ds)
 | _,_,.nil=>by simp
 | _,_,.cons as r k t=>by
  rw [List.any_cons,wW r k,j7.any t]
  rename_i e ds
  by_cases h1:e=d
  ·subst h1;simp
  ·rw [decide_eq_false h1,Bool.false_or]
   have:d ∈ e :: ds ↔ d ∈ ds:=by rw [List.mem_cons];exact⟨fun h=>h.resolve_left fun z=>h1 z.symm,.inr⟩
   simp only [this]
theorem j7.at_ {s:Shared} {A:Around} {d:PyData} {v:Value} {bs:List Addr} (hu:A.units+64 < cLine) (rv:Reads s.heap v d bs) (kd:dB d):∀ {us:List Value} {ds:List PyData},j7 s.heap us ds->∀ u ∈ us,SeqAt.EqAt A s u v (o6 s.heap d u)
 | _,_,.nil,u,hu'=>nomatch hu'
 | _,_,.cons as r k t,u,hu'=>by
  rcases List.mem_cons.mp hu' with rfl | hu'
  ·exact Bw hu r k rv kd
  ·exact j7.at_ hu rv kd t u hu'
section
variable {X:Cx}
end
theorem nZ {A:Around} {k:Nat} (hr:cb k A):A.units+66 < cLine:=by have:=hr.un;omega
section
variable {P:Program} {w:World} {K:PySem.W.Frag} {mg:Str->Option Value} {base:Heap}
theorem bQ.Dk {x qual:Str} {st:Stmt} {f:Addr} {fd:FuncData} {N ps:List Str} {k:Nat} {sp:Sp} (F:bQ K x qual st f fd) (S:aM N ps (au st)) (len:∀ vs H Q E,sp vs H Q E->vs.length=ps.length)
  (hbody:∀ (cdv:Value) (A:Around) (outer:List Env) (s:Shared) (H:Hp) (vs:List V) (Q:VK) (E:XK),PySem.W.kdsCode K cdv=true->cb k (A.deeper (envOfC qual (au st) s.heap.objs.size f cdv))->sp vs H Q E ->
   ∃ t,ib (lP bN P w K mg base N qual (au st) f cdv A outer s H E).sG (cx st) t/\t { nx:=fun _ H'=>Q .bg H',rt:=Q } (start N vs) H):ba P w K mg base bN (k+1) f fd ps sp:=by
 obtain⟨oc,od,kV,doc,pm,an,cdv,ct,osl,rfl,lk,hcd⟩:=F.ex
 refine za lk hcd S len fun A outer s H vs Q E hr hsp=>?_
 obtain⟨t,h,q⟩:=hbody cdv A outer s H vs Q E (sd hcd) hr hsp
 exact⟨t,h.sG,q⟩
end
def cy:Nat->List (PyData × Addr)->List (PyData × Addr × V)
 | _,[]=>[]
 | n,p :: ps=>(p.1,p.2,.int (n:Nat)) :: cy (n+1) ps
theorem lZ:∀ (n:Nat) (ms:List (PyData × Addr)),(cy n ms).length=ms.length
 | _,[]=>rfl
 | n,_ :: ms=>congrArg (· + 1) (lZ (n+1) ms)
theorem q8:∀ (n:Nat) (ms:List (PyData × Addr)) (p:PyData × Addr),cy n (ms ++ [p])=cy n ms ++ [(p.1,p.2,.int ((n+ms.length:Nat):Int))]
 | n,[],p=>rfl
 | n,q :: ms,p=>by
  show (q.1,q.2,V.int (n:Nat)) :: cy (n+1) (ms ++ [p])=_
  rw [q8 (n+1) ms p,show n+1+ms.length=n+(q :: ms).length by rw [List.length_cons];omega]
  rfl
theorem q9:∀ (n:Nat) (ms:List (PyData × Addr)),∀ q ∈ cy n ms,∃ p ∈ ms,q.1=p.1/\q.2.1=p.2
 | _,[],q,hq=>nomatch hq
 | n,p :: ms,q,hq=>by
  rcases List.mem_cons.mp hq with rfl | hq
  ·exact⟨p,List.mem_cons_self ..,rfl,rfl⟩
  ·obtain⟨p',hp,r⟩:=q9 (n+1) ms q hq
   exact⟨p',List.mem_cons_of_mem _ hp,r⟩
theorem jd (d:PyData):∀ (n:Nat) (ms:List (PyData × Addr)),dH (cy n ms) d=if d ∈ ms.map (·.1) then some (.int ((n+(ms.map (·.1)).idxOf d:Nat):Int)) else none
 | n,[]=>by simp [cy,dH]
 | n,p :: ms=>by
  have ih:=jd d (n+1) ms
  by_cases h:p.1=d
  ·have e1:dH (cy n (p :: ms)) d=some (.int (n:Nat)):=by
    unfold dH cy
    rw [List.find?_cons_of_pos (by exact decide_eq_true h)]
    rfl
   rw [e1,if_pos (by rw [List.map_cons,h];exact List.mem_cons_self ..),List.map_cons,h,List.idxOf_cons_self]
   rfl
  ·have e1:dH (cy n (p :: ms)) d=dH (cy (n+1) ms) d:=by
    show dH ((p.1,p.2,V.int (n:Nat)) :: cy (n+1) ms) d=_
    unfold dH
    rw [List.find?_cons_of_neg (by rw [decide_eq_false h];decide)]
   rw [e1,ih,List.map_cons]
   by_cases hm:d ∈ ms.map (·.1)
   ·rw [if_pos hm,if_pos (List.mem_cons_of_mem _ hm),List.idxOf_cons,beq_false_of_ne h]
    simp only [cond_false]
    congr 3
    omega
   ·rw [if_neg hm,if_neg (fun z=>(List.mem_cons.mp z).elim (fun z=>h z.symm) hm)]
structure ft (P:Program) (w:World) (C:Addr) (H:Hp) (r m d:Addr) (ms:List (PyData × Addr)):Prop where
 ob:∃ dx,H r=some (.ins C dx (nX (.ref m) (.ref d)))
 mem:H m=some (.lst (ms.map fun p=>V.ref p.2))
 j8:H d=some (dN P w d (cy 0 ms))
 keys:∀ p ∈ ms,dB p.1/\aP H (.ref p.2) p.1
noncomputable def je (ms:List (PyData × Addr)) (d:PyData) (k:Addr):List (PyData × Addr):=if d ∈ ms.map (·.1) then ms else ms ++ [(d,k)]
section
variable {P:Program} {w:World} {C r m d:Addr} {H H':Hp} {ms:List (PyData × Addr)}
theorem ft.iC (A:ft P w C H r m d ms):zq H (cy 0 ms):=fun q hq=>by
 obtain⟨p,hp,e1,e2⟩:=q9 0 ms q hq
 rw [e1,e2]
 exact A.keys p hp
theorem ft.Dl (A:ft P w C H r m d ms):r ≠ m/\r ≠ d/\d ≠ m:=by
 obtain⟨dx,h1⟩:=A.ob
 refine⟨bH h1 A.mem ?_,bH h1 A.j8 ?_,bH A.j8 A.mem ?_⟩ <;> (intro z;cases z)
end
section
variable (P:Program) (w:World) (C:Addr)
inductive m6  (vs:List V) (H:Hp) (Q:VK) (_:XK):Prop
 | mk (r dx k:Addr) (d0:PyData) (_:vs = [.ref r,.ref k]) (_:H r=some (.ins C dx [])) (_:dB d0) (_:aP H (.ref k) d0) (_:bR d0=true) (_:∀ (m d:Addr) (H':Hp),ft P w C H' r m d [(d0,k)]->(∀ c o,H c=some o->c ≠ r->H' c=some o)->H m=none->H d=none->Q .bg H')
inductive m7  (vs:List V) (H:Hp) (Q:VK) (_:XK):Prop
 | mk (r m d k:Addr) (d0:PyData) (ms:List (PyData × Addr)) (_:vs = [.ref r,.ref k]) (_:ft P w C H r m d ms) (_:ms.length<=1000) (_:dB d0) (_:aP H (.ref k) d0) (_:bR d0=true) (_:(∀ p ∈ ms,bR p.1=true)) (_:∀ H',ft P w C H' r m d (je ms d0 k)->jb m d H H'->Q (.int (((je ms d0 k).map (·.1)).idxOf d0:Nat)) H')
end
inductive eQ (ps:List Piece):Nat->Prop
 | zero:eQ ps 0
 | step {i k:Nat} {ds:List cG} {e:End}:eQ ps i->ps[i]? = some (ds,e)->k ∈ ar e->eQ ps k
def bS (ps:List Piece) (k:Nat):Prop:=∃ i ds e,eQ ps i/\ps[i]? = some (ds,e)/\k ∈ ar e/\k<=i
abbrev kI (ks:List Nat):List Key:=ks.map fun k:Nat=>(Sum.inl (k:Int):Key)
theorem rg {ks:List Nat} {k:Nat}:(Sum.inl (k:Int):Key) ∈ kI ks ↔ k ∈ ks:=by
 rw [List.mem_map]
 constructor
 ·rintro⟨x,hx,e⟩
  have:=Sum.inl.inj e
  rw [show k=x by omega];exact hx
 ·intro h;exact⟨k,h,rfl⟩
theorem rm {ks:List Nat} {k:Nat}:LS.putIn (kI ks) (Sum.inl (k:Int))=kI (LS.putIn ks k):=by
 unfold LS.putIn
 by_cases h:k ∈ ks
 ·rw [if_pos h,if_pos (rg.mpr h)]
 ·rw [if_neg h,if_neg (fun z=>h (rg.mp z))]
  show _=(ks ++ [k]).map _
  rw [List.map_append];rfl
theorem n4 (ks:List Nat):kI ks=(ks.map fun k:Nat=>(k:Int)).map Sum.inl:=by rw [List.map_map];rfl
structure uZ (ps:List Piece) (ks ws:List Nat):Prop where
 nd:ks.Nodup
 lt:∀ k ∈ ks,k < ps.length
 rn:∀ k ∈ ks,eQ ps k
 zero:0 ∈ ks
 sub:∀ k ∈ ws,k ∈ ks
 done:∀ k ∈ ks,k ∈ ws\/∀ ds e,ps[k]? = some (ds,e)->∀ j ∈ ar e,j ∈ ks
theorem uZ.all {ps:List Piece} {ks:List Nat} (h:uZ ps ks []):∀ k,k ∈ ks ↔ eQ ps k:=fun k=>by
 refine⟨h.rn k,fun r=>?_⟩
 induction r with
 | zero=>exact h.zero
 | step r hp hk ih=>exact (h.done _ ih).elim (fun z=>nomatch z) fun z=>z _ _ hp _ hk
theorem iN {ps:List Piece} (hin:fi ps) {i:Nat} {ds:List cG} {e:End} (h:ps[i]? = some (ds,e)):∀ k ∈ ar e,k < ps.length:=fun k hk=>by
 have h1:=hin _ (List.mem_of_getElem? h)
 cases e with
 | stop=>cases hk
 | go p=>rw [List.mem_singleton.mp hk];exact h1
 | cH b x n p q =>
  rcases List.mem_cons.mp hk with z | z
  ·rw [z];exact h1.1
  ·rw [List.mem_singleton.mp z];exact h1.2
inductive o7  (vs:List V) (H:Hp) (Q:VK) (_:XK):Prop
 | mk (plv:V) (ps:List Piece) (_:vs = [plv]) (_:aP H plv (eM ps)) (_:fi ps) (_:0 < ps.length) (_:ps.length<=60) (_:∀ (t:Addr) (ks:List Nat) (H':Hp),H' t=some (.tup (vN ks))->(∀ k,k ∈ ks ↔ eQ ps k)->(∀ k ∈ ks,k < ps.length)->ks.length<=60->ae H H'->Q (.ref t) H')
inductive tW  (vs:List V) (H:Hp) (Q:VK) (_:XK):Prop
 | mk (plv:V) (ps:List Piece) (_:vs = [plv]) (_:aP H plv (eM ps)) (_:fi ps) (_:0 < ps.length) (_:ps.length<=60) (_:∀ (t:Addr) (ks:List Nat) (H':Hp),H' t=some (.tup (vN ks))->(∀ k,k ∈ ks ↔ bS ps k)->ks.length<=60->ae H H'->Q (.ref t) H')
theorem fw {ss:List Int} {ks:List Nat} (h:ss.Perm (ks.map fun k:Nat=>(k:Int))):∃ ms:List Nat,ss=ms.map (fun k:Nat=>(k:Int))/\ms.Perm ks:=by
 refine⟨ss.map Int.toNat,?_,?_⟩
 ·rw [List.map_map]
  have:∀ x ∈ ss,((fun k:Nat=>(k:Int)) ∘ Int.toNat) x=x:=fun x hx=>by
   obtain⟨k,_,rfl⟩:=List.mem_map.mp (h.mem_iff.mp hx)
   show ((Int.toNat (k:Int):Nat):Int)=k
   omega
  rw [List.map_congr_left this,List.map_id']
 ·have:=h.map Int.toNat
  rw [List.map_map] at this
  have e:ks.map (Int.toNat ∘ fun k:Nat=>(k:Int))=ks:=by
   rw [List.map_congr_left (g:=id) (fun x _=>by show Int.toNat (x:Int)=x;omega),List.map_id]
  rw [e] at this
  exact this
abbrev Cp:=Nat × (Str->Sx)
def T0:Str->Sx:=fun _=>df
def FD (T:Str->Sx) (d:PyData):Prop:=∃ ss:List Str,ij ss/\(∀ x,x ∈ ss ↔ T x ≠ df)/\d=d7 T ss
theorem FV.fd {H:Hp} {v:V} {T:Str->Sx} (h:FV H v T):∃ d,FD T d/\aP H v d:=by
 obtain⟨p,xs,ss,rfl,hp,srt,hm,r⟩:=h
 exact⟨_,⟨ss,srt,hm,rfl⟩,.tup hp r⟩
theorem FD.fv {H:Hp} {v:V} {T:Str->Sx} {d:PyData} (h:FD T d) (r:aP H v d):FV H v T:=by
 obtain⟨ss,srt,hm,rfl⟩:=h
 obtain⟨p,xs,rfl,hp,r⟩:=aP.bx r
 exact⟨p,xs,ss,rfl,hp,srt,hm,r⟩
theorem FD.unique {T:Str->Sx} {d d':PyData} (h:FD T d) (h':FD T d'):d=d':=by
 obtain⟨ss,srt,hm,rfl⟩:=h
 obtain⟨ss',srt',hm',rfl⟩:=h'
 rw [srt.unique srt' fun x=>by rw [hm,hm']]
theorem wY {a b:Option Int} (h:dO a=dO b):a=b:=by
 cases a with
 | none=>cases b with
  | none=>rfl
  | some _=>cases h
 | some i=>cases b with
  | none=>cases h
  | some j=>injection h with h;rw [h]
theorem Bx {a b:Sx} (h:dS a=dS b):a=b:=by
 obtain⟨a1,a2⟩:=a
 obtain⟨b1,b2⟩:=b
 have h1:[dO a1,dO a2] = [dO b1,dO b2]:=by injection h
 injection h1 with h1 h2
 injection h2 with h2 _
 rw [wY h1,wY h2]
theorem tX {T T':Str->Sx}:∀ {ss ss':List Str},ss.map (dF T)=ss'.map (dF T')->ss=ss'/\∀ x ∈ ss,T x=T' x
 | [],[],_=>⟨rfl,fun _ h=>nomatch h⟩
 | [],_ :: _,h=>by cases h
 | _ :: _,[],h=>by cases h
 | x :: ss,y :: ss',h=>by
  rw [List.map_cons,List.map_cons] at h
  injection h with h1 h2
  have h3:[PyData.str x,dS (T x)] = [PyData.str y,dS (T' y)]:=by injection h1
  injection h3 with h4 h5
  injection h5 with h5 _
  have exy:x=y:=by injection h4
  subst exy
  obtain⟨e,hr⟩:=tX h2
  refine⟨by rw [e],fun z hz=>?_⟩
  rcases List.mem_cons.mp hz with rfl | hz
  ·exact Bx h5
  ·exact hr z hz
theorem FD.inj {T T':Str->Sx} {d:PyData} (h:FD T d) (h':FD T' d):T=T':=by
 obtain⟨ss,srt,hm,rfl⟩:=h
 obtain⟨ss',srt',hm',e⟩:=h'
 have e':ss.map (dF T)=ss'.map (dF T'):=by injection e
 obtain⟨rfl,hx⟩:=tX e'
 funext x
 by_cases h:x ∈ ss
 ·exact hx x h
 ·have h1:T x=df:=Classical.byContradiction fun z=>h ((hm x).mpr z)
  have h2:T' x=df:=Classical.byContradiction fun z=>h ((hm' x).mpr z)
  rw [h1,h2]
theorem FD.zero:FD T0 (.tuple []):=⟨[],⟨List.Pairwise.nil,List.nodup_nil⟩,fun x=>⟨fun h=>(nomatch h),fun h=>absurd rfl h⟩,rfl⟩
def CD (c:Cp) (d:PyData):Prop:=∃ fd,FD c.2 fd/\d=.tuple [.int (c.1:Nat),fd]
theorem CD.iff {c c':Cp} {d d':PyData} (h:CD c d) (h':CD c' d'):d=d' ↔ c=c':=by
 obtain⟨fd,hf,rfl⟩:=h
 obtain⟨fd',hf',rfl⟩:=h'
 constructor
 ·intro e
  have e1:[PyData.int (c.1:Nat),fd] = [PyData.int (c'.1:Nat),fd']:=by injection e
  injection e1 with e2 e3
  injection e3 with e3 _
  have e4:(c.1:Int)=(c'.1:Int):=by injection e2
  subst e3
  exact Prod.ext (by omega) (hf.inj hf')
 ·rintro rfl
  rw [hf.unique hf']
noncomputable instance Cr:DecidableEq Cp:=fun a b=>Classical.propDecidable (a=b)
theorem CD.mem {c:Cp} {d:PyData} (h:CD c d):∀ {ds:List PyData} {cs:List Cp},Paired (fun d c=>CD c d) ds cs->(d ∈ ds ↔ c ∈ cs)/\ds.idxOf d=cs.idxOf c
 | _,_,.nil=>⟨by simp,rfl⟩
 | _,_,.cons (a:=d') (b:=c') (l₁:=ds) (l₂:=cs) h' t=>by
  obtain⟨i1,i2⟩:=CD.mem h t
  have e:=h'.iff h
  constructor
  ·rw [List.mem_cons,List.mem_cons,i1]
   constructor
   ·rintro (z | z)
    ·exact .inl (e.mp z.symm).symm
    ·exact .inr z
   ·rintro (z | z)
    ·exact .inl (e.mpr z.symm).symm
    ·exact .inr z
  ·rw [List.idxOf_cons,List.idxOf_cons]
   by_cases z:d' = d
   ·have z':=e.mp z
    rw [z,z',beq_self_eq_true,beq_self_eq_true]
    rfl
   ·have z':¬ c' = c:=fun w=>z (e.mpr w)
    rw [beq_false_of_ne z,beq_false_of_ne z',i2]
theorem m8 {T:Str->Sx}:∀ ss:List Str,cQ (d7 T ss)=true
 | []=>rfl
 | x :: ss=>by
  have ih:cf (ss.map (dF T))=true:=m8 ss
  show ((true && (cQ (dS (T x)) && true)) && cf (ss.map (dF T)))=true
  rw [ih]
  obtain⟨a,b⟩:=T x
  cases a <;> cases b <;> rfl
theorem CD.key {c:Cp} {d:PyData} (h:CD c d) (hl:nY c.2):dB d:=by
 obtain⟨fd,⟨ss,srt,hm,rfl⟩,rfl⟩:=h
 refine⟨?_,?_,?_,_,rfl⟩
 ·show (true && (cQ (d7 c.2 ss) && true))=true
  rw [m8];rfl
 ·show (true && ((d7 c.2 ss).canLay0 && true))=true
  rw [wR hl ss fun x hx=>(hm x).mp hx];rfl
 ·show max 0 (max (d7 c.2 ss).depth 0)+1<=7
  have:=Bv c.2 ss
  omega
section
variable (tops:Nat->Prop) (most:Nat)
open Classical in
noncomputable def aQ (cs:List Cp) (c:Cp):Cp:=if tops c.1 then (c.1,T0) else if c ∈ cs\/cs.length < most then c else (c.1,T0)
noncomputable def cA (st:List Cp × List Nat) (l:Cp):List Cp × List Nat:=(LS.putIn st.1 (aQ tops most st.1 l),st.2 ++ [(LS.putIn st.1 (aQ tops most st.1 l)).idxOf (aQ tops most st.1 l)])
noncomputable def bG (cs:List Cp) (ls:List Cp):List Cp × List Nat:=ls.foldl (cA tops most) (cs,[])
theorem sf {cs ls:List Cp} {i:Nat} {l:Cp} (h:ls[i]? = some l):bG tops most cs (ls.take (i+1))=cA tops most (bG tops most cs (ls.take i)) l:=by
 unfold bG
 rw [List.take_add_one,h,List.foldl_append]
 rfl
def iw (e:End):List Nat->End
 | [a]=>.go a
 | ns=>yy e ns
noncomputable def cB (ps:List Piece):Nat->List Cp->List Piece->List Cp × List Piece
 | 0,cs,outs=>(cs,outs)
 | f+1,cs,outs=>match cs[outs.length]? with
  | none=>(cs,outs)
  | some c=>match ps[c.1]? with
   | none=>(cs,outs)
   | some pc=>cB ps f (bG tops most cs (b8 (cF c.2 pc.1) pc.2)).1 (outs ++ [(pc.1,iw pc.2 (bG tops most cs (b8 (cF c.2 pc.1) pc.2)).2)])
end
theorem o8 {T:Str->Sx}:∀ ss:List Str,bR (d7 T ss)=true
 | []=>rfl
 | x :: ss=>by
  have ih:bV (ss.map (dF T))=true:=o8 ss
  show ((true && (bR (dS (T x)) && true)) && bV (ss.map (dF T)))=true
  rw [ih]
  obtain⟨a,b⟩:=T x
  cases a <;> cases b <;> rfl
theorem CD.iO {c:Cp} {d:PyData} (h:CD c d):bR d=true:=by
 obtain⟨fd,⟨ss,srt,hm,rfl⟩,rfl⟩:=h
 show (true && (bR (d7 c.2 ss) && true))=true
 rw [o8];rfl
inductive tY  (vs:List V) (H:Hp) (Q:VK) (_:XK):Prop
 | mk (ea l:Addr) (e:End) (ns:List Nat) (_:vs = [.ref ea,.ref l]) (_:H ea=some (.tup (eO e))) (_:H l=some (.lst (vN ns))) (_:(ns.length=1\/ns.length=(ar e).length)) (_:ns.length<=2) (_:∀ t H',H' t=some (.tup (eO (iw e ns)))->ae H H'->Q (.ref t) H')
abbrev lH (ms:List (PyData × Addr)) (cs:List Cp):Prop:=Paired (fun d c=>CD c d) (ms.map (·.1)) cs
inductive o9 (P:Program) (w:World) (vs:List V) (H:Hp) (Q:VK) (_:XK):Prop
 | mk (la tp d:Addr) (most k:Nat) (T:Str->Sx) (dl:PyData) (hs:List Nat) (fv:V) (ms:List (PyData × Addr)) (cs:List Cp) (tops:Nat->Prop) (_:vs = [.ref la,.ref tp,.ref d,.int (most:Nat)]) (_:H la=some (.tup [.int (k:Nat),fv])) (_:aP H (.ref la) dl) (_:CD (k,T) dl) (_:nY T) (_:H tp=some (.tup (vN hs))) (_:(∀ j,j ∈ hs ↔ tops j)) (_:H d=some (dN P w d (cy 0 ms))) (_:zq H (cy 0 ms)) (_:lH ms cs) (_:∀ (a:Addr) (d':PyData) (H':Hp),aP H' (.ref a) d'->CD (aQ tops most cs (k,T)) d'->ae H H'->Q (.ref a) H')
structure cD (xs:List Str) (T:Str->Sx):Prop where
 sup:∀ x,T x ≠ df->x ∈ xs
 le:∀ x,qD (T x).1 (T x).2
theorem cD.zero {xs:List Str}:cD xs T0:=⟨fun x h=>absurd rfl h,fun x=>True.intro⟩
theorem cD.set {xs:List Str} {T:Str->Sx} (h:cD xs T) {x:Str} {s:Sx} (hx:x ∈ xs) (hs:qD s.1 s.2):cD xs (dY T x s):=by
 refine⟨fun y hy=>?_,fun y=>?_⟩
 ·unfold dY at hy
  by_cases e:y=x
  ·rw [e];exact hx
  ·rw [if_neg e] at hy;exact h.sup y hy
 ·unfold dY
  by_cases e:y=x
  ·rw [if_pos e];exact hs
  ·rw [if_neg e];exact h.le y
theorem Af {w:Str} {lo hi:Option Int} {n:Int} {side:Bool} {s:Sx} (le:qD lo hi) (h:fk w lo hi n side=some s):qD s.1 s.2:=by
 unfold fk at h
 split at h
 ·unfold mK at h
  split at h
  ·unfold fj at h
   cases lo with
   | none=>cases h;exact True.intro
   | some l =>
    dsimp only at h
    split at h
    ·cases h
    ·cases h;show l<=i6 hi n;omega
  ·unfold gH at h
   cases hi with
   | none=>cases h;exact True.intro
   | some l =>
    dsimp only at h
    split at h
    ·cases h
    ·cases h;show i7 lo n<=l;omega
 ·unfold we at h
  split at h
  ·unfold qE at h
   split at h
   ·cases h;exact Int.le_refl n
   ·cases h
  ·unfold i8 at h
   split at h
   ·next h1 =>
    split at h
    ·cases h
    ·next h2 =>
     cases h
     subst h1
     cases hi with
     | none=>exact True.intro
     | some b =>
      have:n<=b:=le
      have:¬ b=n:=fun z=>h2 (by rw [z])
      show n+1<=b
      omega
   ·next h1 =>
    split at h
    ·next h2 =>
     cases h
     subst h2
     cases lo with
     | none=>exact True.intro
     | some a =>
      have:a<=n:=le
      have:¬ a=n:=fun z=>h1 (by rw [z])
      show a<=n - 1
      omega
    ·cases h;exact le
theorem cD.Dm {xs:List Str} {T:Str->Sx} (h:cD xs T) {d:cG} (hd:eF xs d):cD xs (yu T d):=by
 refine h.set hd.name ?_
 cases d with
 | put x n=>exact Int.le_refl n
 | copy x y=>exact h.le y
 | add x n =>
  have:=h.le x
  show qD (zp (T x).1 n) (zp (T x).2 n)
  cases e1:(T x).1 with
  | none=>exact True.intro
  | some a=>cases e2:(T x).2 with
   | none=>exact True.intro
   | some b =>
    rw [e1,e2] at this
    have:a<=b:=this
    show a+n<=b+n
    omega
 | read x=>exact True.intro
 | tell x=>exact h.le x
theorem cD.rp {xs:List Str}:∀ {ds:List cG} {T:Str->Sx},cD xs T->(∀ d ∈ ds,eF xs d)->cD xs (cF T ds)
 | [],_,h,_=>h
 | d :: ds,T,h,hd=>cD.rp (ds:=ds) (h.Dm (hd d (List.mem_cons_self ..))) fun e he=>hd e (List.mem_cons_of_mem _ he)
theorem tZ {xs:List Str} {c:Nat} {T:Str->Sx} {e:End} (h:cD xs T) (he:iY xs c e):∀ p ∈ b8 T e,p.1 < c/\cD xs p.2:=fun p hp=>by
 unfold b8 at hp
 obtain⟨⟨k,o⟩,ho,hm⟩:=List.mem_filterMap.mp hp
 have hz:=List.of_mem_zip ho
 cases e with
 | stop=>cases hz.1
 | go q =>
  rw [List.mem_singleton.mp hz.2] at hm
  cases hm
  exact⟨by rw [List.mem_singleton.mp hz.1];exact he,h⟩
 | cH b x n q r =>
  have hk:k < c:=by
   rcases List.mem_cons.mp hz.1 with z | z
   ·rw [z];exact he.2.2.1
   ·rw [List.mem_singleton.mp z];exact he.2.2.2
  have key:∀ side,o=(eC T b x n side).map (dY T x)->p.1 < c/\cD xs p.2:=fun side eo=>by
   dsimp only at hm
   rw [eo] at hm
   cases z:eC T b x n side with
   | none=>rw [z] at hm;cases hm
   | some s =>
    rw [z] at hm
    cases hm
    exact⟨hk,h.set he.1 (Af (h.le x) z)⟩
  rcases List.mem_cons.mp hz.2 with z | z
  ·exact key true z
  ·exact key false (List.mem_singleton.mp z)
theorem ma {xs:List Str} {T:Str->Sx} {e:End} (h:cD xs T):((b8 T e).length=1\/(b8 T e).length=(ar e).length)/\(b8 T e).length<=2:=by
 cases e with
 | stop=>exact⟨.inr rfl,Nat.zero_le _⟩
 | go q=>exact⟨.inl rfl,by show 1<=2;decide⟩
 | cH b x n q r =>
  have e:b8 T (.cH b x n q r)=((eC T b x n true).map fun s=>(q,dY T x s)).toList++((eC T b x n false).map fun s=>(r,dY T x s)).toList:=by
   unfold b8
   show ([(q,(eC T b x n true).map (dY T x)),(r,(eC T b x n false).map (dY T x))].filterMap fun p=>p.2.map fun U=>(p.1,U))=_
   cases eC T b x n true <;> cases eC T b x n false <;> rfl
  rw [e]
  cases e1:eC T b x n true with
  | none=>cases e2:eC T b x n false with
   | none=>exact (xY (h.le x) e1 e2).elim
   | some s=>exact⟨.inl rfl,by show 1<=2;decide⟩
  | some s=>cases e2:eC T b x n false with
   | none=>exact⟨.inl rfl,by show 1<=2;decide⟩
   | some s=>exact⟨.inr rfl,Nat.le_refl 2⟩
theorem cD.lay {xs:List Str} {T:Str->Sx} (h:cD xs T) (hx:∀ x ∈ xs,hG x):nY T:=fun x hx'=>yA (hx x (h.sup x hx'))
theorem cD.b0 {xs:List Str} {T:Str->Sx} (h:cD xs T):uX T xs.length:=fun ss hs nd=>sub_len nd fun x hx=>h.sup x (hs x hx)
open Classical in
noncomputable def j9 (c:Cp):Bool:=decide (c.2 ≠ T0)
theorem pd {α : Type} (p:α->Bool):∀ l:List α,l.length=(l.filter p).length+(l.filter fun x=>!p x).length
 | []=>rfl
 | x :: l=>by
  have ih:=pd p l
  cases h:p x with
  | true=>rw [List.filter_cons_of_pos h,List.filter_cons_of_neg (by simp [h]),List.length_cons,List.length_cons];omega
  | false=>rw [List.filter_cons_of_neg (by simp [h]),List.filter_cons_of_pos (by simp [h]),List.length_cons,List.length_cons];omega
structure hU (n most:Nat) (cs:List Cp):Prop where
 nd:cs.Nodup
 b0:(cs.filter j9).length<=most
theorem hU.len {n most:Nat} {cs:List Cp} (h:hU n most cs) (hl:∀ c ∈ cs,c.1 < n):cs.length<=most+n:=by
 have e:=pd j9 cs
 have h2:(cs.filter fun c=>!j9 c).length<=n:=by
  have nd2:((cs.filter fun c=>!j9 c).map (·.1)).Nodup:=by
   rw [List.Nodup,List.pairwise_map]
   refine (h.nd.filter _).imp_of_mem fun {a b} ha hb hne z=>hne ?_
   have ha2:=(List.mem_filter.mp ha).2
   have hb2:=(List.mem_filter.mp hb).2
   simp [j9] at ha2 hb2
   exact Prod.ext z (by rw [ha2,hb2])
  have:=cV (n:=n) nd2 fun x hx=>by
   obtain⟨c,hc,rfl⟩:=List.mem_map.mp hx
   exact hl c (List.mem_filter.mp hc).1
  rw [List.length_map] at this
  exact this
 have:=h.b0
 omega
theorem hU.put {n most:Nat} {tops:Nat->Prop} {cs:List Cp} {l:Cp} (h:hU n most cs):hU n most (LS.putIn cs (aQ tops most cs l)):=by
 unfold LS.putIn
 by_cases hm:aQ tops most cs l ∈ cs
 ·rw [if_pos hm];exact h
 ·rw [if_neg hm]
  refine⟨?_,?_⟩
  ·rw [List.nodup_append]
   refine⟨h.nd,by simp,fun x hx y hy z=>?_⟩
   rw [List.mem_singleton.mp hy] at z
   exact hm (z ▸ hx)
  ·rw [List.filter_append,List.length_append]
   by_cases hz:(aQ tops most cs l).2=T0
   ·rw [List.filter_cons_of_neg (by simp [j9,hz])]
    simpa using h.b0
   ·have hlt:cs.length < most:=by
     unfold aQ at hz hm
     split at hz
     ·exact absurd rfl hz
     ·split at hz
      ·next h1 h2 =>
       rw [if_neg h1,if_pos h2] at hm
       exact h2.resolve_left hm
      ·exact absurd rfl hz
    have h3:(cs.filter j9).length<=cs.length:=List.length_filter_le _ _
    have h4:(List.filter j9 [aQ tops most cs l]).length<=1:=List.length_filter_le _ _
    omega
open Classical in
noncomputable def startT (ps:List Piece):Str->Sx:=fun x=>if x ∈ bo ps then (some 0,some 0) else df
open Classical in
noncomputable def gc (ps:List Piece):Cp:=if bS ps 0 then (0,T0) else (0,startT ps)
noncomputable def cq (ps:List Piece) (most:Nat):List Cp × List Piece:=cB (bS ps) most ps (most+ps.length) [gc ps] []
theorem yC {ps:List Piece} {ss:List Str} (hp:ss.Perm (LS.cM (bo ps))) (hs:sortedS ss=true):FD (startT ps) (j6 ss):=by
 have hm:∀ x,x ∈ ss ↔ x ∈ bo ps:=fun x=>hp.mem_iff.trans LS.oU
 refine⟨ss,⟨oZ hs,hp.nodup_iff.mpr (LS.qP _)⟩,fun x=>?_,?_⟩
 ·rw [hm]
  unfold startT
  by_cases h:x ∈ bo ps
  ·rw [if_pos h];exact⟨fun _ z=>(by cases z),fun _=>h⟩
  ·rw [if_neg h];exact⟨fun z=>absurd z h,fun z=>absurd rfl z⟩
 ·unfold j6 d7
  congr 1
  refine List.map_congr_left fun x hx=>?_
  unfold dF startT
  rw [if_pos ((hm x).mp hx)]
  rfl
theorem md {ps:List Piece} {xs:List Str} {m:Nat} (ok:bY xs m ps):cD xs (startT ps):=by
 refine⟨fun x hx=>?_,fun x=>?_⟩
 ·unfold startT at hx
  by_cases h:x ∈ bo ps
  ·exact oV ok x h
  ·rw [if_neg h] at hx;exact absurd rfl hx
 ·unfold startT
  split
  ·exact Int.le_refl 0
  ·exact True.intro
theorem fz {tops:Nat->Prop} {most:Nat} {ps:List Piece} {f:Nat} {cs:List Cp} {outs:List Piece} {c:Cp} {pc:Piece} (h:cs[outs.length]? = some c) (hp:ps[c.1]? = some pc) :
  cB tops most ps (f+1) cs outs=cB tops most ps f (bG tops most cs (b8 (cF c.2 pc.1) pc.2)).1 (outs ++ [(pc.1,iw pc.2 (bG tops most cs (b8 (cF c.2 pc.1) pc.2)).2)]):=by
 conv=>lhs;unfold cB
 rw [h]
 dsimp only
 rw [hp]
theorem gd {tops:Nat->Prop} {most:Nat} {ps:List Piece} {cs:List Cp} {outs:List Piece} (h:cs[outs.length]? = none):∀ f,cB tops most ps f cs outs=(cs,outs)
 | 0=>rfl
 | f+1=>by
  conv=>lhs;unfold cB
  rw [h]
inductive pf (P:Program) (w:World) (C:Addr) (vs:List V) (H:Hp) (Q:VK) (_:XK):Prop
 | mk (plv:V) (ps:List Piece) (xs:List Str) (most:Nat) (_:vs = [plv,.int (most:Nat)]) (_:aP H plv (eM ps)) (_:bY xs 6 ps) (_:(∀ x ∈ xs,hG x)) (_:xs.length<=10) (_:0 < ps.length) (_:ps.length<=60) (_:1<=most) (_:most<=300) (_:∀ (v:V) (ds:List PyData) (H':Hp),Paired (fun d c=>CD c d) ds (cq ps most).1->aP H' v (.tuple [.tuple ((cq ps most).2.map dQ),.tuple ds])->ae H H'->Q v H')
theorem Ag {X:Cx} {K:PySem.W.Frag} {e:Expr} {f:Str} {pos:Pos} {ta:TE} (hK:X.K=K) (he:PE X e ta) (hb:attributeBase e f X.env (eval e X.env)=eval e X.env):PE X (.Attribute e f pos) (AM K ta f):=by
 subst hK
 exact fc he hb
theorem gf {tops:Nat->Prop} {most n:Nat} {xs:List Str}:∀ {ls cs:List Cp} {ns:List Nat},hU n most cs->(∀ c ∈ cs,c.1 < n/\cD xs c.2)->(∀ c ∈ ls,c.1 < n/\cD xs c.2)->hU n most (ls.foldl (cA tops most) (cs,ns)).1/\(∀ c ∈ (ls.foldl (cA tops most) (cs,ns)).1,c.1 < n/\cD xs c.2)/\(ls.foldl (cA tops most) (cs,ns)).2.length=ns.length+ls.length/\∃ more,(ls.foldl (cA tops most) (cs,ns)).1=cs++more
 | [],cs,ns,h,hc,_=>⟨h,hc,rfl,[],by simp⟩
 | l :: ls,cs,ns,h,hc,hl=>by
  have hl0:=hl l (List.mem_cons_self ..)
  have hcp:(aQ tops most cs l).1 < n/\cD xs (aQ tops most cs l).2:=by
   unfold aQ
   split
   ·exact⟨hl0.1,cD.zero⟩
   ·split
    ·exact hl0
    ·exact⟨hl0.1,cD.zero⟩
  have hc':∀ c ∈ LS.putIn cs (aQ tops most cs l),c.1 < n/\cD xs c.2:=fun c hc'=>by
   rcases LS.dq.mp hc' with z | z
   ·exact hc c z
   ·rw [z];exact hcp
  obtain⟨i1,i2,i3,more,i4⟩:=gf (tops:=tops) (ls:=ls) (cs:=LS.putIn cs (aQ tops most cs l)) (ns:=ns ++ [(LS.putIn cs (aQ tops most cs l)).idxOf (aQ tops most cs l)]) (h.put (l:=l)) hc' fun c hc=>hl c (List.mem_cons_of_mem _ hc)
  refine⟨i1,i2,?_,?_⟩
  ·refine Eq.trans (show (ls.foldl (cA tops most) (cA tops most (cs,ns) l)).2.length=(ns ++ [(LS.putIn cs (aQ tops most cs l)).idxOf (aQ tops most cs l)]).length+ls.length from i3) ?_
   simp only [List.length_append,List.length_cons,List.length_nil]
   omega
  ·have i4':(ls.foldl (cA tops most) (cA tops most (cs,ns) l)).1=LS.putIn cs (aQ tops most cs l)++more:=i4
   show ∃ more,(ls.foldl (cA tops most) (cA tops most (cs,ns) l)).1=cs++more
   rw [i4']
   unfold LS.putIn
   split
   ·exact⟨more,rfl⟩
   ·exact⟨aQ tops most cs l :: more,by simp⟩
theorem ft.mv {P:Program} {w:World} {C r m d:Addr} {H H':Hp} {ms:List (PyData × Addr)} (A:ft P w C H r m d ms) (nls:∀ p ∈ ms,bR p.1=true) (k:∀ c o,H c=some o->(c=r\/c=m\/c=d)->H' c=some o) (kt:∀ p zs,H p=some (.tup zs)->H' p=some (.tup zs)):ft P w C H' r m d ms:=by
 obtain⟨⟨dx,h1⟩,h2,h3,h4⟩:=A
 exact⟨⟨dx,k _ _ h1 (.inl rfl)⟩,k _ _ h2 (.inr (.inl rfl)),k _ _ h3 (.inr (.inr rfl)),fun p hp=>⟨(h4 p hp).1,(h4 p hp).2.aW kt (nls p hp)⟩⟩
theorem lH.iO {ms:List (PyData × Addr)} {cs:List Cp} (h:lH ms cs):∀ p ∈ ms,bR p.1=true:=by
 have go:∀ {ds:List PyData} {cs:List Cp},Paired (fun d c=>CD c d) ds cs->∀ d ∈ ds,bR d=true:=by
  intro ds cs h
  induction h with
  | nil=>intro d hd;cases hd
  | cons r _ ih =>
   intro d hd
   rcases List.mem_cons.mp hd with rfl | hd
   ·exact r.iO
   ·exact ih d hd
 exact fun p hp=>go h p.1 (List.mem_map.mpr ⟨p,hp,rfl⟩)
theorem lH.put {ms:List (PyData × Addr)} {cs:List Cp} {c:Cp} {d:PyData} {a:Addr} (h:lH ms cs) (cd:CD c d):lH (je ms d a) (LS.putIn cs c):=by
 obtain⟨hm,_⟩:=cd.mem h
 unfold je LS.putIn
 by_cases z:c ∈ cs
 ·rw [if_pos z,if_pos (hm.mpr z)];exact h
 ·rw [if_neg z,if_neg (fun w=>z (hm.mp w))]
  show Paired _ ((ms ++ [(d,a)]).map (·.1)) _
  rw [List.map_append]
  exact eB h (.cons cd .nil)
theorem t6 {H:Hp}:∀ {ms:List (PyData × Addr)},(∀ p ∈ ms,aP H (.ref p.2) p.1)->aU H (ms.map fun p=>V.ref p.2) (ms.map (·.1))
 | [],_=>.nil
 | p :: ms,h=>.cons (h p (List.mem_cons_self ..)) (t6 fun q hq=>h q (List.mem_cons_of_mem _ hq))
theorem m9:∀ {vs:List Value} {ks:List Int},vs.length=ks.length->(∀ (j:Nat) (v:Value) (x:Int),vs[j]? = some v->ks[j]? = some x->∃ t,v=.int x t)->IntsAre vs ks
 | [],[],_,_=>.nil
 | [],_ :: _,h,_=>by cases h
 | _ :: _,[],h,_=>by cases h
 | v :: vs,x :: ks,hl,h=>by
  obtain⟨t,rfl⟩:=h 0 v x rfl rfl
  exact .cons x t (m9 (by simpa using hl) fun j v y h1 h2=>h (j+1) v y (by simpa using h1) (by simpa using h2))
section
variable {prog:Program} {w:World} {A:Around} {E:Value->Shared->Prop} {s:Shared}
theorem rA {a:Addr} {kvs:List (Key × Value)} {ks:List Int} {Q:Value->Shared->Prop} (hh:A.handled=none) (lo:(a == sysModules)=false) (dd:s.heap.DictOf (aG prog w) a kvs)
  (hk:kvs.map (·.1)=ks.map Sum.inl) (h64:ks.length < 64)
  (h:∀ (h':Heap) (tk:Nat) (D:Addr) (out:Array Value) (ss':List Int) (e:Nat),(∀ b o,s.heap.get? b=some o->h'.get? b=some o)->s.heap.objs.size<=D->h'.get? D=some { cls:=.type "list",data:=.seq out e } ->
   IntsAre out.toList ss'->ss'.Perm ks->Q (.ref D) { s with heap:=h',toks:=tk }) :
  wpAny (model prog w) A (call (.builtin "sorted") [.ref a]) Q E s:=by
 refine Calls.call_function_entry kind_sorted plain_sorted entry_sorted (args_sorted1 _) ?_
 unfold Builtin.«sorted»
 refine wpAny_bind (m:=checkCount "sorted" 1 1 _) (wpAny_pure ?_)
 obtain⟨ep,hat⟩:=dd.dictAt
 have hlk:kvs.length=ks.length:=by have:=congrArg List.length hk;simpa using this
 have hz:kvs.length<=sizeLine:=by rw [hlk];exact Nat.le_trans (Nat.le_of_lt h64) (by decide)
 refine wpAny_bind (gather (A:=A.in1) (PySem.W.kdl_dict (knd:=aG prog w) (kvs:=kvs) (ep:=ep) lo) hh hat hz fun h' tk acc hkeep hacc hsz=>?_)
 have hl:acc.toList.length=ks.length:=by rw [Array.length_toList,hacc.1,hlk]
 have hS:IntsAre acc.toList ks:=m9 hl fun j v x h1 h2=>by
  obtain⟨k,y,e1,e2⟩:=hacc.2 j v (by rw [<-Array.getElem?_toList];exact h1)
  have e3:(kvs.map (·.1))[j]? = some k:=by rw [List.getElem?_map,e1];rfl
  rw [hk,List.getElem?_map,h2] at e3
  cases (Option.some.inj e3)
  exact lB e2
 refine wpAny_bind (wpAny_newList ?_ (by rw [hl];exact Nat.le_trans (Nat.le_of_lt h64) (by decide)))
 have hoL:(h'.push (seqObj "list" acc.toList.toArray 0)).get? h'.objs.size=some (seqObj "list" acc.toList.toArray 0):=Heap.get?_push_size _ rfl
 refine wpAny_bind (wpAny_holding (wpAny_call_entry slot_list_sort ⟨_,hoL,rfl⟩ entry_list_sort (list_sort_tree hoL hS (by rw [hl];exact h64) fun out ss' b1 b2 b3=>⟨_,rfl,?_⟩) (args_list_sort _)))
 obtain⟨e,he⟩:=sortedHeap_at (out:=out) hoL
 refine wpAny_pure ⟨_,rfl,h _ tk _ _ ss' e (fun b o ho=>?_) hsz he b1 b2⟩
 have h1:=hkeep b o ho
 have hlt:=Heap.lt_size h1
 rw [sortedHeap_old (Nat.ne_of_lt hlt) (by rw [size_push'];exact Nat.lt_succ_of_lt hlt)]
 exact Heap.get?_push_of_some _ h1
end
section
variable {X:Cx}
theorem pT (hc:X.calm=true):cJ X (.builtin "sorted") (fun vs H Q=>∃ (a:Addr) (kvs:List (Key × V)) (ks:List Int),vs = [.ref a]/\H a=some (.dK kvs)/\kvs.map (·.1)=ks.map Sum.inl/\ks.length < 64 /\
  ∀ (l:Addr) (ss:List Int),ss.Perm ks->H l=none->Q (.ref l) (upd H l (.lst (ss.map V.int)))):=by
 intro pins s σ H xs us Q I r h
 obtain⟨a,kvs,ks,rfl,ha,hk,h64,q⟩:=h
 obtain⟨u,rfl,ru⟩:=vals1 r
 cases (show u=Value.ref a from ru)
 obtain⟨z,hd,vs,rel,dd⟩:=uG I.aJ ha
 refine rA (I.ok.hd hc) hd dd (by rw [<-rel.keys];exact hk) h64 fun h' tk D out ss' e hkeep hD he hS hp=>?_
 have hv:Vals (ss'.map V.int) out.toList:=fW hS
 refine⟨.ref D,_,I.laid (t':=tk) (o:=.lst (ss'.map V.int)) hkeep hD (show bC X.prog X.w _ h' _ (.lst (ss'.map V.int)) from ⟨?_,out.toList,e,hv,by simpa using he⟩),rfl,q D ss' hp (I.aJ.fresh hD)⟩
 rw [List.length_map,hp.length_eq]
 exact Nat.le_trans (Nat.le_of_lt h64) (by decide)
end
inductive jf  (vs:List V) (H:Hp) (Q:VK) (_:XK):Prop
 | mk (plv:V) (ps:List Piece) (_:vs = [plv]) (_:aP H plv (eM ps)) (_:fi ps) (_:0 < ps.length) (_:ps.length<=60) (_:∀ (t:Addr) (ks:List Nat) (H':Hp),H' t=some (.lst (vN ks))->(∀ k,k ∈ ks ↔ eQ ps k)->(∀ k ∈ ks,k < ps.length)->ks.length<=60->ae H H'->Q (.ref t) H')
inductive rB  (vs:List V) (H:Hp) (Q:VK) (_:XK):Prop
 | mk (plv:V) (ps:List Piece) (_:vs = [plv]) (_:aP H plv (eM ps)) (_:fi ps) (_:0 < ps.length) (_:ps.length<=60) (_:∀ (t:Addr) (ks:List Nat) (H':Hp),H' t=some (.lst (vN ks))->(∀ k,k ∈ ks ↔ bS ps k)->ks.length<=60->ae H H'->Q (.ref t) H')
inductive hV  (vs:List V) (H:Hp) (Q:VK) (_:XK):Prop
 | mk (ea:Addr) (e:End) (_:vs = [.ref ea]) (_:H ea=some (.tup (eO e))) (_:∀ l H',H l=none->H' l=some (.lst (vN (ar e)))->ae H H'->Q (.ref l) H')
theorem t9 {ds:List PyData} {cs:List Cp} (h:Paired (fun d c=>CD c d) ds cs) (hl:∀ c ∈ cs,nY c.2):∀ e ∈ ds,dB e:=by
 induction h with
 | nil=>intro e he;cases he
 | cons r _ ih =>
  intro e he
  rcases List.mem_cons.mp he with rfl | he
  ·exact r.key (hl _ (List.mem_cons_self ..))
  ·exact ih (fun c hc=>hl c (List.mem_cons_of_mem _ hc)) e he
section
variable {tops:Nat->Prop} {most:Nat}
def Goes (tops:Nat->Prop) (most:Nat) (cs:List Cp) (ls:List Cp) (ns:List Nat):Prop:=Paired (fun l k=>∃ c':Cp,cs[k]? = some c'/\c'.1=l.1/\((¬ tops l.1/\c'.2=l.2)\/(c'.2=T0/\(tops l.1\/most<=cs.length)))) ls ns
theorem Goes.more {cs ls more:List Cp} {ns:List Nat} (h:Goes tops most cs ls ns):Goes tops most (cs++more) ls ns:=by
 unfold Goes at h ⊢
 induction h with
 | nil=>exact .nil
 | cons r _ ih =>
  obtain⟨c',h1,h2,h3⟩:=r
  refine .cons ⟨c',?_,h2,?_⟩ ih
  ·rw [List.getElem?_append_left (List.getElem?_eq_some_iff.mp h1).1];exact h1
  ·rcases h3 with h3 | ⟨h3,h4 | h4⟩
   ·exact .inl h3
   ·exact .inr ⟨h3,.inl h4⟩
   ·exact .inr ⟨h3,.inr (by rw [List.length_append];omega)⟩
theorem yD {cs:List Cp} {c:Cp}:(LS.putIn cs c)[(LS.putIn cs c).idxOf c]? = some c:=by
 have hm:c ∈ LS.putIn cs c:=LS.dq.mpr (.inr rfl)
 have hl:=List.idxOf_lt_length_of_mem hm
 rw [List.getElem?_eq_getElem hl,List.getElem_idxOf hl]
theorem lI:∀ {ls cs:List Cp} {ns:List Nat},∃ more ms,(ls.foldl (cA tops most) (cs,ns)).1=cs++more/\(ls.foldl (cA tops most) (cs,ns)).2=ns++ms/\Goes tops most (ls.foldl (cA tops most) (cs,ns)).1 ls ms
 | [],cs,ns=>⟨[],[],by simp,by simp,.nil⟩
 | l :: ls,cs,ns=>by
  obtain⟨more,ms,e1,e2,g⟩:=lI (ls:=ls) (cs:=LS.putIn cs (aQ tops most cs l)) (ns:=ns ++ [(LS.putIn cs (aQ tops most cs l)).idxOf (aQ tops most cs l)])
  have e0:(l :: ls).foldl (cA tops most) (cs,ns)=ls.foldl (cA tops most) (LS.putIn cs (aQ tops most cs l),ns ++ [(LS.putIn cs (aQ tops most cs l)).idxOf (aQ tops most cs l)]):=rfl
  rw [e0]
  have hp:∃ m0,LS.putIn cs (aQ tops most cs l)=cs++m0:=by
   unfold LS.putIn
   split
   ·exact⟨[],by simp⟩
   ·exact⟨_,rfl⟩
  obtain⟨m0,em⟩:=hp
  have hat:=yD (cs:=cs) (c:=aQ tops most cs l)
  refine⟨m0++more,(LS.putIn cs (aQ tops most cs l)).idxOf (aQ tops most cs l) :: ms,by rw [e1,em,List.append_assoc],by rw [e2,List.append_assoc];rfl,.cons ⟨aQ tops most cs l,?_,?_,?_⟩ g⟩
  ·rw [e1,List.getElem?_append_left (List.getElem?_eq_some_iff.mp hat).1];exact hat
  ·unfold aQ
   split
   ·rfl
   ·split <;> rfl
  ·have hl:cs.length<=(ls.foldl (cA tops most) (LS.putIn cs (aQ tops most cs l),ns ++ [(LS.putIn cs (aQ tops most cs l)).idxOf (aQ tops most cs l)])).1.length:=by rw [e1,em,List.length_append,List.length_append];omega
   generalize (ls.foldl (cA tops most) (LS.putIn cs (aQ tops most cs l),ns ++ [(LS.putIn cs (aQ tops most cs l)).idxOf (aQ tops most cs l)])).1=cz at hl
   unfold aQ
   by_cases h1:tops l.1
   ·rw [if_pos h1];exact .inr ⟨rfl,.inl h1⟩
   ·rw [if_neg h1]
    by_cases h2:l ∈ cs\/cs.length < most
    ·rw [if_pos h2];exact .inl ⟨h1,rfl⟩
    ·rw [if_neg h2];exact .inr ⟨rfl,.inr (by have:¬ cs.length < most:=fun z=>h2 (.inr z);omega)⟩
def C4 (tops:Nat->Prop) (most:Nat) (ps:List Piece) (cs:List Cp) (outs:List Piece):Prop:=∀ (j:Nat) (p:Piece),outs[j]? = some p->∃ (c:Cp) (pc:Piece) (ns:List Nat),cs[j]? = some c/\ps[c.1]? = some pc/\p=(pc.1,iw pc.2 ns)/\Goes tops most cs (b8 (cF c.2 pc.1) pc.2) ns
structure n5 (tops:Nat->Prop) (most:Nat) (xs:List Str) (ps:List Piece) (cs:List Cp) (outs:List Piece):Prop where
 iP:hU ps.length most cs
 ok:∀ c ∈ cs,c.1 < ps.length/\cD xs c.2
 le:outs.length<=cs.length
 rel:C4 tops most ps cs outs
theorem n5.step {xs:List Str} {ps:List Piece} {cs:List Cp} {outs:List Piece} {m:Nat} (h:n5 tops most xs ps cs outs) (pok:bY xs m ps) {c:Cp} {pc:Piece} (hc:cs[outs.length]? = some c) (hp:ps[c.1]? = some pc) :
  n5 tops most xs ps (bG tops most cs (b8 (cF c.2 pc.1) pc.2)).1 (outs ++ [(pc.1,iw pc.2 (bG tops most cs (b8 (cF c.2 pc.1) pc.2)).2)])/\∃ more,(bG tops most cs (b8 (cF c.2 pc.1) pc.2)).1=cs++more:=by
 have hcm:=List.mem_of_getElem? hc
 have dok:=pok.gG _ (List.mem_of_getElem? hp)
 have eok:=pok.ends _ (List.mem_of_getElem? hp)
 have bok:=(h.ok c hcm).2.rp dok.2
 obtain⟨k1,k2,_,_⟩:=gf (tops:=tops) (ls:=b8 (cF c.2 pc.1) pc.2) (ns:=[]) h.iP h.ok (tZ bok eok)
 obtain⟨more,ms,e1,e2,g⟩:=lI (tops:=tops) (most:=most) (ls:=b8 (cF c.2 pc.1) pc.2) (cs:=cs) (ns:=[])
 have hol:outs.length < cs.length:=(List.getElem?_eq_some_iff.mp hc).1
 refine⟨⟨k1,k2,?_,?_⟩,more,e1⟩
 ·unfold bG
  rw [e1,List.length_append,List.length_append]
  show _+1<=_
  omega
 ·intro j p hj
  unfold bG
  by_cases hjl:j < outs.length
  ·rw [List.getElem?_append_left hjl] at hj
   obtain⟨c',pc',ns',h1,h2,h3,h4⟩:=h.rel j p hj
   refine⟨c',pc',ns',?_,h2,h3,?_⟩
   ·rw [e1,List.getElem?_append_left (by omega)];exact h1
   ·rw [e1];exact h4.more
  ·have hje:j=outs.length:=by
    have:=(List.getElem?_eq_some_iff.mp hj).1
    rw [List.length_append] at this
    have:j < outs.length+1:=this
    omega
   subst hje
   rw [List.getElem?_append_right (Nat.le_refl _),Nat.sub_self] at hj
   cases hj
   refine⟨c,pc,ms,?_,hp,?_,g⟩
   ·rw [e1,List.getElem?_append_left hol];exact hc
   ·unfold bG
    rw [e2]
    rfl
theorem ph {xs:List Str} {ps:List Piece} {m:Nat} (pok:bY xs m ps):∀ (fu:Nat) {cs:List Cp} {outs:List Piece},n5 tops most xs ps cs outs->fu+outs.length=most+ps.length ->
  n5 tops most xs ps (cB tops most ps fu cs outs).1 (cB tops most ps fu cs outs).2/\(cB tops most ps fu cs outs).2.length=(cB tops most ps fu cs outs).1.length/\∃ more,(cB tops most ps fu cs outs).1=cs++more
 | 0,cs,outs,h,hf=>by
  have:=h.iP.len fun c hc=>(h.ok c hc).1
  have:=h.le
  exact⟨h,by show outs.length=cs.length;omega,[],by show cs=_;simp⟩
 | fu+1,cs,outs,h,hf=>by
  cases hc:cs[outs.length]? with
  | none =>
   rw [gd hc]
   have:cs.length<=outs.length:=List.getElem?_eq_none_iff.mp hc
   have:=h.le
   exact⟨h,by show outs.length=cs.length;omega,[],by simp⟩
  | some c =>
   have hcl:=(h.ok c (List.mem_of_getElem? hc)).1
   have hps:ps[c.1]? = some ps[c.1]:=by simp [hcl]
   rw [fz hc hps]
   obtain⟨h',more,e⟩:=h.step pok hc hps
   obtain⟨i1,i2,more',i3⟩:=ph pok fu h' (by rw [List.length_append];show fu+(_+1)=_;omega)
   exact⟨i1,i2,more++more',by rw [i3,e,List.append_assoc]⟩
end
theorem fK {xs:List Str} {ps:List Piece} {m most:Nat} (pok:bY xs m ps) (hn0:0 < ps.length) (hm:1<=most) :
  n5 (bS ps) most xs ps (cq ps most).1 (cq ps most).2/\(cq ps most).2.length=(cq ps most).1.length/\∃ more,(cq ps most).1 = [gc ps] ++ more:=by
 refine ph pok _ ⟨⟨by simp,Nat.le_trans (List.length_filter_le _ _) hm⟩,fun c hc=>?_,Nat.zero_le _,fun j p hj=>(by cases hj)⟩ rfl
 rw [List.mem_singleton.mp hc]
 unfold gc
 split
 ·exact⟨hn0,cD.zero⟩
 ·exact⟨hn0,md pok⟩
theorem Ah {xs:List Str} {n n':Nat} {e:End} {ns:List Nat} (h:iY xs n e) (hl:ns.length=1\/ns.length=(ar e).length) (hb:∀ k ∈ ns,k < n'):iY xs n' (iw e ns):=by
 match ns,hl,hb with
 | [a],_,hb=>exact hb a (List.mem_singleton.mpr rfl)
 | [],hl,_ =>
  cases e with
  | stop=>exact True.intro
  | go p=>exact absurd (hl.resolve_left (by decide)) (by show ¬ 0=1;decide)
  | cH b x n p q=>exact absurd (hl.resolve_left (by decide)) (by show ¬ 0=2;decide)
 | [a,c],hl,hb =>
  have hl:=hl.resolve_left (by show ¬ 2=1;decide)
  cases e with
  | stop=>exact absurd hl (by show ¬ 2=0;decide)
  | go p=>exact absurd hl (by show ¬ 2=1;decide)
  | cH b x n p q=>exact⟨h.1,h.2.1,hb a (by simp),hb c (by simp)⟩
 | _ :: _ :: _ :: _,hl,_ =>
  exfalso
  have h3:(ar e).length<=2:=by cases e <;> (show _<=2) <;> simp [ar]
  simp only [List.length_cons] at hl
  omega
theorem Goes.lt {tops:Nat->Prop} {most:Nat} {cs ls:List Cp} {ns:List Nat} (h:Goes tops most cs ls ns):∀ k ∈ ns,k < cs.length:=by
 unfold Goes at h
 induction h with
 | nil=>intro k hk;cases hk
 | cons r _ ih =>
  intro k hk
  rcases List.mem_cons.mp hk with rfl | hk
  ·obtain⟨c',h1,_⟩:=r
   exact (List.getElem?_eq_some_iff.mp h1).1
  ·exact ih k hk
theorem wZ {xs:List Str} {ps:List Piece} {m most:Nat} (pok:bY xs m ps) (hn0:0 < ps.length) (hm:1<=most):bY xs m (cq ps most).2:=by
 obtain⟨I,hl,_⟩:=fK pok hn0 hm
 have key:∀ p ∈ (cq ps most).2,(p.1.length<=m/\∀ d ∈ p.1,eF xs d)/\iY xs (cq ps most).2.length p.2:=fun p hp=>by
  obtain⟨j,hj⟩:=List.getElem?_of_mem hp
  obtain⟨c,pc,ns,h1,h2,rfl,h4⟩:=I.rel j p hj
  have hpm:=List.mem_of_getElem? h2
  have bok:=(I.ok c (List.mem_of_getElem? h1)).2.rp (pok.gG _ hpm).2
  refine⟨(show pc.1.length<=m/\∀ d ∈ pc.1,eF xs d from pok.gG pc hpm),Ah (pok.ends _ hpm) ?_ (by rw [hl];exact h4.lt)⟩
  rw [<-Paired.length h4]
  exact (ma (e:=pc.2) bok).1
 exact⟨fun p hp=>(key p hp).1,fun p hp=>(key p hp).2⟩
theorem w4 {xs:List Str} {ps:List Piece} {m most:Nat} (pok:bY xs m ps) (hn0:0 < ps.length) (hm:1<=most):0 < (cq ps most).2.length/\(cq ps most).2.length<=most+ps.length:=by
 obtain⟨I,hl,more,e⟩:=fK pok hn0 hm
 have h1:=I.iP.len fun c hc=>(I.ok c hc).1
 rw [hl]
 refine⟨?_,h1⟩
 rw [e]
 exact Nat.succ_pos _
theorem bY.up {xs:List Str} {m k:Nat} {ps:List Piece} (h:bY xs m ps) (hk:m<=k):bY xs k ps:=⟨fun p hp=>⟨Nat.le_trans (h.gG p hp).1 hk,(h.gG p hp).2⟩,h.ends⟩
section
variable {X:Cx}
end
theorem gM {X:Cx} {K:PySem.W.Frag} (h:X.K=K):sT X (AV K):=by subst h;exact bM
section
variable {X:Cx}
end
theorem u0 {e:End} {ns:List Nat} (h:ns.length=1\/ns.length=(ar e).length):ar (iw e ns)=ns:=by
 match ns,h with
 | [a],_=>rfl
 | [],h =>
  cases e with
  | stop=>rfl
  | go p=>exact absurd (h.resolve_left (by decide)) (by show ¬ 0=1;decide)
  | cH b x n p q=>exact absurd (h.resolve_left (by decide)) (by show ¬ 0=2;decide)
 | [a,c],h =>
  have h:=h.resolve_left (by show ¬ 2=1;decide)
  cases e with
  | stop=>exact absurd h (by show ¬ 2=0;decide)
  | go p=>exact absurd h (by show ¬ 2=1;decide)
  | cH b x n p q=>rfl
 | _ :: _ :: _ :: _,h =>
  exfalso
  have h3:(ar e).length<=2:=by cases e <;> (show _<=2) <;> simp [ar]
  simp only [List.length_cons] at h
  omega
theorem nc {tops:Nat->Prop} {most:Nat}:∀ {ls cs:List Cp} {ns:List Nat},(∀ c ∈ cs,tops c.1->c.2=T0)->∀ c ∈ (ls.foldl (cA tops most) (cs,ns)).1,tops c.1->c.2=T0
 | [],cs,ns,h=>h
 | l :: ls,cs,ns,h=>by
  have e0:(l :: ls).foldl (cA tops most) (cs,ns)=ls.foldl (cA tops most) (LS.putIn cs (aQ tops most cs l),ns ++ [(LS.putIn cs (aQ tops most cs l)).idxOf (aQ tops most cs l)]):=rfl
  rw [e0]
  refine nc fun c hc ht=>?_
  rcases LS.dq.mp hc with z | z
  ·exact h c z ht
  ·subst z
   unfold aQ at ht ⊢
   by_cases h1:tops l.1
   ·rw [if_pos h1]
   ·rw [if_neg h1] at ht ⊢
    by_cases h2:l ∈ cs\/cs.length < most
    ·rw [if_pos h2] at ht;exact absurd ht h1
    ·rw [if_neg h2]
theorem pA {tops:Nat->Prop} {most:Nat} {ps:List Piece}:∀ (fu:Nat) {cs:List Cp} {outs:List Piece},(∀ c ∈ cs,tops c.1->c.2=T0)->∀ c ∈ (cB tops most ps fu cs outs).1,tops c.1->c.2=T0
 | 0,cs,outs,h=>h
 | fu+1,cs,outs,h=>by
  cases hc:cs[outs.length]? with
  | none=>rw [gd hc];exact h
  | some c =>
   cases hp:ps[c.1]? with
   | none =>
    have:cB tops most ps (fu+1) cs outs=(cs,outs):=by
     conv=>lhs;unfold cB
     rw [hc]
     dsimp only
     rw [hp]
    rw [this]
    exact h
   | some pc =>
    rw [fz hc hp]
    exact pA fu (nc h)
theorem yE {ps:List Piece} {most:Nat}:∀ c ∈ (cq ps most).1,bS ps c.1->c.2=T0:=by
 refine pA _ fun c hc ht=>?_
 rw [List.mem_singleton.mp hc] at ht ⊢
 unfold gc at ht ⊢
 by_cases h:bS ps 0
 ·rw [if_pos h]
 ·rw [if_neg h] at ht
  exact absurd ht h
theorem rC {T:Str->Sx} {e:End} {p:Cp} (h:p ∈ b8 T e):p.1 ∈ ar e:=by
 unfold b8 at h
 obtain⟨⟨k,o⟩,ho,hm⟩:=List.mem_filterMap.mp h
 have hz:=List.of_mem_zip ho
 cases o with
 | none=>cases hm
 | some U=>cases hm;exact hz.1
theorem w5 {tops:Nat->Prop} {most:Nat} {cs:List Cp} {l:Cp}:(aQ tops most cs l).1=l.1:=by
 unfold aQ
 split
 ·rfl
 ·split <;> rfl
theorem fold_fst {tops:Nat->Prop} {most:Nat} {R:Nat->Prop}:∀ {ls cs:List Cp} {ns:List Nat},(∀ c ∈ cs,R c.1)->(∀ c ∈ ls,R c.1)->∀ c ∈ (ls.foldl (cA tops most) (cs,ns)).1,R c.1
 | [],cs,ns,h,_=>h
 | l :: ls,cs,ns,h,hl=>by
  have e0:(l :: ls).foldl (cA tops most) (cs,ns)=ls.foldl (cA tops most) (LS.putIn cs (aQ tops most cs l),ns ++ [(LS.putIn cs (aQ tops most cs l)).idxOf (aQ tops most cs l)]):=rfl
  rw [e0]
  refine fold_fst (fun c hc=>?_) fun c hc=>hl c (List.mem_cons_of_mem _ hc)
  rcases LS.dq.mp hc with z | z
  ·exact h c z
  ·subst z
   rw [w5]
   exact hl l List.mem_cons_self
theorem rD {tops:Nat->Prop} {most:Nat} {ps:List Piece}:∀ (fu:Nat) {cs:List Cp} {outs:List Piece},(∀ c ∈ cs,eQ ps c.1)->∀ c ∈ (cB tops most ps fu cs outs).1,eQ ps c.1
 | 0,cs,outs,h=>h
 | fu+1,cs,outs,h=>by
  cases hc:cs[outs.length]? with
  | none=>rw [gd hc];exact h
  | some c =>
   cases hp:ps[c.1]? with
   | none =>
    have:cB tops most ps (fu+1) cs outs=(cs,outs):=by
     conv=>lhs;unfold cB
     rw [hc]
     dsimp only
     rw [hp]
    rw [this]
    exact h
   | some pc =>
    rw [fz hc hp]
    exact rD fu (fold_fst h fun l hl=>.step (h c (List.mem_of_getElem? hc)) hp (rC hl))
theorem ua {ps:List Piece} {most:Nat}:∀ c ∈ (cq ps most).1,eQ ps c.1:=by
 refine rD _ fun c hc=>?_
 rw [List.mem_singleton.mp hc]
 unfold gc
 split <;> exact .zero
theorem pB {tops:Nat->Prop} {most:Nat}:∀ {ls cs:List Cp} {ns:List Nat},(∀ (j:Nat) (c:Cp),most<=j->cs[j]? = some c->c.2=T0)->∀ (j:Nat) (c:Cp),most<=j->(ls.foldl (cA tops most) (cs,ns)).1[j]? = some c->c.2=T0
 | [],cs,ns,h=>h
 | l :: ls,cs,ns,h=>by
  have e0:(l :: ls).foldl (cA tops most) (cs,ns)=ls.foldl (cA tops most) (LS.putIn cs (aQ tops most cs l),ns ++ [(LS.putIn cs (aQ tops most cs l)).idxOf (aQ tops most cs l)]):=rfl
  rw [e0]
  refine pB fun j c hj hc=>?_
  unfold LS.putIn at hc
  by_cases hin:aQ tops most cs l ∈ cs
  ·rw [if_pos hin] at hc
   exact h j c hj hc
  ·rw [if_neg hin] at hc
   by_cases hl:j < cs.length
   ·rw [List.getElem?_append_left hl] at hc
    exact h j c hj hc
   ·have hjl:j=cs.length:=by
     have:=(List.getElem?_eq_some_iff.mp hc).1
     rw [List.length_append] at this
     have:j < cs.length+1:=this
     omega
    subst hjl
    rw [List.getElem?_append_right (Nat.le_refl _),Nat.sub_self] at hc
    cases hc
    unfold aQ at hin ⊢
    by_cases h1:tops l.1
    ·rw [if_pos h1]
    ·rw [if_neg h1] at hin ⊢
     by_cases h2:l ∈ cs\/cs.length < most
     ·rw [if_pos h2] at hin
      exact absurd (h2.resolve_right (by omega)) hin
     ·rw [if_neg h2]
theorem pC {tops:Nat->Prop} {most:Nat} {ps:List Piece}:∀ (fu:Nat) {cs:List Cp} {outs:List Piece},(∀ (j:Nat) (c:Cp),most<=j->cs[j]? = some c->c.2=T0)->∀ (j:Nat) (c:Cp),most<=j->(cB tops most ps fu cs outs).1[j]? = some c->c.2=T0
 | 0,cs,outs,h=>h
 | fu+1,cs,outs,h=>by
  cases hc:cs[outs.length]? with
  | none=>rw [gd hc];exact h
  | some c =>
   cases hp:ps[c.1]? with
   | none =>
    have:cB tops most ps (fu+1) cs outs=(cs,outs):=by
     conv=>lhs;unfold cB
     rw [hc]
     dsimp only
     rw [hp]
    rw [this]
    exact h
   | some pc =>
    rw [fz hc hp]
    exact pC fu (pB h)
theorem yF {ps:List Piece} {most:Nat} (hm:1<=most):∀ (j:Nat) (c:Cp),most<=j->(cq ps most).1[j]? = some c->c.2=T0:=by
 refine pC _ fun j c hj hc=>?_
 have:=(List.getElem?_eq_some_iff.mp hc).1
 have:j < 1:=this
 omega
theorem yG {xs:List Str} {ps:List Piece} {m most:Nat} (pok:bY xs m ps) (hn0:0 < ps.length) (hm:1<=most) {k:Nat} (hk:bS ps k):((cq ps most).1.map (·.1)).count k<=1/\(k ∈ (cq ps most).1.map (·.1)->(k,T0) ∈ (cq ps most).1):=by
 obtain⟨I,_,_⟩:=fK pok hn0 hm
 have hb:=yE (ps:=ps) (most:=most)
 have nd:=I.iP.nd
 generalize (cq ps most).1=cs at hb nd
 constructor
 ·clear I
  induction cs with
  | nil=>exact Nat.zero_le _
  | cons c cs ih =>
   have nd:=List.nodup_cons.mp nd
   have ih:=ih (fun c hc=>hb c (List.mem_cons_of_mem _ hc)) nd.2
   rw [List.map_cons,List.count_cons]
   by_cases e:c.1=k
   ·have hz:(cs.map (·.1)).count k=0:=by
     apply List.count_eq_zero.mpr
     intro hmem
     obtain⟨c',hc',e'⟩:=List.mem_map.mp hmem
     have h1:=hb c List.mem_cons_self (by rw [e];exact hk)
     have h2:=hb c' (List.mem_cons_of_mem _ hc') (by rw [e'];exact hk)
     have:c=c':=Prod.ext (e.trans e'.symm) (h1.trans h2.symm)
     exact nd.1 (by rw [this];exact hc')
    rw [hz]
    split <;> omega
   ·rw [if_neg (by rw [beq_iff_eq];exact e)]
    exact ih
 ·intro hmem
  obtain⟨c,hc,e⟩:=List.mem_map.mp hmem
  have h1:=hb c hc (by rw [e];exact hk)
  have:c=(k,T0):=Prod.ext e h1
  rw [<-this]
  exact hc
theorem yH {xs:List Str} {ps:List Piece} {m most:Nat} (pok:bY xs m ps) (hn0:0 < ps.length) (hm:1<=most) {j k:Nat} {p:Piece} (hj:(cq ps most).2[j]? = some p) (hk:k ∈ ar p.2) :
  ∃ (c c':Cp) (pc:Piece),(cq ps most).1[j]? = some c/\(cq ps most).1[k]? = some c'/\ps[c.1]? = some pc/\c'.1 ∈ ar pc.2:=by
 obtain⟨I,hl,_⟩:=fK pok hn0 hm
 obtain⟨c,pc,ns,h1,h2,rfl,h4⟩:=I.rel j p hj
 have bok:=(I.ok c (List.mem_of_getElem? h1)).2.rp (pok.gG _ (List.mem_of_getElem? h2)).2
 have hk':k ∈ ns:=by
  have e:=u0 (e:=pc.2) (ns:=ns) (by rw [<-Paired.length h4];exact (ma (e:=pc.2) bok).1)
  rw [<-e]
  exact hk
 have hw:∀ l ∈ b8 (cF c.2 pc.1) pc.2,l.1 ∈ ar pc.2:=fun l hl=>rC hl
 unfold Goes at h4
 generalize b8 (cF c.2 pc.1) pc.2=ls at h4 hw
 have:∃ c',(cq ps most).1[k]? = some c'/\c'.1 ∈ ar pc.2:=by
  clear bok h1 hj hl I hk
  induction h4 with
  | nil=>cases hk'
  | cons r _ ih =>
   rcases List.mem_cons.mp hk' with rfl | hk
   ·obtain⟨c',g1,g2,_⟩:=r
    exact⟨c',g1,by rw [g2];exact hw _ List.mem_cons_self⟩
   ·exact ih hk fun l hl=>hw l (List.mem_cons_of_mem _ hl)
 obtain⟨c',g1,g2⟩:=this
 exact⟨c,c',pc,h1,g1,h2,g2⟩
theorem w6 {xs:List Str} {ps:List Piece} {m most:Nat} (pok:bY xs m ps) (hn0:0 < ps.length) (hm:1<=most) {left:List Nat}
  (h1:∀ k ∈ left,∃ (p:Piece) (c:Cp),(cq ps most).2[k]? = some p/\(cq ps most).1[k]? = some c/\¬ bS ps c.1/\∃ j ∈ ar p.2,j ∈ left):left = []:=by
 have inv:=(fK pok hn0 hm).1
 have go:∀ (n k:Nat),k ∈ left->∀ c,(cq ps most).1[k]? = some c->ps.length - c.1<=n->False:=by
  intro n
  induction n with
  | zero =>
   intro k hk c hc hn
   have:=(inv.ok c (List.mem_of_getElem? hc)).1
   omega
  | succ n ih =>
   intro k hk c hc hn
   obtain⟨p,c1,hp,hc1,nh,j,hj,hjl⟩:=h1 k hk
   obtain⟨c2,c',pc,g1,g2,g3,g4⟩:=yH pok hn0 hm hp hj
   rw [g1] at hc
   cases hc
   obtain⟨_,c3,_,hc3,nh3,_⟩:=h1 j hjl
   obtain rfl:c3=c':=Option.some.inj (hc3.symm.trans g2)
   have hr:=ua c (List.mem_of_getElem? g1)
   have:c.1 < c3.1:=by
    apply Classical.byContradiction
    intro z
    exact nh3 ⟨c.1,pc.1,pc.2,hr,g3,g4,by omega⟩
   have:=(inv.ok c3 (List.mem_of_getElem? hc3)).1
   exact ih j hjl c3 hc3 (by omega)
 cases left with
 | nil=>rfl
 | cons k left =>
  obtain⟨p,c,hp,hc,_⟩:=h1 k List.mem_cons_self
  exact (go _ k List.mem_cons_self c hc (Nat.le_refl _)).elim
end L2
namespace LS
open PySem
def nx (N i:Nat):Nat:=(i * 5+1) % N
def lJ (N:Nat):Nat->Nat->Nat
 | 0,i=>i
 | n+1,i=>lJ N n (nx N i)
def w9 (N:Nat):Nat->Nat->Nat
 | 0,_=>0
 | n+1,i=>(2 ^ i) ||| w9 N n (nx N i)
theorem xa {N:Nat}:∀ (n i j:Nat),(w9 N n i).testBit j=true->∃ m,m < n/\lJ N m i=j
 | 0,i,j,h=>by rw [w9,Nat.zero_testBit] at h;cases h
 | n+1,i,j,h=>by
  rw [w9,Nat.testBit_or,Bool.or_eq_true] at h
  rcases h with h | h
  ·rw [Nat.testBit_two_pow] at h
   exact⟨0,by omega,of_decide_eq_true h⟩
  ·obtain⟨m,h1,h2⟩:=xa n (nx N i) j h
   exact⟨m+1,by omega,h2⟩
theorem kN {N:Nat}:∀ (a b i:Nat),lJ N (a+b) i=lJ N b (lJ N a i)
 | 0,b,i=>by rw [Nat.zero_add];rfl
 | a+1,b,i=>by
  rw [Nat.add_right_comm]
  exact kN a b (nx N i)
structure Full (N:Nat):Prop where
 pos:0 < N
 all:∀ i j,i < N->j < N->∃ m,m < N/\lJ N m i=j
theorem Full.of {N:Nat} (h0:0 < N) (hv:w9 N N 0=2 ^ N - 1) (hr:lJ N N 0=0):Full N:=⟨h0,fun i j hi hj=>by
 have get:∀ j,j < N->∃ m,m < N/\lJ N m 0=j:=fun j hj=>xa N 0 j (by rw [hv,Nat.testBit_two_pow_sub_one];exact decide_eq_true hj)
 obtain⟨a,ha,ea⟩:=get i hi
 obtain⟨b,hb,eb⟩:=get j hj
 by_cases hab:a<=b
 ·refine⟨b - a,by omega,?_⟩
  rw [<-ea,<-kN,show a+(b - a)=b by omega]
  exact eb
 ·refine⟨N - a+b,by omega,?_⟩
  rw [<-ea,<-kN,show a+(N - a+b)=N+b by omega,kN,hr]
  exact eb⟩
theorem Ce:Full 8:=Full.of (by decide) (by decide +kernel) (by decide +kernel)
theorem By:Full 32:=Full.of (by decide) (by decide +kernel) (by decide +kernel)
theorem Ai:Full 128:=Full.of (by decide) (by decide +kernel) (by decide +kernel)
theorem Aj:Full 512:=Full.of (by decide) (by decide +kernel) (by decide +kernel)
theorem yI:Full 2048:=Full.of (by decide) (by decide +kernel) (by decide +kernel)
def ub (mask:Nat):Nat->Nat × Nat->Nat × Nat
 | 0,p=>p
 | n+1,p=>ub mask n (SetTable.leap mask p.1 p.2)
theorem rE {mask:Nat}:∀ (m i:Nat),(ub mask m (i,0)).1=lJ (mask+1) m i
 | 0,_=>rfl
 | m+1,i=>by
  show (ub mask m (SetTable.leap mask i 0)).1=lJ (mask+1) m (nx (mask+1) i)
  have e:SetTable.leap mask i 0=(nx (mask+1) i,0):=rfl
  rw [e]
  exact rE m _
theorem n9 {mask:Nat} (F:Full (mask+1)) {j:Nat} (hj:j < mask+1):∀ (c i p:Nat),i < mask+1->p < 32 ^ c->∃ m,m < c+(mask+1)/\(ub mask m (i,p)).1=j
 | 0,i,p,hi,hp=>by
  have:p=0:=by omega
  subst this
  obtain⟨m,h1,h2⟩:=F.all i j hi hj
  exact⟨m,by omega,by rw [rE];exact h2⟩
 | c+1,i,p,hi,hp=>by
  obtain⟨m,h1,h2⟩:=n9 F hj c ((i * 5+1+p / 32) % (mask+1)) (p / 32) (Nat.mod_lt _ F.pos) (by rw [Nat.pow_succ] at hp;omega)
  exact⟨m+1,by omega,h2⟩
theorem uc (h:Int):SetTable.bits h < 32 ^ 13:=by
 unfold SetTable.bits
 have h1:h % (2 ^ 64:Int) < 2 ^ 64:=Int.emod_lt_of_pos _ (by decide)
 have h2:0<=h % (2 ^ 64:Int):=Int.emod_nonneg _ (by decide)
 have e:(2 ^ 64:Int)=18446744073709551616:=by decide
 have e2:(32:Nat) ^ 13=36893488147419103232:=by decide
 rw [e] at h1 h2
 rw [e,e2]
 omega
section
variable {t:SetTable}
def dh (t:SetTable):Nat->SetTable.Probe->SetTable.Probe
 | 0,p=>p
 | n+1,p=>dh t n (t.advance p)
theorem rF:∀ (a b:Nat) (p:SetTable.Probe),dh t (a+b) p=dh t b (dh t a p)
 | 0,b,p=>by rw [Nat.zero_add];rfl
 | a+1,b,p=>by
  rw [Nat.add_right_comm]
  exact rF a b (t.advance p)
theorem pD (mask i:Nat):SetTable.runEnd mask i - i<=9:=by
 unfold SetTable.runEnd
 split <;> omega
theorem oa:∀ (k:Nat) (p:SetTable.Probe),p.more=k->(dh t (k+1) p).j=(SetTable.leap t.mask p.i p.perturb).1/\(dh t (k+1) p).i=(SetTable.leap t.mask p.i p.perturb).1/\(dh t (k+1) p).perturb=(SetTable.leap t.mask p.i p.perturb).2/\(dh t (k+1) p).more<=9
 | 0,p,h=>by
  have e:dh t (0+1) p=t.advance p:=rfl
  rw [e]
  unfold SetTable.advance
  rw [if_neg (by omega)]
  exact⟨rfl,rfl,rfl,pD _ _⟩
 | k+1,p,h=>by
  have e:dh t (k+1+1) p=dh t (k+1) (t.advance p):=rfl
  have e2:t.advance p = { p with j:=p.j+1,more:=p.more - 1 }:=by
   unfold SetTable.advance
   rw [if_pos (by omega)]
  rw [e,e2]
  exact oa k { p with j:=p.j+1,more:=p.more - 1 } (by show p.more - 1=k;omega)
theorem pE:∀ (m:Nat) (p:SetTable.Probe),p.more<=9->∃ n,n<=10+10 * m/\(dh t n p).j=(ub t.mask (m+1) (p.i,p.perturb)).1
 | 0,p,h=>by
  have:=oa (t:=t) p.more p rfl
  exact⟨p.more+1,by omega,this.1⟩
 | m+1,p,h=>by
  obtain⟨h1,h2,h3,h4⟩:=oa (t:=t) p.more p rfl
  obtain⟨n,g1,g2⟩:=pE m _ h4
  refine⟨p.more+1+n,by omega,?_⟩
  rw [rF,g2,h2,h3]
  rfl
theorem Ak (F:Full (t.mask+1)) {j:Nat} (hj:j < t.mask+1) (p:SetTable.Probe) (hm:p.more<=9) (hp:p.perturb < 32 ^ 13):∃ n,n < 10 * SetTable.turns t.mask/\(dh t n p).j=j:=by
  obtain⟨m,h1,h2⟩:=n9 F hj 13 (SetTable.leap t.mask p.i p.perturb).1 (SetTable.leap t.mask p.i p.perturb).2 (Nat.mod_lt _ F.pos) (by
    show p.perturb / 32 < _
    exact Nat.lt_of_le_of_lt (Nat.div_le_self _ _) hp)
  obtain⟨n,g1,g2⟩:=pE (t:=t) m p hm
  refine⟨n,?_,?_⟩
  · unfold SetTable.turns
    omega
  · rw [g2]
    exact h2
theorem pF (p:SetTable.Probe):(t.advance p).dummy=p.dummy:=by
 unfold SetTable.advance
 split <;> rfl
theorem yJ (hd:t.dummies = #[]) {j:Nat} (h:j ∉ t.place.toList):t.slot j=.empty:=by
 unfold SetTable.slot
 dsimp only
 have h1:(t.place[SetTable.below t.place j]? == some j)=false:=by
  cases hh:t.place[SetTable.below t.place j]? == some j with
  | false=>rfl
  | true =>
   rw [beq_iff_eq] at hh
   exact absurd (Array.mem_toList_iff.mpr (Array.mem_of_getElem? hh)) h
 rw [h1,hd]
 rfl
theorem jg (hd:t.dummies = #[]) (j:Nat):(t.slot j=.empty/\t.place[SetTable.below t.place j]? ≠ some j)\/∃ i,t.slot j=.live i/\t.place[i]? = some j:=by
 unfold SetTable.slot
 dsimp only
 rw [hd]
 by_cases h:t.place[SetTable.below t.place j]? = some j
 ·rw [h,if_pos (beq_self_eq_true _)]
  exact .inr ⟨_,rfl,h⟩
 ·have h1:(t.place[SetTable.below t.place j]? == some j)=false:=by
   cases hh:t.place[SetTable.below t.place j]? == some j with
   | false=>rfl
   | true=>exact absurd (beq_iff_eq.mp hh) h
  rw [h1]
  exact .inl ⟨rfl,h⟩
inductive qc (t:SetTable) (hashAt:Nat->Int) (h:Int) (p:SetTable.Probe) (n:Nat):SetTable.Met->Prop
 | empty (j:Nat) (_:t.slot j=.empty) (_:t.place[SetTable.below t.place j]? ≠ some j) (_:∃ k,j=(dh t k p).j):qc t hashAt h p n (.empty j p.dummy)
 | u7 (j i:Nat) (next:SetTable.Probe) (n':Nat) (_:t.slot j=.live i) (_:hashAt i=h) (_:next.dummy=p.dummy) (_:n' < n) (_:t.slot (dh t n' next).j=.empty) (_:∃ k,next=dh t k p):qc t hashAt h p n (.candidate j i next)
theorem ud (hd:t.dummies = #[]) {hashAt:Nat->Int} {h:Int}:∀ (n fuel:Nat) (p:SetTable.Probe),n < fuel->t.slot (dh t n p).j=.empty->∃ met,SetTable.probe.go t hashAt h fuel p=some met/\qc t hashAt h p n met:=by
 intro n
 induction n with
 | zero =>
  intro fuel p hf he
  obtain⟨f,rfl⟩:∃ f,fuel=f+1:=⟨fuel - 1,by omega⟩
  have he:t.slot p.j=.empty:=he
  unfold SetTable.probe.go
  rw [he]
  rcases jg hd p.j with ⟨_,h2⟩ | ⟨i,h1,_⟩
  ·exact⟨_,rfl,.empty _ he h2 ⟨0,rfl⟩⟩
  ·rw [h1] at he;cases he
 | succ n ih =>
  intro fuel p hf he
  obtain⟨f,rfl⟩:∃ f,fuel=f+1:=⟨fuel - 1,by omega⟩
  unfold SetTable.probe.go
  rcases jg hd p.j with ⟨h1,h2⟩ | ⟨i,h1,_⟩
  ·rw [h1]
   exact⟨_,rfl,.empty _ h1 h2 ⟨0,rfl⟩⟩
  ·rw [h1]
   dsimp only
   by_cases hh:hashAt i=h
   ·rw [if_pos (beq_iff_eq.mpr hh)]
    exact⟨_,rfl,.u7 _ _ _ n h1 hh (pF p) (by omega) he ⟨1,rfl⟩⟩
   ·rw [if_neg (by rw [beq_iff_eq];exact hh)]
    obtain⟨met,e,m⟩:=ih f (t.advance p) (by omega) he
    refine⟨met,e,?_⟩
    have hdm:=pF (t:=t) p
    cases m with
    | empty j a b c =>
     rw [hdm]
     obtain⟨k,rfl⟩:=c
     exact .empty _ a b ⟨k+1,rfl⟩
    | u7 j i next n' a b c d e' f =>
     obtain⟨k,rfl⟩:=f
     exact .u7 _ _ _ n' a b (c.trans hdm) (by omega) e' ⟨k+1,rfl⟩
end
theorem sub_len:∀ {l m:List Nat},l.Nodup->(∀ x ∈ l,x ∈ m)->l.length<=m.length
 | [],m,_,_=>Nat.zero_le _
 | x :: l,m,nd,h=>by
  have nd:=List.nodup_cons.mp nd
  have hx:=h x List.mem_cons_self
  have:=sub_len (l:=l) (m:=m.erase x) nd.2 fun y hy=>(List.mem_erase_of_ne (show y ≠ x from fun z=>nd.1 (z ▸ hy))).mpr (h y (List.mem_cons_of_mem _ hy))
  rw [List.length_erase_of_mem hx] at this
  have:=List.length_pos_of_mem hx
  rw [List.length_cons]
  omega
theorem yK {m:List Nat} {N:Nat} (h:m.length < N):∃ j,j < N/\j ∉ m:=by
 apply Classical.byContradiction
 intro z
 have:=sub_len (l:=List.range N) (m:=m) List.nodup_range fun x hx=>by
  apply Classical.byContradiction
  intro y
  exact z ⟨x,List.mem_range.mp hx,y⟩
 rw [List.length_range] at this
 omega
theorem va {t:SetTable} (F:Full (t.mask+1)) (hd:t.dummies = #[]) (hf:t.place.size<=t.mask) (p:SetTable.Probe) (hm:p.more<=9) (hp:p.perturb < 32 ^ 13):∃ n,n < 10 * SetTable.turns t.mask/\t.slot (dh t n p).j=.empty:=by
 obtain⟨j,hj,hn⟩:=yK (m:=t.place.toList) (N:=t.mask+1) (by rw [Array.length_toList];omega)
 obtain⟨n,h1,h2⟩:=Ak F hj p hm hp
 exact⟨n,h1,by rw [h2];exact yJ hd hn⟩
theorem vb {t:SetTable} (F:Full (t.mask+1)) (hd:t.dummies = #[]) (hf:t.place.size<=t.mask) (h:Int):∃ n,n < 10 * SetTable.turns t.mask/\t.slot (dh t n (t.probeStart h)).j=.empty :=
 va F hd hf _ (pD _ _) (uc h)
def gm (owner:Array (Option Nat)):Nat->Nat
 | 0=>0
 | n+1=>gm owner n+(if (owner.getD n none).isSome then 1 else 0)
theorem ue {owner:Array (Option Nat)} {j k:Nat} (hj:owner[j]? = some none):∀ N,gm (owner.setIfInBounds j (some k)) N=gm owner N+(if j < N then 1 else 0)
 | 0=>rfl
 | N+1=>by
  have hlt:j < owner.size:=(Array.getElem?_eq_some_iff.mp hj).1
  have ih:=ue (k:=k) hj N
  show gm _ N+_=gm owner N+_+_
  rw [ih]
  by_cases e:j=N
  ·subst e
   have e1:(owner.setIfInBounds j (some k)).getD j none=some k:=by
    rw [Array.getD_eq_getD_getElem?,Array.getElem?_setIfInBounds_self_of_lt hlt]
    rfl
   have e2:owner.getD j none=none:=by rw [Array.getD_eq_getD_getElem?,hj];rfl
   rw [e1,e2,if_neg (Nat.lt_irrefl _),if_pos (Nat.lt_succ_self _)]
   rfl
  ·have e1:(owner.setIfInBounds j (some k)).getD N none=owner.getD N none:=by
    rw [Array.getD_eq_getD_getElem?,Array.getD_eq_getD_getElem?,Array.getElem?_setIfInBounds_ne e]
   rw [e1]
   by_cases h:j < N
   ·rw [if_pos h,if_pos (show j < N+1 by omega)]
    omega
   ·rw [if_neg h,if_neg (show ¬ j < N+1 by omega)]
    omega
theorem rG {owner:Array (Option Nat)}:∀ N,gm owner N < N->∃ j,j < N/\owner.getD j none=none
 | 0,h=>by cases h
 | N+1,h=>by
  by_cases e:owner.getD N none=none
  ·exact⟨N,by omega,e⟩
  ·have h1:(owner.getD N none).isSome=true:=by
    cases hh:owner.getD N none with
    | none=>exact absurd hh e
    | some _=>rfl
   have h2:gm owner (N+1)=gm owner N+1:=by
    show _+_=_
    rw [h1]
    rfl
   obtain⟨j,g1,g2⟩:=rG (owner:=owner) N (by omega)
   exact⟨j,by omega,g2⟩
theorem xb {owner:Array (Option Nat)} {mask:Nat}:∀ (m fuel i p:Nat),m < fuel->owner[(ub mask m (i,p)).1]? = some none->∃ j,SetTable.layClean.free mask owner fuel i p=some j/\owner[j]? = some none:=by
 intro m
 induction m with
 | zero =>
  intro fuel i p hf he
  obtain⟨f,rfl⟩:∃ f,fuel=f+1:=⟨fuel - 1,by omega⟩
  have he:owner[i]? = some none:=he
  unfold SetTable.layClean.free
  cases hh:(List.range (SetTable.runEnd mask i+1 - i)).find? fun k=>(owner.getD (i+k) (some 0)).isNone with
  | some k =>
   have:=List.find?_some hh
   refine⟨_,rfl,?_⟩
   rw [Array.getD_eq_getD_getElem?] at this
   cases e:owner[i+k]? with
   | none=>rw [e] at this;cases this
   | some o =>
    rw [e] at this
    cases o with
    | none=>rfl
    | some _=>cases this
  | none =>
   have h1:=List.find?_eq_none.mp hh 0 (List.mem_range.mpr (by unfold SetTable.runEnd;split <;> omega))
   rw [Array.getD_eq_getD_getElem?,Nat.add_zero,he] at h1
   exact absurd rfl h1
 | succ m ih =>
  intro fuel i p hf he
  obtain⟨f,rfl⟩:∃ f,fuel=f+1:=⟨fuel - 1,by omega⟩
  unfold SetTable.layClean.free
  cases hh:(List.range (SetTable.runEnd mask i+1 - i)).find? fun k=>(owner.getD (i+k) (some 0)).isNone with
  | some k =>
   have:=List.find?_some hh
   refine⟨_,rfl,?_⟩
   rw [Array.getD_eq_getD_getElem?] at this
   cases e:owner[i+k]? with
   | none=>rw [e] at this;cases this
   | some o =>
    rw [e] at this
    cases o with
    | none=>rfl
    | some _=>cases this
  | none=>exact ih f _ _ (by omega) he
structure jh (N k:Nat) (owner:Array (Option Nat)):Prop where
 size:owner.size=N
 cnt:gm owner N=k
 low:∀ j m:Nat,owner[j]? = some (some m)->m < k
theorem jh.fresh (N:Nat):jh N 0 (Array.replicate N none):=by
 refine⟨Array.size_replicate,?_,fun j m h=>?_⟩
 ·have:∀ n,gm (Array.replicate N none) n=0:=fun n=>by
   induction n with
   | zero=>rfl
   | succ n ih =>
    show gm _ n+_=0
    rw [ih,Array.getD_eq_getD_getElem?,Array.getElem?_replicate]
    split <;> rfl
  exact this N
 ·rw [Array.getElem?_replicate] at h
  split at h <;> cases h
theorem jh.next {mask k:Nat} {owner:Array (Option Nat)} (F:Full (mask+1)) (O:jh (mask+1) k owner) (hk:k < mask+1) (h:Int):∃ j,SetTable.layClean.free mask owner (SetTable.turns mask) (SetTable.bits h % (mask+1)) (SetTable.bits h)=some j/\jh (mask+1) (k+1) (owner.setIfInBounds j (some k)):=by
 obtain⟨e,he,hn⟩:=rG (owner:=owner) (mask+1) (by rw [O.cnt];exact hk)
 obtain⟨m,h1,h2⟩:=n9 F he 13 (SetTable.bits h % (mask+1)) (SetTable.bits h) (Nat.mod_lt _ F.pos) (uc h)
 have hget:owner[e]? = some none:=by
  have hs:=O.size
  rw [Array.getD_eq_getD_getElem?,Array.getElem?_eq_getElem (by omega)] at hn
  rw [Array.getElem?_eq_getElem (by omega)]
  exact congrArg some hn
 obtain⟨j,g1,g2⟩:=xb m (SetTable.turns mask) (SetTable.bits h % (mask+1)) (SetTable.bits h) (by unfold SetTable.turns;omega) (by rw [h2];exact hget)
 have hj:j < owner.size:=(Array.getElem?_eq_some_iff.mp g2).1
 refine⟨j,g1,by rw [Array.size_setIfInBounds];exact O.size,?_,fun i m h=>?_⟩
 ·rw [ue g2,O.cnt,if_pos (by rw [<-O.size];exact hj)]
 ·by_cases e:j=i
  ·subst e
   rw [Array.getElem?_setIfInBounds_self_of_lt hj] at h
   cases h
   omega
  ·rw [Array.getElem?_setIfInBounds_ne e] at h
   have:=O.low i m h
   omega
theorem yL {mask:Nat} (F:Full (mask+1)) (hs:Array Int) (hn:hs.size<=mask):∃ owner,SetTable.layClean mask hs=some owner/\jh (mask+1) hs.size owner:=by
 unfold SetTable.layClean
 rw [<-Array.foldl_toList]
 have go:∀ (l:List Int) (owner:Array (Option Nat)) (k:Nat),jh (mask+1) k owner->k+l.length<=mask->∃ o2,l.foldl (fun (acc:Option (Array (Option Nat) × Nat)) h=>do
   let (owner,k) <-acc
   let j <-SetTable.layClean.free mask owner (SetTable.turns mask) (SetTable.bits h % (mask+1)) (SetTable.bits h)
   pure (owner.setIfInBounds j (some k),k+1)) (some (owner,k))=some (o2,k+l.length)/\jh (mask+1) (k+l.length) o2:=by
  intro l
  induction l with
  | nil=>intro owner k O _;exact⟨owner,rfl,O⟩
  | cons h l ih =>
   intro owner k O hk
   rw [List.length_cons] at hk
   obtain⟨j,e,O2⟩:=O.next F (by omega) h
   obtain⟨o2,e2,O3⟩:=ih _ (k+1) O2 (by omega)
   refine⟨o2,?_,?_⟩
   ·rw [List.foldl_cons]
    show l.foldl _ (Option.bind (SetTable.layClean.free mask owner (SetTable.turns mask) (SetTable.bits h % (mask+1)) (SetTable.bits h)) fun j=>some (owner.setIfInBounds j (some k),k+1))=_
    rw [e]
    show l.foldl _ (some (owner.setIfInBounds j (some k),k+1))=_
    rw [e2,List.length_cons,Nat.add_right_comm,Nat.add_assoc]
   ·rw [List.length_cons,show k+(l.length+1)=k+1+l.length by omega]
    exact O3
 obtain⟨o2,e,O⟩:=go hs.toList (Array.replicate (mask+1) none) 0 (jh.fresh _) (by rw [Array.length_toList];omega)
 rw [Nat.zero_add,Array.length_toList] at e O
 exact⟨o2,by rw [e];rfl,O⟩
theorem rH (owner:Array (Option Nat)):∀ n,((List.range n).filterMap fun j=>(owner.getD j none).map (j,·)).length=gm owner n
 | 0=>rfl
 | n+1=>by
  rw [List.range_succ,List.filterMap_append,List.length_append,rH owner n]
  show _+_=_+_
  congr 1
  cases h:owner.getD n none with
  | none=>rw [List.filterMap_cons,h];rfl
  | some x=>rw [List.filterMap_cons,h];rfl
theorem xc {mask finger moves:Nat} {led plain:Bool} (F:Full (mask+1)) (hs:Array Int) (hn:hs.size<=mask):∃ t order,SetTable.laid mask finger moves led plain hs=some (t,order)/\t.mask=mask/\t.dummies = #[]/\t.led=led/\t.place.size=hs.size/\order.size=hs.size/\∀ i ∈ order.toList,i < hs.size:=by
 obtain⟨owner,e,O⟩:=yL F hs hn
 unfold SetTable.laid
 rw [e]
 have h1:=rH owner (mask+1)
 rw [O.cnt] at h1
 refine⟨_,_,rfl,rfl,rfl,rfl,?_,?_,fun i hi=>?_⟩
 ·show (List.toArray _).size=_
  rw [List.size_toArray,List.length_map]
  exact h1
 ·show (List.toArray _).size=_
  rw [List.size_toArray,List.length_map]
  exact h1
 ·obtain⟨⟨j,m⟩,hm,rfl⟩:=List.mem_map.mp hi
  obtain⟨j',_,hj⟩:=List.mem_filterMap.mp hm
  cases hh:owner.getD j' none with
  | none=>rw [hh] at hj;cases hj
  | some x =>
   rw [hh] at hj
   cases hj
   refine O.low j m ?_
   rw [Array.getD_eq_getD_getElem?] at hh
   cases e2:owner[j]? with
   | none=>rw [e2] at hh;cases hh
   | some o=>rw [e2] at hh;exact congrArg some hh
open PySem.Spec PyProof.Rows L2
section
variable {prog:Program} {w:World} {E:Value->Shared->Prop}
mutual
theorem kf:∀ (d:PyData) (v:Value) (as:List Addr) (A:Around) (s:Shared) (n:Nat) (Q:Bool->Shared->Prop),cQ d=true->Reads s.heap v d as->d.depth<=n->Q false s->wpAny (model prog w) A (ofAClassStatement n v) Q E s
 | .none,_,_,A,s,n,Q,_,x,_,h=>by cases x;unfold ofAClassStatement;exact wpAny_pure h
 | .int i,_,_,A,s,n,Q,_,x,_,h=>by cases x;unfold ofAClassStatement;exact wpAny_pure h
 | .str y,_,_,A,s,n,Q,_,x,_,h=>by cases x;unfold ofAClassStatement;exact wpAny_pure h
 | .tuple xs,_,_,A,s,n,Q,hk,x,hn,h=>by
  cases x with
  | @tuple a o vs n' _ _ hg hc hd hw =>
   have hn:PyData.depthAll xs+1<=n:=hn
   obtain⟨n,rfl⟩:∃ m,n=m+1:=⟨n - 1,by omega⟩
   have hT:s.TypeIs (.ref a) "tuple" := ⟨_,hg,hc⟩
   unfold ofAClassStatement
   refine wpAny_bind (wpAny_typeOf hT ?_)
   dsimp only
   rw [if_pos (show ("tuple" == "tuple")=true by decide)]
   refine wpAny_bind (wpAny_pure ?_)
   simp only [Bool.not_true,Bool.false_eq_true,if_false]
   refine wpAny_bind (wpAny_seqItems hg hd ?_)
   dsimp only
   refine wpAny_bind ?_
   show wpAny _ _ (forIn vs _ _) _ _ s
   rw [<-Array.forIn_toList]
   have hall:=plain_all xs vs.toList _ A s n hk hw (by omega)
   refine wpAny_forIn_list _ (fun rest r s'=>r.1=none/\s' = s/\∀ v ∈ rest,∀ Q:Bool->Shared->Prop,Q false s->wpAny (model prog w) A (ofAClassStatement n v) Q E s) _ ?_ ?_ _ _ ⟨rfl,rfl,hall⟩
   ·rintro v rest r s' ⟨hr,rfl,hq⟩
    refine wpAny_bind (hq v List.mem_cons_self _ ?_)
    simp only [Bool.false_eq_true,if_false]
    exact wpAny_pure ⟨rfl,rfl,fun u hu'=>hq u (List.mem_cons_of_mem _ hu')⟩
   ·rintro⟨r1,r2⟩ s' ⟨hr,rfl,_⟩
    simp only at hr
    subst hr
    exact wpAny_pure h
 | .bool _,_,_,_,_,_,_,hk,_,_,_ | .list _,_,_,_,_,_,_,hk,_,_,_ | .dict _,_,_,_,_,_,_,hk,_,_,_=>by cases hk
theorem plain_all:∀ (xs:List PyData) (vs:List Value) (as:List Addr) (A:Around) (s:Shared) (n:Nat),cf xs=true->ReadsAll s.heap vs xs as->PyData.depthAll xs<=n->∀ v ∈ vs,∀ Q:Bool->Shared->Prop,Q false s->wpAny (model prog w) A (ofAClassStatement n v) Q E s
 | [],_,_,A,s,n,_,x,_=>by cases x;intro v hv;cases hv
 | k :: xs,_,_,A,s,n,hk,x,hn=>by
  cases x with
  | cons x1 x2 =>
   have hk:(cQ k && cf xs)=true:=hk
   rw [Bool.and_eq_true] at hk
   have hn:max k.depth (PyData.depthAll xs)<=n:=hn
   intro v hv Q h
   rcases List.mem_cons.mp hv with rfl | hv
   ·exact kf k _ _ A s n Q hk.1 x1 (by omega) h
   ·exact plain_all xs _ _ A s n hk.2 x2 (by omega) v hv Q h
end
mutual
theorem pG:∀ (d:PyData) (v:Value) (as:List Addr) (A:Around) (s:Shared) (n:Nat) (Q:Bool->Shared->Prop),cQ d=true->Reads s.heap v d as->(∀ b,Q b s)->wpAny (model prog w) A (hashByValue n v) Q E s
 | .none,_,_,A,s,n,Q,_,x,h=>by cases x;unfold hashByValue;exact wpAny_pure (h _)
 | .int i,_,_,A,s,n,Q,_,x,h=>by cases x;unfold hashByValue;exact wpAny_pure (h _)
 | .str y,_,_,A,s,n,Q,_,x,h=>by cases x;unfold hashByValue;exact wpAny_pure (h _)
 | .tuple xs,_,_,A,s,n,Q,hk,x,h=>by
  cases x with
  | @tuple a o vs n' _ _ hg hc hd hw =>
   cases n with
   | zero=>unfold hashByValue;exact wpAny_pure (h _)
   | succ n =>
    have hT:s.TypeIs (.ref a) "tuple" := ⟨_,hg,hc⟩
    unfold hashByValue
    refine wpAny_bind (wpAny_specialOf hT F.slot_tuple_hash.lookup ?_)
    dsimp only
    refine wpAny_bind (wpAny_seqItems hg hd ?_)
    refine wpAny_bind ?_
    show wpAny _ _ (forIn vs _ _) _ _ s
    rw [<-Array.forIn_toList]
    have hall:=pH xs vs.toList _ A s n hk hw
    refine wpAny_forIn_list _ (fun rest r s'=>r.1=none/\s' = s/\∀ v ∈ rest,∀ Q:Bool->Shared->Prop,(∀ b,Q b s)->wpAny (model prog w) A (hashByValue n v) Q E s) _ ?_ ?_ _ _ ⟨rfl,rfl,hall⟩
    ·rintro v rest r s' ⟨hr,rfl,hq⟩
     refine wpAny_bind (hq v List.mem_cons_self _ fun b=>?_)
     cases b
     ·exact wpAny_pure (wpAny_pure (h _))
     ·exact wpAny_pure ⟨rfl,rfl,fun u hu'=>hq u (List.mem_cons_of_mem _ hu')⟩
    ·rintro⟨r1,r2⟩ s' ⟨hr,rfl,_⟩
     simp only at hr
     subst hr
     exact wpAny_pure (h _)
 | .bool _,_,_,_,_,_,_,hk,_,_ | .list _,_,_,_,_,_,_,hk,_,_ | .dict _,_,_,_,_,_,_,hk,_,_=>by cases hk
theorem pH:∀ (xs:List PyData) (vs:List Value) (as:List Addr) (A:Around) (s:Shared) (n:Nat),cf xs=true->ReadsAll s.heap vs xs as->∀ v ∈ vs,∀ Q:Bool->Shared->Prop,(∀ b,Q b s)->wpAny (model prog w) A (hashByValue n v) Q E s
 | [],_,_,A,s,n,_,x=>by cases x;intro v hv;cases hv
 | k :: xs,_,_,A,s,n,hk,x=>by
  cases x with
  | cons x1 x2 =>
   have hk:(cQ k && cf xs)=true:=hk
   rw [Bool.and_eq_true] at hk
   intro v hv Q h
   rcases List.mem_cons.mp hv with rfl | hv
   ·exact pG k _ _ A s n Q hk.1 x1 h
   ·exact pH xs _ _ A s n hk.2 x2 v hv Q h
end
end
section
variable {prog:Program} {w:World} {A:Around} {E:Value->Shared->Prop} {s:Shared} {a x:Addr} {ds:List PyData} {d:PyData} {o:Obj} {es:Array (Int × Value)} {ep:Nat} {t:SetTable} {h:Heap}
def og (w:World) (h:Heap) (ds:List PyData) (e:Int × Value):Prop:=∃ d ∈ ds,∃ (b:Addr),e=(dZ w d,.ref b)/\dB d/\∃ as,Reads h (.ref b) d as
structure DS (w:World) (h:Heap) (a:Addr) (ds:List PyData) (o:Obj) (es:Array (Int × Value)) (ep:Nat) (t:SetTable):Prop where
 at_:h.get? a=some o
 ex:o.ExactSet
 data:o.data=.set es ep t
 ents:∀ e ∈ es.toList,og w h ds e
 len:es.size=ds.length
 size:t.place.size=es.size
 dm:t.dummies = #[]
 mask:t.mask=7\/t.mask=31\/t.mask=127\/t.mask=511\/t.mask=2047
 low:es.size<=t.mask
theorem pI {m:Nat} (h:m=7\/m=31\/m=127\/m=511\/m=2047):Full (m+1):=by
 rcases h with rfl | rfl | rfl | rfl | rfl
 ·exact Ce
 ·exact By
 ·exact Ai
 ·exact Aj
 ·exact yI
theorem DS.full (S:DS w h a ds o es ep t):Full (t.mask+1):=pI S.mask
theorem DS.fits (S:DS w h a ds o es ep t):t.fits es.size=true:=by
 unfold SetTable.fits SetTable.fill
 rw [S.size,S.dm]
 have:=S.low
 simp
 exact this
theorem DS.way (S:DS w h a ds o es ep t):t.gaveWay=false:=by
 unfold SetTable.gaveWay
 rcases S.mask with e | e | e | e | e <;> rw [e] <;> rfl
theorem yM {y:Value} {l:List Value} (hx:(bP prog w).is s.heap d x) (hl:∀ y ∈ l,∃ (e:PyData) (b:Addr),y=.ref b/\(bP prog w).is s.heap e b) {Q:Bool->Shared->Prop} (q:Q false s):wpAny (model prog w) A (searchCouldBeSeen (.ref x) l) Q E s:=by
 unfold searchCouldBeSeen
 refine wpAny_bind ?_
 refine wpAny_forIn_list _ (fun rest r s'=>r.1=none/\s' = s/\∀ y ∈ rest,∃ (e:PyData) (b:Addr),y=.ref b/\(bP prog w).is s.heap e b) _ ?_ ?_ _ _ ⟨rfl,rfl,hl⟩
 ·rintro v rest r s' ⟨hr,rfl,hq⟩
  obtain⟨e,b,rfl,⟨ke,as,re⟩⟩:=hq v List.mem_cons_self
  obtain⟨kx,bs,rx⟩:=hx
  have fin:r.1=none/\s' = s'/\∀ y ∈ rest,∃ (e:PyData) (b:Addr),y=.ref b/\(bP prog w).is s'.heap e b:=⟨hr,rfl,fun u hu'=>hq u (List.mem_cons_of_mem _ hu')⟩
  dsimp only
  split
  ·exact wpAny_pure ⟨rfl,fin.2⟩
  ·have d1:=kx.dep
   have d2:=ke.dep
   refine wpAny_bind (ik _ _ _ _ _ _ _ kx.key rx (by omega) ?_)
   simp only [Bool.not_true,Bool.false_eq_true,if_false]
   refine wpAny_bind (ik _ _ _ _ _ _ _ ke.key re (by omega) ?_)
   simp only [Bool.not_true,Bool.false_eq_true,if_false]
   refine wpAny_bind (kf _ _ _ _ _ _ _ kx.key rx (by omega) ?_)
   simp only [Bool.false_eq_true,if_false]
   refine wpAny_bind (kf _ _ _ _ _ _ _ ke.key re (by omega) ?_)
   simp only [Bool.false_eq_true,if_false]
   exact wpAny_pure ⟨rfl,fin.2⟩
 ·rintro⟨r1,r2⟩ s' ⟨hr,rfl,_⟩
  simp only at hr
  subst hr
  exact wpAny_pure q
theorem Bz {t:SetTable} {n:Nat} {p:SetTable.Probe} (hd:t.dummies = #[]) (ht:n < 10 * SetTable.turns t.mask) (he:t.slot (dh t n p).j=.empty) {f:Nat->Int} {h:Int} {met:SetTable.Met} (e:t.probe f h p=some met):qc t f h p n met:=by
 obtain⟨m,e1,e2⟩:=ud (t:=t) hd (hashAt:=f) (h:=h) n (10 * SetTable.turns t.mask) p ht he
 have e:SetTable.probe.go t f h (10 * SetTable.turns t.mask) p=some met:=e
 rw [e] at e1
 cases e1
 exact e2
theorem yN {t:SetTable} {n:Nat} {p:SetTable.Probe} (hd:t.dummies = #[]) (ht:n < 10 * SetTable.turns t.mask) (he:t.slot (dh t n p).j=.empty) {f:Nat->Int} {h:Int}:t.probe f h p ≠ none:=fun e=>by
 obtain⟨m,e1,e2⟩:=ud (t:=t) hd (hashAt:=f) (h:=h) n (10 * SetTable.turns t.mask) p ht he
 have e:SetTable.probe.go t f h (10 * SetTable.turns t.mask) p=none:=e
 rw [e] at e1
 cases e1
theorem vc (hu:A.units+64 < cLine) (hx:(bP prog w).is s.heap d x) (hn:d ∉ ds) (S:DS w s.heap a ds o es ep t) {Q:SetFound->Shared->Prop} (q:∀ j,t.place[SetTable.below t.place j]? ≠ some j->Q (.free j false) s) :
  ∀ (n F:Nat) (st:Option SetTable.Probe) (p:SetTable.Probe),st.getD (t.probeStart (dZ w d))=p->n < F->n < 10 * SetTable.turns t.mask->p.dummy=none->t.slot (dh t n p).j=.empty ->
   wpAny (model prog w) A (setSearchFrom a (.ref x) (dZ w d) true F st) Q E s:=by
 intro n
 induction n using Nat.strongRecOn with
 | ind n ih =>
  intro F st p hst hF ht hp he
  obtain⟨F,rfl⟩:∃ f,F=f+1:=⟨F - 1,by omega⟩
  unfold setSearchFrom
  refine wpAny_bind (wpAny_setState_of S.at_ S.data S.fits ?_)
  dsimp only
  rw [S.way]
  simp only [Bool.false_eq_true,if_false]
  rw [hst]
  cases hpr:SetTable.probe t _ (dZ w d) p with
  | none=>exact absurd hpr (yN S.dm ht he)
  | some met =>
  have m:=Bz S.dm ht he hpr
  dsimp only
  cases m with
  | empty j h1 h2 h3 =>
   rw [hp]
   exact wpAny_pure (q j h2)
  | u7 j i next n' h1 h2 h3 h4 h5 h6 =>
   have hpl:t.place[i]? = some j:=by
    rcases jg S.dm j with ⟨z,_⟩ | ⟨i',z1,z2⟩
    ·rw [h1] at z;cases z
    ·rw [h1] at z1;cases z1;exact z2
   have hi:i < es.size:=by
    have:=(Array.getElem?_eq_some_iff.mp hpl).1
    rw [S.size] at this
    exact this
   have hei:es[i]? = some es[i]:=Array.getElem?_eq_getElem hi
   obtain⟨e0,he0,b,hb,hkb,hrb⟩:=S.ents es[i] (Array.getElem_mem_toList hi)
   have hne:e0 ≠ d:=fun z=>hn (z ▸ he0)
   have hes:es[i]? = some (dZ w e0,Value.ref b):=by rw [hei,hb]
   have hsm:t.sameMemory t.moves t.mask=some true:=by unfold SetTable.sameMemory;rw [if_pos (beq_self_eq_true _)]
   refine wpAny_ite ?_
   split
   ·refine wpAny_bind (yM (y:=.none) hx (fun y hy=>?_) ?_)
    ·obtain⟨e1,h7,rfl⟩:=List.mem_map.mp hy
     have h8:e1 ∈ es.toList:=by
      rw [Array.toList_filter] at h7
      exact (List.mem_filter.mp h7).1
     obtain⟨d1,_,b1,rfl,g1,g2⟩:=S.ents e1 h8
     exact⟨d1,b1,rfl,g1,g2⟩
    simp only [Bool.false_eq_true,if_false]
    rw [hes]
    dsimp only
    refine wpAny_bind (wpAny_holding ((bP prog w).eqBool (show A.units+64 < cLine from hu) ⟨hkb,hrb⟩ hx ?_))
    rw [decide_eq_false hne]
    refine wpAny_bind (wpAny_setState_of S.at_ S.data S.fits ?_)
    dsimp only
    simp only [Bool.and_false,Bool.false_eq_true,if_false]
    rw [hsm]
    dsimp only
    rw [if_pos rfl,h1]
    dsimp only
    rw [hes]
    dsimp only
    refine wpAny_bind (wpAny_isSame_ref_self (wpAny_bind (wpAny_pure ?_)))
    simp only [if_true]
    exact ih n' h4 F (some next) next rfl (by omega) (by omega) (h3.trans hp) h5
   ·rw [hes]
    dsimp only
    refine wpAny_bind (wpAny_holding ((bP prog w).eqBool (show A.units+64 < cLine from hu) ⟨hkb,hrb⟩ hx ?_))
    rw [decide_eq_false hne]
    refine wpAny_bind (wpAny_setState_of S.at_ S.data S.fits ?_)
    dsimp only
    simp only [Bool.and_false,Bool.false_eq_true,if_false]
    rw [hsm]
    dsimp only
    rw [if_pos rfl,h1]
    dsimp only
    rw [hes]
    dsimp only
    refine wpAny_bind (wpAny_isSame_ref_self (wpAny_bind (wpAny_pure ?_)))
    simp only [if_true]
    exact ih n' h4 F (some next) next rfl (by omega) (by omega) (h3.trans hp) h5
end
theorem rJ {α : Type} (xs:Array α) (p:Nat) (x:α):(SetTable.insertAt xs p x).size=xs.size+1:=by
 unfold SetTable.insertAt
 simp
 omega
theorem Al {α : Type} {xs:Array α} {p:Nat} {x y:α} (h:y ∈ (SetTable.insertAt xs p x).toList):y ∈ xs.toList\/y=x:=by
 unfold SetTable.insertAt at h
 rw [Array.toList_append,List.mem_append,Array.toList_push,List.mem_append,Array.toList_extract,Array.toList_extract] at h
 rcases h with (h | h) | h
 ·rw [List.extract_eq_drop_take] at h
  exact .inl (List.mem_of_mem_drop (List.mem_of_mem_take h))
 ·exact .inr (List.mem_singleton.mp h)
 ·rw [List.extract_eq_drop_take] at h
  exact .inl (List.mem_of_mem_drop (List.mem_of_mem_take h))
section
variable {prog:Program} {w:World} {A:Around} {E:Value->Shared->Prop} {s:Shared} {a x:Addr} {ds:List PyData} {d:PyData} {o:Obj} {es:Array (Int × Value)} {ep:Nat} {t:SetTable} {h:Heap}
theorem og.put {e:Int × Value} {es':Array (Int × Value)} {t':SetTable} (r:og w h ds e) (at_:h.get? a=some o) (hd:o.data=.set es ep t):og w (h.update a (Obj.putSet es' t')) ds e:=by
 obtain⟨d,h1,b,h2,h3,as,h4⟩:=r
 refine⟨d,h1,b,h2,h3,as,fo (fun c u n vs e1 e2=>?_) h4 h3.key⟩
 have hne:c ≠ a:=by
  rintro rfl
  rw [at_] at e1
  cases e1
  rw [hd] at e2
  cases e2
 exact ((Heap.SameBut.update h a (Obj.putSet es' t')).2 c hne).trans e1
theorem DS.store {es':Array (Int × Value)} {t':SetTable} {ds':List PyData} (S:DS w h a ds o es ep t) (he:∀ e ∈ es'.toList,og w h ds' e) (len:es'.size=ds'.length) (size:t'.place.size=es'.size) (dm:t'.dummies = #[])
  (mask:t'.mask=7\/t'.mask=31\/t'.mask=127\/t'.mask=511\/t'.mask=2047) (low:es'.size<=t'.mask):DS w (h.update a (Obj.putSet es' t')) a ds' { o with data:=.set es' (ep+1) t' } es' (ep+1) t' where
 at_:=by
  have q:=Heap.get?_update_self (Obj.putSet es' t') S.at_ (by rw [i9 S.data];rfl)
  rw [i9 S.data] at q
  exact q
 ex:=S.ex
 data:=rfl
 ents:=fun e h=>(he e h).put S.at_ S.data
 len:=len
 size:=size
 dm:=dm
 mask:=mask
 low:=low
def eE (w:World) (h:Heap) (a:Addr) (ds:List PyData):Prop:=∃ o es ep t,DS w h a ds o es ep t/\es.size * 5 < t.mask * 3
theorem yO {n m:Nat} (hm:m=7\/m=31\/m=127\/m=511\/m=2047) (h1:(n - 1) * 5 < m * 3) (h2:m * 3<=n * 5) (hn:n<=1000):∃ m',SetTable.sizeAbove (SetTable.grown n) - 1=m'/\(m' = 7\/m' = 31\/m' = 127\/m' = 511\/m' = 2047)/\n * 5 < m' * 3/\SetTable.sizeAbove (SetTable.grown n)<=sizeLine:=by
 rcases hm with rfl | rfl | rfl | rfl | rfl
 ·obtain rfl:n=5:=by omega
  exact⟨31,by decide +kernel,by omega,by omega,by decide +kernel⟩
 ·obtain rfl:n=19:=by omega
  exact⟨127,by decide +kernel,by omega,by omega,by decide +kernel⟩
 ·obtain rfl:n=77:=by omega
  exact⟨511,by decide +kernel,by omega,by omega,by decide +kernel⟩
 ·obtain rfl:n=307:=by omega
  exact⟨2047,by decide +kernel,by omega,by omega,by decide +kernel⟩
 ·omega
theorem vd {es:Array (Int × Value)} {order:Array Nat} (h:∀ i ∈ order.toList,i < es.size):(order.filterMap (es[·]?)).size=order.size:=by
 rw [<-Array.length_toList,Array.toList_filterMap,<-Array.length_toList (xs:=order)]
 generalize order.toList=l at h
 induction l with
 | nil=>rfl
 | cons i l ih =>
  have hi:=h i List.mem_cons_self
  rw [List.filterMap_cons,Array.getElem?_eq_getElem hi]
  show _+1=_+1
  rw [ih fun j hj=>h j (List.mem_cons_of_mem _ hj)]
theorem xf {es:Array (Int × Value)} {order:Array Nat} {e:Int × Value} (h:e ∈ (order.filterMap (es[·]?)).toList):e ∈ es.toList:=by
 rw [Array.toList_filterMap] at h
 obtain⟨i,_,hi⟩:=List.mem_filterMap.mp h
 exact Array.mem_toList_iff.mpr (Array.mem_of_getElem? hi)
theorem Cf {Q:Unit->Shared->Prop} (S:DS w s.heap a ds o es ep t) (h1:(es.size - 1) * 5 < t.mask * 3) (h2:t.mask * 3<=es.size * 5) (hn:es.size<=1000)
  (q:∀ h',Heap.SameBut a s.heap h'->eE w h' a ds->Q () { s with heap:=h' }):wpAny (model prog w) A (setRelay a (SetTable.grown es.size)) Q E s:=by
 obtain⟨m',e1,hm',hroom,hz⟩:=yO S.mask h1 h2 hn
 unfold setRelay
 refine wpAny_bind (wpAny_setState_of S.at_ S.data S.fits ?_)
 dsimp only
 rw [if_neg (by omega)]
 obtain⟨t',order,e2,g1,g2,g3,g4,g5,g6⟩:=xc (mask:=m') (finger:=t.finger) (moves:=t.movedTo m') (led:=t.led) (plain:=t.plain) (pI hm') (es.map (·.1)) (by rw [Array.size_map];omega)
 have e3:t.relaid (es.map (·.1)) (SetTable.grown es.size)=some (t',order):=by
  unfold SetTable.relaid
  rw [e1]
  exact e2
 rw [e3]
 rw [Array.size_map] at g4 g5 g6
 have hsz:(order.filterMap (es[·]?)).size=es.size:=by rw [vd g6,g5]
 refine wpAny_bind ?_
 show wpAny _ _ (if ((order.filterMap (es[·]?)).size != es.size)=true then (unsupported (α:=PUnit) "internal:set-table-lost-an-element" >>= fun _=>pure (order.filterMap (es[·]?),t')) else pure (order.filterMap (es[·]?),t')) _ _ _
 rw [if_neg (by rw [hsz];simp)]
 refine wpAny_pure ?_
 dsimp only
 refine wpAny_storeSet_of S.at_ S.data ?_ (Nat.le_of_lt (fh (by omega)))
 refine q _ (Heap.SameBut.update s.heap a _) ⟨_,_,_,_,S.store (ds':=ds) (fun e he=>S.ents e (xf he)) (by rw [hsz];exact S.len) (by rw [g4,hsz]) g2 (by rw [g1];exact hm') (by rw [g1,hsz];omega),by rw [g1,hsz];exact hroom⟩
theorem Am (hu:A.units+64 < cLine) (hx:(bP prog w).is s.heap d x) (hn:d ∉ ds) (S:eE w s.heap a ds) (b0:ds.length < 1000) {Q:Bool->Shared->Prop}
  (q:∀ h',Heap.SameBut a s.heap h'->eE w h' a (ds ++ [d])->Q true { s with heap:=h' }):wpAny (model prog w) A (setAddHashed a (.ref x) (dZ w d)) Q E s:=by
 obtain⟨o,es,ep,t,S,room⟩:=S
 unfold setAddHashed setAddHashedIn
 refine wpAny_holding (wpAny_bind (wpAny_setState_of S.at_ S.data S.fits ?_))
 dsimp only
 have hsc:byScan (.ref x) es=false:=rfl
 rw [hsc]
 simp only [Bool.false_eq_true,if_false]
 obtain⟨n,h1,h2⟩:=vb S.full S.dm (by rw [S.size];exact S.low) (dZ w d)
 have hturn:10 * SetTable.turns t.mask<=100000:=by
  unfold SetTable.turns
  rcases S.mask with e | e | e | e | e <;> rw [e] <;> decide
 refine wpAny_bind (vc hu hx hn S (fun j hj=>?_) n 100000 none _ rfl (by omega) h1 rfl h2)
 dsimp only
 refine wpAny_bind (wpAny_setState_of S.at_ S.data S.fits ?_)
 dsimp only
 have hpd:(t.put j).1.dummies = #[]:=by
  show (if SetTable.has t.dummies j then _ else t.dummies) = #[]
  rw [S.dm]
  rfl
 have hpp:(t.put j).1.place.size=es.size+1:=by
  show (SetTable.insertAt t.place _ j).size=_
  rw [rJ,S.size]
 have hpm:(t.put j).1.mask=t.mask:=rfl
 generalize hL:t.put j=L at hpd hpp hpm
 obtain⟨t1,p⟩:=L
 dsimp only at hpd hpp hpm ⊢
 have ents:∀ e ∈ (SetTable.insertAt es p (dZ w d,Value.ref x)).toList,og w s.heap (ds ++ [d]) e:=fun e he=>by
  rcases Al he with he | rfl
  ·obtain⟨d',g1,g⟩:=S.ents e he
   exact⟨d',List.mem_append_left _ g1,g⟩
  ·exact⟨d,by simp,x,rfl,hx.1,hx.2⟩
 have hlen:(SetTable.insertAt es p (dZ w d,Value.ref x)).size=es.size+1:=rJ _ _ _
 have hl:=S.len
 have tail:∀ (t2:SetTable),t2.mask=t.mask->t2.dummies = #[]->t2.place.size=es.size+1->wpAny (model prog w) A (storeSet a (SetTable.insertAt es p (dZ w d,Value.ref x)) t2 >>= fun _=>if (!false && t2.tooFull)=true then setRelay a (SetTable.grown (es.size+1)) >>= fun _=>pure true else pure true) Q E s:=fun t2 m1 m2 m3=>by
  refine wpAny_bind (wpAny_storeSet_of S.at_ S.data ?_ (Nat.le_of_lt (fh (by omega))))
  have hmk:=S.mask
  have S1:=S.store (ds':=ds ++ [d]) ents (by rw [hlen,List.length_append,hl];rfl) (by rw [m3,hlen]) m2 (by rw [m1];exact hmk) (by rw [m1,hlen];omega)
  have b1:=Heap.SameBut.update s.heap a (Obj.putSet (SetTable.insertAt es p (dZ w d,Value.ref x)) t2)
  have tf:t2.tooFull=decide ((es.size+1) * 5 >= t.mask * 3):=by
   unfold SetTable.tooFull SetTable.fill
   rw [m1,m2,m3]
   rfl
  by_cases hc:(es.size+1) * 5 >= t.mask * 3
  ·rw [tf,decide_eq_true hc,if_pos (by rfl)]
   have:=Cf (prog:=prog) (A:=A) (E:=E) (s:={ s with heap:=s.heap.update a (Obj.putSet (SetTable.insertAt es p (dZ w d,Value.ref x)) t2) }) (Q:=fun _ s'=>wpAny (model prog w) A (pure true) Q E s') S1 (by rw [hlen,m1];omega) (by rw [hlen,m1];omega) (by omega) (fun h' b2 SD=>wpAny_pure (q h' (b1.trans b2) SD))
   rw [hlen] at this
   exact wpAny_bind this
  ·rw [tf,decide_eq_false hc,if_neg (by decide)]
   exact wpAny_pure (q _ b1 ⟨_,_,_,_,S1,by rw [hlen,m1];omega⟩)
 refine wpAny_ite ?_
 split
 ·obtain⟨kx,as,rx⟩:=hx
  refine wpAny_bind (pG _ _ _ _ _ _ _ kx.key rx fun b=>?_)
  cases b
  ·exact tail { t1 with plain:=false } hpm hpd hpp
  ·exact tail t1 hpm hpd hpp
 ·refine wpAny_bind (wpAny_pure ?_)
  exact tail t1 hpm hpd hpp
theorem eE.keep {h':Heap} (S:eE w h a ds) (k:∀ c u,h.get? c=some u->(∃ n vs,u.data=.seq vs n)\/c=a->h'.get? c=some u):eE w h' a ds:=by
 obtain⟨o,es,ep,t,S,r⟩:=S
 refine⟨o,es,ep,t,{ S with at_:=k _ _ S.at_ (.inr rfl),ents:=fun e he=>?_ },r⟩
 obtain⟨d,h1,b,h2,h3,as,h4⟩:=S.ents e he
 exact⟨d,h1,b,h2,h3,as,fo (fun c u n vs e1 e2=>k c u e1 (.inl ⟨n,vs,e2⟩)) h4 h3.key⟩
theorem yP (hu:A.units+64 < cLine) (hx:(bP prog w).is s.heap d x) (hn:d ∉ ds) (S:eE w s.heap a ds) (b0:ds.length < 1000) {Q:Bool->Shared->Prop}
  (q:∀ h',Heap.SameBut a s.heap h'->eE w h' a (ds ++ [d])->Q true { s with heap:=h',toks:=s.toks+mX d }):wpAny (model prog w) A (setAdd a (.ref x)) Q E s:=by
 unfold setAdd
 refine wpAny_holding (wpAny_bind ((bP prog w).pyHash (show A.units+64 < cLine from hu) hx ?_))
 exact Am (s:={ s with toks:=s.toks+(bP prog w).draws d }) hu hx hn S b0 fun h' b S'=>q h' b S'
end
section
variable {prog:Program} {w:World} {A:Around} {E:Value->Shared->Prop} {s:Shared}
theorem ve {I L:Addr} {fp wr:List Addr} {G:Array GenState->Array GenState->Prop} {n:Nat} {P:Nat->Value->Prop} {St:Nat->Shared->Prop} {R:Result->Shared->Prop} (W:WalksS prog w A.in1 I fp wr G n P St) (hLf:L ∉ fp)
    (ds:List PyData) (hl:ds.length=n) (nd:ds.Nodup) (hb:n < 1000) (hu:A.in1.units+64 < cLine) (h0:Heap) (hm:∀ (i:Nat) (v:Value),P i v->∃ (d:PyData) (b:Addr),ds[i]? = some d/\v=Value.ref b/\(bP prog w).is h0 d b)
    (hnw:∀ i s,St i s->∀ c u k vs,s.heap.get? c=some u->u.data=.seq vs k->c ∉ wr) :
    ∀ (k i:Nat) (s:Shared),n - i=k->i<=n->St i s->eE w s.heap L (ds.take i)->(∀ c u k vs,h0.get? c=some u->u.data=.seq vs k->s.heap.get? c=some u) ->
      (∀ s',Moved (L :: wr) G s s'->eE w s'.heap L ds->R (.ok (.ret .none)) s') ->
      codeAny (model prog w) A (.builtin "set.update.loop" ⟨[.ref L,.ref I],[]⟩) R s:=by
  have hLw:L ∉ wr:=fun h=>hLf (W.sub _ h)
  intro k
  induction k with
  | zero =>
    intro i s hk hi st S kp q
    have e:i=n:=by omega
    subst e
    refine codeAny_builtin PyProof.Rows.F.entry_set_update_loop ?_
    rw [Around.under_plainId PyProof.Rows.F.plain_set_update_loop _]
    show wpAny _ A.in1 (pyNext (.ref I) >>= _) _ _ s
    refine wpAny_bind (W.done s _ _ st fun s' mv=>?_)
    refine wpAny_pure (q s' (mv.mono fun b hb=>List.mem_cons_of_mem _ hb) ?_)
    rw [List.take_of_length_le (by omega)] at S
    refine S.keep fun c u e h=>mv.heap c _ ?_ e
    rcases h with ⟨k,vs,e2⟩ | rfl
    · exact hnw _ s st c u k vs e e2
    · exact hLw
  | succ k ih =>
    intro i s hk hi st S kp q
    have hlt:i < n:=by omega
    refine codeAny_builtin PyProof.Rows.F.entry_set_update_loop ?_
    rw [Around.under_plainId PyProof.Rows.F.plain_set_update_loop _]
    show wpAny _ A.in1 (pyNext (.ref I) >>= _) _ _ s
    refine wpAny_bind (W.item i s _ _ hlt st fun v s' hP st' mv=>?_)
    obtain⟨d,b,hd,rfl,⟨kd,as,rd⟩⟩:=hm i v hP
    have kp':∀ c u k vs,h0.get? c=some u->u.data=.seq vs k->s'.heap.get? c=some u:=fun c u k vs e1 e2=>mv.heap c _ (hnw _ s st c u k vs (kp c u k vs e1 e2) e2) (kp c u k vs e1 e2)
    have S':eE w s'.heap L (ds.take i):=S.keep fun c u e h=>mv.heap c _ (by
      rcases h with ⟨k,vs,e2⟩ | rfl
      · exact hnw _ s st c u k vs e e2
      · exact hLw) e
    have hnd:d ∉ ds.take i:=fun z=>by
      obtain⟨j,ej⟩:=List.mem_iff_getElem?.mp z
      have hj:=(List.getElem?_eq_some_iff.mp ej).1
      have hj2:j < i:=by rw [List.length_take] at hj;omega
      rw [List.getElem?_take_of_lt hj2] at ej
      have:=(List.getElem?_inj (by omega) nd).mp (ej.trans hd.symm)
      omega
    refine wpAny_bind (wpAny_holding (yP hu ⟨kd,as,fo kp' rd kd.key⟩ hnd S' ?_ fun h' sb S2=>?_))
    · rw [List.length_take];omega
    · rw [show ds.take i ++ [d] = ds.take (i+1) by rw [List.take_add_one,hd];rfl] at S2
      have kl:∀ c u k vs,s'.heap.get? c=some u->u.data=.seq vs k->c ≠ L:=by
        rintro c u k vs e1 e2 rfl
        obtain⟨o,es,ep,t,D,_⟩:=S'
        rw [D.at_] at e1
        cases e1
        rw [D.data] at e2
        cases e2
      refine wpAny_pure ⟨plainId_quiet PyProof.Rows.F.plain_set_update_loop _,ih (i+1) _ (by omega) hlt (W.frame _ s' _ _ st' (Nat.le_add_right _ _) fun b hb o e=>?_) S2 (fun c u k vs e1 e2=>?_) fun s'' mv2 S3=>?_⟩
      · rw [sb.2 b (fun h:b=L=>hLf (by rw [<-h];exact hb))];exact e
      · exact (sb.2 c (kl c u k vs (kp' c u k vs e1 e2) e2)).trans (kp' c u k vs e1 e2)
      · refine q s'' (Moved.trans W.gtrans ((mv.mono fun b hb=>List.mem_cons_of_mem _ hb).then_heap (Nat.le_add_right _ _) fun b o hb e=>?_) mv2) S3
        rw [sb.2 b (fun h:b=L=>hb (by rw [h];exact List.mem_cons_self))];exact e
theorem vf {led:Bool} {h:Heap} {a:Addr} (at_:h.get? a=some { cls:=.type "set",dict:=none,data:=.set #[] 0 (.fresh 0 0 led) }):eE w h a [] :=
 ⟨_,#[],0,_,DS.mk at_ ⟨rfl,rfl,rfl⟩ rfl (fun e he=>nomatch he) rfl rfl rfl (.inl rfl) (Nat.zero_le _),(show 0 * 5 < 7 * 3 by decide)⟩
theorem set_tuple {l:Addr} {items:Array Value} {ds:List PyData} {Q:Value->Shared->Prop} (hh:A.handled=none) (hl:s.heap.IsTuple l items) (hu:A.units+80 < cLine) (nd:ds.Nodup) (hz:ds.length=items.size) (hb:items.size < 1000)
  (hm:∀ (i:Nat) (v:Value),items[i]? = some v->∃ (d:PyData) (b:Addr),ds[i]? = some d/\v=Value.ref b/\(bP prog w).is s.heap d b)
  (q:∀ h' tk,eE w h' s.heap.objs.size ds->(∀ b o,s.heap.get? b=some o->h'.get? b=some o)->Q (.ref s.heap.objs.size) { s with heap:=h',toks:=tk }):wpAny (model prog w) A (call (.type "set") [.ref l]) Q E s:=by
 refine lX (PySem.F.typeCall_set_1 _) (PySem.F.newCall_set_1 _) (fun M A E s' Q' hT q'=>check_set_init_1 hT q') fun R fin=>?_
 have hS:(s.heap.push (bK w)).get? s.heap.objs.size=some (bK w):=Heap.get?_push_size _ rfl
 have hT:Shared.TypeIs { s with heap:=s.heap.push (bK w) } (.ref s.heap.objs.size) "set" := ⟨_,hS,rfl⟩
 have hz':(s.heap.push (bK w)).objs.size=s.heap.objs.size+1:=Heap.size_push _ _
 obtain⟨ol,hol,hcl,nl,hdl⟩:=id hl
 obtain⟨ocls,odict,odata,oslots⟩:=ol
 simp only at hcl hdl
 subst hcl
 subst hdl
 have hol':(s.heap.push (bK w)).get? l=some { cls:=.type "tuple",dict:=odict,data:=.seq items nl,slots:=oslots }:=Heap.get?_push_of_some _ hol
 have hsls:=PySem.F.sub_tuple_set
 have hslf:=PySem.F.sub_tuple_frozenset
 have hne:(Value.type "tuple" == Value.type "dict")=false:=by decide
 have hl1:(s.heap.push (bK w)).IsTuple l items:=⟨_,hol',rfl,nl,rfl⟩
 have hlS:l < s.heap.objs.size:=Heap.lt_size hol
 unfold bK at hS hT hz' hol' hl1 ⊢
 unfold Builtin.«set.__init__» noKeywords Builtin.Frozenset.updateFrom
 generalize hPI:pyIter=PI
 wp_walk
 subst hPI
 refine wpAny_pyIter_tuple hl1 ?_
 refine wpAny_bind (wpAny_runValue ?_)
 have hh3:A.in1.in1.in1.handled=none:=by simp [hh]
 refine ve (L:=s.heap.objs.size) ((Walks.tuple hh3 _ l ?_ items).toS) ?_ ds hz nd hb ?_ s.heap (fun i v hv=>hm i v hv) ?_ (items.size - 0) 0 _ (by omega) (Nat.zero_le _) ⟨⟨_,Heap.get?_push_size _ rfl,rfl,rfl⟩,(hl1.push _)⟩ ?_ ?_ fun s' mv S'=>?_
 ·rw [hz'];exact Nat.ne_of_lt (Nat.lt_succ_of_lt hlS)
 ·rw [hz']
  intro hmem
  rcases iu hmem with e | e
  ·exact absurd e (Nat.ne_of_lt (Nat.lt_succ_self _))
  ·exact absurd e (Nat.ne_of_gt hlS)
 ·simp only [Around.in1_units]
  omega
 ·rintro i s1 ⟨⟨o1,e1,_,e2⟩,_⟩ c u k vs e3 e4 hmem
  have:=List.mem_singleton.mp hmem
  subst this
  rw [e1] at e3
  cases e3
  rw [e2] at e4
  cases e4
 ·exact vf (Heap.get?_push_of_some _ hS)
 ·exact fun c u k vs e _=>Heap.get?_push_of_some _ (Heap.get?_push_of_some _ e)
 ·obtain⟨h',g',d',tk',os'⟩:=s'
  have eg:g' = s.gens:=mv.gens
  have ed:d' = s.drawn:=mv.drawn
  have eo:os' = s.os:=mv.os
  subst eg;subst ed;subst eo
  have kp:∀ b o,s.heap.get? b=some o->h'.get? b=some o:=fun b o e=>mv.heap b o (fun hm=>by
   rcases iu hm with e' | e'
   ·exact absurd e' (Nat.ne_of_lt (Heap.lt_size e))
   ·rw [hz'] at e';exact absurd e' (Nat.ne_of_lt (Nat.lt_succ_of_lt (Heap.lt_size e)))) (Heap.get?_push_of_some _ (Heap.get?_push_of_some _ e))
  show wpAny _ _ _ _ _ _
  refine wpAny_pure ?_
  exact wpAny_pure (fin h' tk' kp (q h' tk' S' kp))
end
end LS
namespace L2
open PySem PySem.Spec PyProof.Rows LS
section
variable {X:Cx}
def vg (a:Addr) (n:Nat) (h:Heap):Prop:=∃ o es ep t,h.get? a=some o/\o.ExactSet/\o.data=.set es ep t/\t.fits es.size=true/\es.size=n
def me (a:Addr) (n:Nat):HO:=.ext (vg a n)
theorem An {P:Program} {w:World} {H:Hp} {h:Heap} {a:Addr} {n:Nat} (S:vg a n h):bC P w H h a (me a n) :=
 ⟨S,let ⟨o,_,_,_,e,_⟩:=S;⟨o,e⟩,fun h1 h2 ⟨o,es,ep,t,e,r⟩ k=>⟨o,es,ep,t,k o e,r⟩⟩
theorem eE.toN {w:World} {h:Heap} {a:Addr} {ds:List PyData} (S:eE w h a ds):vg a ds.length h :=
 let ⟨o,es,ep,t,D,_⟩:=S
 ⟨o,es,ep,t,D.at_,D.ex,D.data,D.fits,D.len⟩
theorem vh (hc:X.calm=true) (hu:X.A.units+80 < cLine):cJ X (.type "set") (fun vs H Q=>∃ (p:Addr) (us:List V) (ds:List PyData),vs = [.ref p]/\av X.K H p us/\aU H us ds/\(∀ d ∈ ds,dB d)/\ds.Nodup/\ds.length < 1000/\∀ l,H l=none->Q (.ref l) (upd H l (me l ds.length))):=by
 intro pins s σ H xs us Q I r h
 obtain⟨p,zs,ds,rfl,hp,rd,hk,nd,hz,q⟩:=h
 obtain⟨u,rfl,ru⟩:=vals1 r
 cases (show u=Value.ref p from ru)
 obtain⟨its,hv,pl,_⟩:=I.tuple hp
 have l1:=rd.len
 have l2:=hv.length
 refine LS.set_tuple (ds:=ds) (I.ok.hd hc) pl hu nd (by rw [List.size_toArray];omega) (by rw [List.size_toArray];omega) (fun i v hi=>?_) fun h' tk S kp=>?_
 ·have hi':its[i]? = some v:=by simpa using hi
  have hlt:=(List.getElem?_eq_some_iff.mp hi').1
  have hd:ds[i]? = some ds[i]:=List.getElem?_eq_getElem (by omega)
  obtain⟨x3,hx3,rx⟩:=rd.get hd
  obtain⟨u3,hu3,ru3⟩:=Vals.get hv hx3
  obtain rfl:v=u3:=Option.some.inj (hi'.symm.trans hu3)
  have kd:=hk _ (List.mem_of_getElem? hd)
  obtain⟨ys,ey⟩:=kd.tup
  have rx':=rx
  rw [ey] at rx'
  obtain⟨b,zs',rfl,_⟩:=aP.bx rx'
  obtain rfl:v=Value.ref b:=ru3
  exact⟨_,b,hd,rfl,key_is I kd rx⟩
 ·exact⟨.ref s.heap.objs.size,_,I.laid (t':=tk) kp (Nat.le_refl _) (An (eE.toN S)),rfl,q _ I.fresh⟩
theorem xg:cJ X (.builtin "len") (fun vs H Q=>∃ (a:Addr) (n:Nat),vs = [.ref a]/\H a=some (me a n)/\n < 1000/\Q (.int (n:Nat)) H):=by
 intro pins s σ H xs us Q I r h
 obtain⟨a,n,rfl,ha,hn,q⟩:=h
 obtain⟨u,rfl,ru⟩:=vals1 r
 cases (show u=Value.ref a from ru)
 obtain⟨o,es,ep,t,e,hex,hd,hf,rfl⟩:=(show vg a n s.heap from (I.aJ a _ ha).1)
 exact call_len_set e hex hd hf (by omega) ⟨.int es.size,H,I.tok _,⟨s.toks+1,rfl⟩,q⟩
end
section
variable {X:Cx} {tg:Expr}
end
open PySem.Builtin.Str PySem.Builtin PySem.StrLaws PySem.NumText
theorem oh:∀ ds:List PyData,(∀ d ∈ ds,d.canLay0=true)->(PyData.list ds).canLay0=true
 | [],_=>rfl
 | d :: ds,h=>by
  have ih:=oh ds fun x hx=>h x (List.mem_cons_of_mem _ hx)
  show (d.canLay0 && (PyData.list ds).canLay0)=true
  rw [h d (List.mem_cons_self ..),ih]
  rfl
section
variable {P:Program} {w:World} {K:PySem.W.Frag} {mg:Str->Option Value} {base h:Heap} {x q m:Str} {st:Stmt} {f C:Addr} {fd:FuncData} {k:Nat} {ps:List Str} {sp:Sp}
structure bp (K:PySem.W.Frag) (x:Str) (st:Stmt) (f:Addr) (fd:FuncData):Prop where
 a:PySem.W.nsIn K mainGlobals x=some (some (.ref f))
 F:bQ K x x st f fd
structure ng (K:PySem.W.Frag) (C:Addr) (x q:Str) (st:Stmt) (f:Addr) (fd:FuncData):Prop where
 a:PySem.W.findIn K (.ref C) x=some (some (.ref f))
 i:PySem.W.isFn K (.ref f)=true
 F:bQ K x q st f fd
section
variable {oc:Value} {od an:Option Addr} {osl:Array (Option Value)} {kV doc pm cdv ct:Value}
theorem def_mk (a:PySem.W.nsIn K mainGlobals x=some (some (.ref f))) (l:K.lookup f=some ⟨oc,od,.func (PySem.W.fnOf x x (cK st) (cx st) (au st) .none kV doc pm an cdv ct),osl⟩)
  (c:PySem.W.codeIn K cdv x=true) (k:PySem.W.keepIn K (.ref f)=true):bp K x st f (PySem.W.fnOf x x (cK st) (cx st) (au st) .none kV doc pm an cdv ct):=⟨a,vV l c k⟩
theorem met_mk (a:PySem.W.findIn K (.ref C) x=some (some (.ref f))) (i:PySem.W.isFn K (.ref f)=true) (l:K.lookup f=some ⟨oc,od,.func (PySem.W.fnOf x q (cK st) (cx st) (au st) .none kV doc pm an cdv ct),osl⟩)
  (c:PySem.W.codeIn K cdv q=true) (k:PySem.W.keepIn K (.ref f)=true):ng K C x q st f (PySem.W.fnOf x q (cK st) (cx st) (au st) .none kV doc pm an cdv ct):=⟨a,i,vV l c k⟩
end
def ji (x q:Str) (st:Stmt) (ps:List Str):Prop:=∀ (kV doc pm:Value) (an:Option Addr) (cdv ct:Value) (us:List Value),us.length=ps.length->bindArgs (PySem.W.fnOf x q (cK st) (cx st) (au st) .none kV doc pm an cdv ct) ⟨us,[]⟩=pure (ps.zip us)
theorem bf (P:Program) (w:World) (base:Heap) (X:K.In h) (G:h.Ns mainGlobals mg) (d:bp K x st f fd) (o:ba P w K mg base bN k f fd ps sp) (b:ji x x st ps):Own P w K mg base x k ps sp:=⟨⟨_,_,o,PySem.W.mg_of X G d.a,d.F.kp,d.F.binds b⟩⟩
theorem Ao (P:Program) (w:World) (base:Heap) (mg:Str->Option Value) (T:jM K C) (d:ng K C x q st f fd) (o:ba P w K mg base bN k f fd ps sp) (b:ji x q st ps):xZ P w K mg base C x k ps sp:=⟨T,⟨_,_,o,⟨d.a,d.i,d.F.kp⟩,d.F.binds b⟩⟩
theorem Ap (P:Program) (w:World) (base:Heap) (X:K.In h) (G:h.Ns mainGlobals mg) (aC:PySem.W.nsIn K mainGlobals m=some (some (.ref C))) (mk:PySem.W.makesIn K C=true) (kc:PySem.W.keepIn K (.ref C)=true) (d:ng K C "__init__" q st f fd) (o:ba P w K mg base bN k f fd ps sp) (b:ji "__init__" q st ps):x8 P w K mg base C m k ps sp:=⟨⟨_,_,o,⟨mk,d.a,d.i,kc⟩,PySem.W.mg_of X G aC,d.F.binds b⟩⟩
section
variable {p1 p2 p3 p4 p5 p6:Str}
theorem jC (h:∀ (kV doc pm:Value) (an:Option Addr) (cdv ct u1:Value),bindArgs (PySem.W.fnOf x q (cK st) (cx st) (au st) .none kV doc pm an cdv ct) ⟨[u1],[]⟩=pure [(p1,u1)]):ji x q st [p1]:=fun _ _ _ _ _ _ us hl=>match us,hl with | [_],_=>h ..
theorem fb (h:∀ (kV doc pm:Value) (an:Option Addr) (cdv ct u1 u2:Value),bindArgs (PySem.W.fnOf x q (cK st) (cx st) (au st) .none kV doc pm an cdv ct) ⟨[u1,u2],[]⟩=pure [(p1,u1),(p2,u2)]):ji x q st [p1,p2]:=fun _ _ _ _ _ _ us hl=>match us,hl with | [_,_],_=>h ..
theorem zr (h:∀ (kV doc pm:Value) (an:Option Addr) (cdv ct u1 u2 u3:Value),bindArgs (PySem.W.fnOf x q (cK st) (cx st) (au st) .none kV doc pm an cdv ct) ⟨[u1,u2,u3],[]⟩=pure [(p1,u1),(p2,u2),(p3,u3)]):ji x q st [p1,p2,p3]:=fun _ _ _ _ _ _ us hl=>match us,hl with | [_,_,_],_=>h ..
theorem Cs (h:∀ (kV doc pm:Value) (an:Option Addr) (cdv ct u1 u2 u3 u4:Value),bindArgs (PySem.W.fnOf x q (cK st) (cx st) (au st) .none kV doc pm an cdv ct) ⟨[u1,u2,u3,u4],[]⟩=pure [(p1,u1),(p2,u2),(p3,u3),(p4,u4)]):ji x q st [p1,p2,p3,p4]:=fun _ _ _ _ _ _ us hl=>match us,hl with | [_,_,_,_],_=>h ..
end
end
theorem cu {N ps:List Str} {sc:Scope} (h1:sc.kind=.function:=by rfl) (h2:sc.isCoroutine=false:=by rfl) (h3:sc.isGenerator=false:=by rfl) (h4:N.Nodup:=by decide +kernel) (h5:N.take ps.length=ps:=by rfl) (h6:∀ x ∈ ps,sc.names.lookup x=some .local\/sc.names.lookup x=some .cell:=by decide +kernel) (h7:∀ y ∈ sc.names,y.2 ≠ .free:=by decide +kernel):aM N ps sc:=⟨h1,h2,h3,h4,h5,h6,h7⟩
theorem aH {X:Cx} {x:Str} {k m:Nat} {ps:List Str} {sp:Sp} {e:Expr} {es:List Expr} {t:TA} {p pos:Pos} (o:Own X.prog X.w X.K X.mg X.base x k ps sp) (hr:cb m X.A) (ha:PA X (e :: es) t) (hk:k<=m:=by decide) (hg:Gl X x:=by rfl)
  (hdb:(x == ("__debug__" : Str))=false:=by decide) (he:starEach (e :: es) X.env=(false,eval e X.env) :: starEach es X.env:=by rfl) (hpl:(backTo pos (starEach es X.env)).any (·.1)=false:=by rfl):PE X (.Call (.Name x p) (e :: es) [] pos) (uw sp [] E0 t):=A1 o (hr.mono hk) hg ha hdb he hpl
theorem aY {X:Cx} {i:Nat} {x:Str} {e:Expr} {te:TE} {pos pos':Pos} (hN:X.N.Nodup) (he:PE X e te) (hi:X.N[i]? = some x:=by rfl) (hx:Loc X.env.scope x:=by first | exact Or.inl rfl | exact Or.inr rfl) (hs:swapsWith e (some (.Name x pos')) pos.line X.env=pure false:=by rfl) (hf:X.fn x=true\/X.env.scope.names.lookup x=some .local:=by first | exact .inl rfl | exact .inr rfl | assumption) :
  PS X (.Assign [.Name x pos'] e pos) (ug te (kB i)):=AG hN hi hx he hs hf
theorem aK {X:Cx} {i:Nat} {x:Str} {pos:Pos} (hN:X.N.Nodup) (hi:X.N[i]? = some x:=by rfl) (hx:Loc X.env.scope x:=by first | exact Or.inl rfl | exact Or.inr rfl) (hf:X.fn x=true\/X.env.scope.names.lookup x=some .local:=by first | exact .inl rfl | exact .inr rfl | assumption):PG X (.Name x pos) (kB i):=zx hN hi hx hf
theorem aO {X:Cx} {a b:Expr} {ta tb:TE} {pos:Pos} {r:R2} (hr:sT X r) (ha:PE X a ta) (hb:PE X b tb) (hs:sS b:=by exact fun _ _=>rfl):PE X (.Subscript a b pos) (vG r ta tb):=BS hr ha hb hs
theorem ay {X:Cx} {e1:Expr} {t1:TE} (h1:PE X e1 t1) (s1:starEach [e1] X.env=(false,eval e1 X.env) :: starEach [] X.env:=by rfl):PA X [e1] (fe t1 nI):=(bI h1 bX s1)
theorem aL {X:Cx} {e1 e2:Expr} {t1 t2:TE} (h1:PE X e1 t1) (h2:PE X e2 t2) (s1:starEach [e1,e2] X.env=(false,eval e1 X.env) :: starEach [e2] X.env:=by rfl) (s2:starEach [e2] X.env=(false,eval e2 X.env) :: starEach [] X.env:=by rfl):PA X [e1,e2] (fe t1 (fe t2 nI)):=(bI h1 (bI h2 bX s2) s1)
theorem hX {X:Cx} {e1 e2 e3:Expr} {t1 t2 t3:TE} (h1:PE X e1 t1) (h2:PE X e2 t2) (h3:PE X e3 t3) (s1:starEach [e1,e2,e3] X.env=(false,eval e1 X.env) :: starEach [e2,e3] X.env:=by rfl) (s2:starEach [e2,e3] X.env=(false,eval e2 X.env) :: starEach [e3] X.env:=by rfl) (s3:starEach [e3] X.env=(false,eval e3 X.env) :: starEach [] X.env:=by rfl):PA X [e1,e2,e3] (fe t1 (fe t2 (fe t3 nI))):=(bI h1 (bI h2 (bI h3 bX s3) s2) s1)
theorem BA {X:Cx} {e1 e2 e3 e4:Expr} {t1 t2 t3 t4:TE} (h1:PE X e1 t1) (h2:PE X e2 t2) (h3:PE X e3 t3) (h4:PE X e4 t4) (s1:starEach [e1,e2,e3,e4] X.env=(false,eval e1 X.env) :: starEach [e2,e3,e4] X.env:=by rfl) (s2:starEach [e2,e3,e4] X.env=(false,eval e2 X.env) :: starEach [e3,e4] X.env:=by rfl) (s3:starEach [e3,e4] X.env=(false,eval e3 X.env) :: starEach [e4] X.env:=by rfl) (s4:starEach [e4] X.env=(false,eval e4 X.env) :: starEach [] X.env:=by rfl):PA X [e1,e2,e3,e4] (fe t1 (fe t2 (fe t3 (fe t4 nI)))):=(bI h1 (bI h2 (bI h3 (bI h4 bX s4) s3) s2) s1)
section
variable {prog:Program} {w:World} {A:Around} {E:Value->Shared->Prop} {s:Shared}
end
section
variable {X:Cx}
end
mutual
theorem aP.ip {H H':Hp} (f:ae H H'):∀ {x:V} {d:PyData},aP H x d->aP H' x d
 | _,_,.bg=>.bg
 | _,_,.bl b=>.bl b
 | _,_,.int i=>.int i
 | _,_,.str x=>.str x
 | _,_,.lst e r=>.lst (f _ _ e) (aU.ip f r)
 | _,_,.tup e r=>.tup (f _ _ e) (aU.ip f r)
theorem aU.ip {H H':Hp} (f:ae H H'):∀ {xs:List V} {ds:List PyData},aU H xs ds->aU H' xs ds
 | _,_,.nil=>.nil
 | _,_,.cons a r=>.cons (aP.ip f a) (aU.ip f r)
end
theorem lK {X:Cx} {K:PySem.W.Frag} (hK:X.K=K):cJ X (.builtin "len") (fun xs H Q=>∃ p ys,xs = [V.ref p]/\(aI K H p ys\/av K H p ys)/\Q (V.int (ys.length:Nat)) H):=by subst hK;exact aN
section
variable {X:Cx}
end
section
variable {X:Cx} {e a b o:Expr} {es:List Expr} {st:Stmt} {rest:List Stmt} {te ta tb to:TE} {t:TA} {u v:TS} {pos:Pos}
end
section
variable {P:Program} {w:World} {K:PySem.W.Frag} {mg:Str->Option Value} {base:Heap}
end
section
variable {X:Cx}
inductive Cg (x:V) (lo:Option Int) (hi:Option Int) (H:Hp) (Q:VK):Prop
 | mk (a:Addr) (xs:List V) (_:x=.ref a) (_:H a=some (.tup xs)) (_:∀ p H',H' p=some (.tup (eD xs lo hi))->ae H H'->Q (.ref p) H')
theorem Aq:zb X Cg:=by
 intro pins s σ H x v vl vu lo hi sl Q I rx hs pl pu h
 obtain⟨a,xs,rfl,hx,q⟩:=h
 refine kJ pins s σ H _ v vl vu lo hi sl Q I rx hs pl pu ⟨a,xs,rfl,av.of hx,fun hw=>q a H ?_ (ae.refl H),fun _ p np=>q p _ aa (ae.new np)⟩
 rw [hx]
 unfold eD
 rw [hw.1,hw.2,List.drop_zero,Nat.sub_zero,List.take_length]
end
theorem yQ {xs:List V} {k:Nat} (h:k<=xs.length):eD xs (some (k:Int)) none=xs.drop k:=by
 unfold eD
 rw [HT.nJ,HT.lQ,Nat.min_eq_left h]
 exact List.take_of_length_le (by rw [List.length_drop];omega)
section
variable {X:Cx} {pos:Pos}
end
section
variable {X:Cx} {pos:Pos}
end
section
variable {X:Cx} {pos:Pos}
end
section
variable {X:Cx} {pos:Pos}
end
section
variable {prog:Program} {w:World} {A:Around} {E:Value->Shared->Prop} {s:Shared}
end
section
variable {X:Cx} {pins:List (Addr × Obj)} {σ : List (Option V)} {H:Hp} {s:Shared}
end
section
variable {X:Cx} {K:PySem.W.Frag}
end
section
variable {X:Cx}
end
end L2
namespace LS
open PySem PySem.Spec PyProof.Rows L2
section
variable {prog:Program} {w:World} {A:Around} {E:Value->Shared->Prop} {s:Shared} {I l:Addr} {its:Array Value}
end
section
variable {prog:Program} {w:World} {A:Around} {E:Value->Shared->Prop} {s:Shared} {I l:Addr} {its:Array Value}
end
end LS
namespace L2
open PySem PySem.Spec PyProof.Rows
section
variable {X:Cx}
end
end L2
namespace LS
open PySem PySem.Spec PyProof.Rows L2
section
variable {prog:Program} {w:World} {K:Type} [DecidableEq K] {knd:KeyKind prog w K}
variable {A:Around} {E:Value->Shared->Prop} {s:Shared} {a:Addr} {ks:List K}
end
section
variable {prog:Program} {w:World} {A:Around} {E:Value->Shared->Prop} {s:Shared}
end
end LS
namespace L2
open PySem PySem.Spec PyProof.Rows LS
section
variable {X:Cx}
end
end L2
namespace HT
open PySem PySem.Spec PyProof.Rows
section
variable {prog:Program} {w:World} {A:Around} {E:Value->Shared->Prop} {s:Shared}
end
end HT
namespace L2
open PySem PySem.Spec PyProof.Rows LS
section
variable {X:Cx}
end
section
variable {prog:Program} {w:World} {A:Around} {E:Value->Shared->Prop} {s:Shared}
end
section
variable {X:Cx}
end
theorem pJ {X:Cx} {K:PySem.W.Frag} (h:X.K=K):cY X (compareOp .NotIn) (zc K true):=by subst h;exact gY
theorem xh {X:Cx} {K:PySem.W.Frag} (h:X.K=K):cY X (compareOp .In) (zc K false):=by subst h;exact ic
section
variable {X:Cx}
inductive BB  (x:V) (vs:List V) (H:Hp) (Q:VK):Prop
 | mk (l:Addr) (ns:List Int) (a:Int) (_:x=.ref l) (_:vs = [.int a]) (_:H l=some (.lst (ns.map V.int))) (_:Q (.int (ns.count a:Nat)) H)
theorem pK {a:Int}:∀ {its:List Value} {ns:List Int},IntsAre its ns->its.countP (fV (.int a))=ns.count a
 | _,_,.nil=>rfl
 | _,_,.cons _ _ t=>by
  rw [List.countP_cons,List.count_cons,pK t]
  rfl
theorem yR:sU X "list.count" BB:=by
 intro pins s σ H x vs v us Q I rx rv h
 obtain⟨l,ns,a,rfl,rfl,hH,q⟩:=h
 cases rx
 obtain⟨u,rfl,ru⟩:=rv.one
 obtain⟨z,its,n,r,hl,e⟩:=I.qt hH
 have fs:(ns.map V.int).all ff=true:=by rw [List.all_eq_true];intro v hv;obtain⟨k,_,rfl⟩:=List.mem_map.mp hv;rfl
 have hi:=intsAre_of r
 refine call_meets F.slot_list_count ⟨_,e,rfl⟩ F.entry_list_count (F.args_list_count_2 _ _) (SeqAt.list_countAt l its.toArray n none #[] u (fV (.int a))) ⟨e,fun y hy=>fG ru rfl r fs y (by simpa using hy),?_⟩
 rw [show its.toArray.toList=its from rfl,pK hi]
 exact⟨.int _,H,I.Co,⟨_,rfl⟩,q⟩
end
inductive yS (K:PySem.W.Frag) (x:V) (y:V) (H:Hp) (Q:VK):Prop
 | mk (p xs ds d:_) (_:y=.ref p) (_:av K H p xs) (_:aU H xs ds) (_:(∀ e ∈ ds,dB e)) (_:aP H x d) (_:dB d) (_:Q (.bl (!decide (d ∈ ds))) H)
theorem vi {X:Cx} (hu:X.A.units+66 < cLine):cY X (compareOp .NotIn) (yS X.K):=by
 intro pins s σ H x y v u Q I rx ry h
 obtain⟨p,xs,ds,d,rfl,hq,rd,hk,r,kd,q⟩:=h
 cases ry
 obtain⟨its,rv,pl,hz⟩:=I.tuple hq
 obtain⟨bs,rb⟩:=r.reads I.aJ rx
 have it:=wX I.aJ rv rd hk
 refine SeqAt.notIn_tupleAt (o6 s.heap d) pl (fun w hw=>j7.at_ (by first | (rw [Around.in1_units];omega) | omega) rb kd it w (by simpa using hw)) ⟨.bl _,H,I,rfl,?_⟩
 rw [show its.toArray.any (o6 s.heap d)=its.any (o6 s.heap d) by simp,it.any]
 exact q
theorem Ar {xs:List V} {k:Nat}:eD xs (some (k:Int)) none=xs.drop k:=by
 by_cases h:k<=xs.length
 ·exact yQ h
 ·unfold eD
  rw [HT.nJ,HT.lQ,Nat.min_eq_right (by omega),List.drop_eq_nil_of_le (show xs.length<=k by omega)]
  simp
theorem C5 {A:Around} {k:Nat} (hr:cb k A):A.units+80 < cLine:=by have:=hr.un;omega
theorem pL:∀ {ds:List PyData} {cs:List Cp},Paired (fun d c=>CD c d) ds cs->cs.Nodup->ds.Nodup
 | _,_,.nil,_=>List.nodup_nil
 | _,_,.cons (a:=d) (b:=c) (l₁:=ds) (l₂:=cs) r t,nd=>by
  have nd:=List.nodup_cons.mp nd
  refine List.nodup_cons.mpr ⟨fun hm=>?_,pL t nd.2⟩
  obtain⟨i,hi⟩:=List.mem_iff_getElem?.mp hm
  obtain⟨c',hc',r'⟩:=LS.dt t hi
  have:=(r.iff r').mp rfl
  exact nd.1 (by rw [this];exact List.mem_of_getElem? hc')
theorem pM (k:Nat):∀ l:List Nat,(l.map fun j:Nat=>(j:Int)).count (k:Int)=l.count k
 | []=>rfl
 | j :: l=>by
  rw [List.map_cons,List.count_cons,List.count_cons,pM k l]
  by_cases h:j=k
  ·subst h;rw [if_pos (beq_self_eq_true _),if_pos (beq_self_eq_true _)]
  ·rw [if_neg (by rw [beq_iff_eq];omega),if_neg (by rw [beq_iff_eq];exact h)]
theorem As (l:List Nat):vN l=(l.map fun j:Nat=>(j:Int)).map V.int:=(List.map_map ..).symm
inductive rK (vs:List V) (H:Hp) (Q:VK) (_:XK):Prop
 | mk (plv:V) (qs:List Piece) (bl:Addr) (bs:List Nat) (_:vs = [plv,.ref bl]) (_:aP H plv (eM qs)) (_:fi qs) (_:H bl=some (.lst (vN bs))) (_:qs.length<=1000)
  (_:∀ (b:Bool) (left:List Nat) H',(b=true ↔ left ≠ [])->(∀ k ∈ left,k ∉ bs/\∃ p,qs[k]? = some p/\∃ j ∈ ar p.2,j ∈ left)->ae H H'->Q (.bl b) H')
end L2
namespace My
open PySem PySem.Spec PyProof.Rows L2
def top (i:Nat):Stmt:=PySem.Challenge.pw_ledpast_k14_whole_rounds_and_growth.main.body.getD i (.Pass ⟨0,0,0,0⟩)
structure Bl (mg:Str->Option Value):Prop where
 len:mg "len" = none
 zip:mg "zip" = none
 tuple:mg "tuple" = none
 sorted:mg "sorted" = none
 set:mg "set" = none
 dict:mg "dict" = none
 min:mg "min" = none
 max:mg "max" = none
 range:mg "range" = none
 list:mg "list" = none
 int:mg "int" = none
abbrev fA:Stmt:=top 6
theorem mf:aM ["thing", "kinds", "wanted"] ["thing", "kinds", "wanted"] (au fA):=cu
abbrev kh:Stmt:=top 8
theorem vj:aM ["end"] ["end"] (au kh):=cu
abbrev fL:Stmt:=top 9
theorem ni:aM ["end"] ["end"] (au fL):=cu
abbrev jj:Stmt:=top 7
theorem eG:aM ["plan", "names", "deeds", "end", "deed"] ["plan"] (au jj):=cu
abbrev ki:Stmt:=top 14
theorem jl:aM ["number", "stretch", "low", "high"] ["number", "stretch"] (au ki):=cu
abbrev hZ:Stmt:=top 15
theorem eN:aM ["stretch", "number", "low", "high", "top"] ["stretch", "number"] (au hZ):=cu
abbrev ix:Stmt:=top 16
theorem fB:aM ["stretch", "number", "low", "high", "bottom"] ["stretch", "number"] (au ix):=cu
abbrev kj:Stmt:=top 17
theorem vk:aM ["stretch", "number"] ["stretch", "number"] (au kj):=cu
abbrev gn:Stmt:=top 18
theorem fM:aM ["stretch", "number", "low", "high"] ["stretch", "number"] (au gn):=cu
abbrev km:Stmt:=top 19
theorem vm:aM ["stretch", "word", "number", "side"] ["stretch", "word", "number", "side"] (au km):=cu
abbrev jm:Stmt:=top 22
theorem si:aM ["stretches"] ["stretches"] (au jm):=cu
abbrev oi:Stmt:=top 23
theorem yT:aM ["facts", "name"] ["facts", "name"] (au oi):=cu
abbrev h9:Stmt:=top 24
theorem jD:aM ["facts", "name", "stretch", "stretches"] ["facts", "name", "stretch"] (au h9):=cu
abbrev om:Stmt:=top 25
theorem mh:aM ["stretch", "number", "low", "high"] ["stretch", "number"] (au om):=cu
abbrev eR:Stmt:=top 26
theorem gx:aM ["stretches", "deed", "word", "name"] ["stretches", "deed"] (au eR):=cu
abbrev mi:Stmt:=top 27
theorem kn:aM ["facts", "deeds", "stretches", "deed"] ["facts", "deeds"] (au mi):=cu
abbrev fN:Stmt:=top 28
theorem cw:aM ["facts", "end", "ways", "word", "name", "number", "stretch", "parts"] ["facts", "end"] (au fN):=cu
abbrev oo:Stmt:=top 29
theorem rL:aM ["facts", "end", "beyond"] ["facts", "end"] (au oo):=cu
abbrev oq:Stmt:=top 30
theorem yU:aM ["plan"] ["plan"] (au oq):=cu
abbrev fO:Stmt:=inClass (top 10) 0
theorem nj:aM ["self", "first"] ["self", "first"] (au fO):=cu
abbrev fP:Stmt:=inClass (top 10) 1
theorem nq:aM ["self", "thing"] ["self", "thing"] (au fP):=cu
abbrev ko:Stmt:=top 11
theorem fC:aM ["plan", "found", "waiting", "at", "way"] ["plan"] (au ko):=cu
abbrev ou:Stmt:=top 12
theorem jn:aM ["plan", "found", "at", "way"] ["plan"] (au ou):=cu
abbrev jo:Stmt:=top 33
theorem lL:aM ["lead", "tops", "places", "most", "piece"] ["lead", "tops", "places", "most"] (au jo):=cu
abbrev mj:Stmt:=top 34
theorem xi:aM ["end", "ways"] ["end", "ways"] (au mj):=cu
abbrev jq:Stmt:=top 35
theorem cg:aM ["plan", "most", "tops", "copies", "pieces", "piece", "facts", "deeds", "end", "ahead", "ways"] ["plan", "most"] (au jq):=cu
abbrev kq:Stmt:=top 37
theorem jr:aM ["script", "k", "cell"] ["script", "k"] (au kq):=cu
abbrev jt:Stmt:=top 38
theorem lM:aM ["bag", "many", "found"] ["bag", "many"] (au jt):=cu
abbrev iy:Stmt:=top 39
theorem cI:aM ["bag", "letters", "many", "base", "at", "names", "k", "name"] ["bag"] (au iy):=cu
abbrev ia:Stmt:=top 40
theorem pU:aM ["bag"] ["bag"] (au ia):=cu
abbrev ju:Stmt:=top 41
theorem iz:aM ["bag", "names", "word", "name"] ["bag", "names"] (au ju):=cu
abbrev ku:Stmt:=top 42
theorem gJ:aM ["bag", "names", "count", "way", "word", "name"] ["bag", "names", "count"] (au ku):=cu
abbrev jv:Stmt:=top 43
theorem dW:aM ["bag", "count", "most", "names", "pieces", "k", "many", "end"] ["bag", "count", "most"] (au jv):=cu
abbrev iA:Stmt:=top 44
theorem rM:aM ["bag", "most"] ["bag", "most"] (au iA):=cu
abbrev jw:Stmt:=top 45
theorem sj:aM ["end"] ["end"] (au jw):=cu
abbrev gr:Stmt:=top 46
theorem dI:aM ["plan", "found", "at", "there"] ["plan"] (au gr):=cu
abbrev iB:Stmt:=top 47
theorem fD:aM ["plan", "found", "piece", "there"] ["plan"] (au iB):=cu
abbrev eS:Stmt:=top 48
theorem bZ:aM ["other", "barred", "left", "going", "keep", "k"] ["other", "barred"] (au eS):=cu
abbrev kO:Stmt:=top 49
theorem d8:aM ["script", "bag", "most", "plan", "other", "copies", "pieces", "headed", "head", "deeds", "end"] ["script"] (au kO):=cu
section
variable {P:Program} {w:World} {K:PySem.W.Frag} {mg:Str->Option Value} {base:Heap}
theorem ml {f:Addr} {fd:FuncData} (F:bQ K "parts_of_kind" "parts_of_kind" fA f fd) (Z:Bl mg)  : ba P w K mg base bN 1 f fd ["thing", "kinds", "wanted"] (nT K):=by
 refine F.ok (k:=0) mf (fun vs H Q E h=>?_) (fun cdv A outer s H vs Q E hr h=>?_)
 ·obtain⟨t,s,v0,xs,ks,w,rfl,_⟩:=h
  rfl
 ·obtain⟨t,s,v0,xs,ks,w,rfl,ht,hs,hl,q⟩:=h
  refine⟨_,(ai (aB (cE ["part", "kind"] ["wanted"] [2] rfl (wm rfl Z.zip (aL (iU kJ (pv 0) (kH ah) kG) (pv 1))) rfl (by decide +kernel) (by decide +kernel) (by decide +kernel) ⟨⟨rfl,.inl rfl,rfl⟩,True.intro⟩ (fun _ _ _ _=>(tj (K:=K) (n:=2) rfl (dD (n:=2) rfl (bc (aK (i:=0) (show ((["part", "kind"]:List Str)++(["wanted"]:List Str)).Nodup by decide +kernel) (hf:=Or.inr rfl)) (bc (aK (i:=1) (show ((["part", "kind"]:List Str)++(["wanted"]:List Str)).Nodup by decide +kernel) (hf:=Or.inr rfl)) cW))))) (fun _ _ _ _=>(d9 (aF dn (pv 1) (pv 2) (aS _)))) (fun _ _ _ _=>(pv 0))))),?_⟩
  refine⟨_,rfl,_,rfl,t,_,rfl,av.of ht,fun hw=>?_,fun _ p np=>?_⟩
  ·exfalso
   obtain⟨h1,_⟩:=hw
   simp [HT.bD] at h1
  ·have ec:eD (v0 :: xs) (some 1) none=xs:=by simp [eD,HT.bD]
   rw [ec]
   have sp:=ae.new (o:=.tup xs) np
   refine⟨_,rfl,p,s,rfl,⟨_,av.of aa⟩,⟨_,hs.same sp⟩,fun acc na=>?_⟩
   refine wo (K:=K) (a:=p) (b:=s) (xs:=xs) (ys:=ks.map V.str) (fun i zs τ H'=>∃ (c1 c2:Option V),τ = [c1,c2,some (.str w)]/\zs=ig w xs ks i/\H' acc=some (.lst zs)/\H' p=some (.tup xs)/\ae H H') ?_ ?_ ?_ ?_
   ·exact⟨none,none,rfl,rfl,aa,ae.new na _ _ aa,sp.trans (ae.new na)⟩
   ·rintro i zs τ H4 hi ⟨c1,c2,rfl,rfl,ha,hp4,s4⟩
    exact⟨av.of hp4,hs.same s4,ha,fh (by have:=wu (w:=w) (xs:=xs) (ks:=ks) (i:=i);omega)⟩
   ·rintro i x y zs τ H4 u hx hy hu ⟨c1,c2,rfl,rfl,ha,hp4,s4⟩
    obtain⟨k,rfl,hk⟩:∃ k,y=V.str k/\ks[i]? = some k:=by
     rw [List.getElem?_map] at hy
     cases e:ks[i]? with
     | none=>rw [e] at hy;cases hy
     | some k=>rw [e] at hy;exact⟨k,(Option.some.inj hy).symm,rfl⟩
    have su:=ae.new (o:=.tup [x,.str k]) hu
    refine⟨u,_,rfl,av.of aa,rfl,_,_,rfl,_,_,rfl,rfl,?_⟩
    refine⟨_,rfl,_,rfl,rfl,_,rfl,?_⟩
    have hn:=uK (w:=w) hx hk
    by_cases hkw:k=w
    ·rw [if_pos hkw] at hn
     refine cL (decide_eq_true (congrArg V.str hkw)) ?_
     refine⟨_,rfl,su _ _ ha,_,_,rfl,hn.symm,aa,?_,?_⟩
     ·rw [ao (bH hp4 ha (by intro z;cases z))]
      exact su _ _ hp4
     ·exact (s4.trans su).put (sp.free na)
    ·rw [if_neg hkw,List.append_nil] at hn
     refine bB (decide_eq_false fun z=>hkw (V.str.inj z)) ?_
     exact⟨_,_,rfl,hn.symm,su _ _ ha,su _ _ hp4,s4.trans su⟩
   ·rintro zs τ H4 ⟨c1,c2,rfl,rfl,ha,hp4,s4⟩
    rw [wq] at ha
    exact q acc H4 ha s4
theorem vn {f:Addr} {fd:FuncData} (F:bQ K "ways_on" "ways_on" kh f fd) (Z:Bl mg) {aE s0 s1 s2 s3:Addr} (GE:qI K mg aE s0 s1 s2 s3) (O_parts_of_kind:Own P w K mg base "parts_of_kind" 1 ["thing", "kinds", "wanted"] (nT K)):ba P w K mg base bN 3 f fd ["end"] iJ:=by
 refine F.ok (k:=2) vj (fun vs H Q E h=>?_) (fun cdv A outer s H vs Q E hr h=>?_)
 ·obtain⟨ea,e,rfl,_⟩:=h
  rfl
 ·obtain⟨ea,e,rfl,he,q⟩:=h
  refine⟨_,(ai (aB (br bu rfl Z.tuple cm (ay (aH O_parts_of_kind hr (hX (pv 0) (nS GE.tab rfl (aO bM (pv 0) ah) (fun _ _=>rfl)) bL)))))),?_⟩
  obtain⟨xs,ev,hl,hp⟩:=wx e
  rw [ev] at he
  obtain⟨s,hs,ks⟩:=GE.at_ e
  refine⟨_,rfl,_,rfl,ea,_,0,_,rfl,rfl,av.of he,eW,_,s,rfl,hs,ea,s,_,xs,kE e, "piece",rfl,he,.inr ks,hl,fun l H1 hl1 s1=>?_⟩
  rw [hp] at hl1
  exact⟨l,_,rfl,.inl ⟨aI.of hl1,fun t ht=>q t _ aa (s1.trans (ae.new ht))⟩⟩
theorem nu {f:Addr} {fd:FuncData} (F:bQ K "without_ways" "without_ways" fL f fd) (Z:Bl mg) (O_ways_on:Own P w K mg base "ways_on" 3 ["end"] iJ):ba P w K mg base bN 4 f fd ["end"] o5:=by
 refine F.ok (k:=3) ni (fun vs H Q E h=>?_) (fun cdv A outer s H vs Q E hr h=>?_)
 ·obtain⟨ea,e,rfl,_⟩:=h
  rfl
 ·obtain⟨ea,e,rfl,he,q⟩:=h
  refine⟨_,(ai (aB (iU kJ (pv 0) kG (kH (aZ fT (aR aN rfl Z.len bE (ay (pv 0))) (aR aN rfl Z.len bE (ay (aH O_ways_on hr (ay (pv 0)))))))))),?_⟩
  refine⟨_,rfl,_,rfl,ea,_,rfl,.inr (av.of he),_,rfl,ea,e,rfl,he,fun t H1 ht s1=>⟨t,_,rfl,.inr (av.of ht),_,_,rfl,rfl,?_⟩⟩
  have he1:=s1 _ _ he
  have el:((eO e).length:Int) - (((ar e).map fun k=>V.int (k:Nat)).length:Int)=((jc e).length:Nat):=by cases e <;> rfl
  have ec:eD (eO e) none (some ((jc e).length:Nat))=jc e:=by
   unfold eD
   rw [HT.lQ,HT.nJ]
   cases e <;> rfl
  refine⟨_,congrArg V.int el,ea,_,rfl,av.of he1,fun hw=>?_,fun _ p hp=>?_⟩
  ·unfold eD at ec
   rw [hw.1,hw.2] at ec
   refine q ea H1 ?_ s1
   rw [he1,<-ec]
   simp
  ·rw [ec]
   exact q p _ aa (s1.trans (ae.new hp))
theorem sm {f:Addr} {fd:FuncData} (F:bQ K "names_of" "names_of" jj f fd) (Z:Bl mg) {aD d0 d1 d2 d3 d4:Addr} (GD:p8 K mg aD d0 d1 d2 d3 d4) {aE s0 s1 s2 s3:Addr} (GE:qI K mg aE s0 s1 s2 s3) (O_parts_of_kind:Own P w K mg base "parts_of_kind" 1 ["thing", "kinds", "wanted"] (nT K)):ba P w K mg base bN 3 f fd ["plan"] oX:=by
 refine F.ok (k:=2) eG (fun vs H Q E h=>?_) (fun cdv A outer s H vs Q E hr h=>?_)
 ·obtain⟨plv,ps,xs,m,rfl,_⟩:=h
  rfl
 ·obtain⟨plv,ps,xs,m,rfl,hp,pok,hx64,hal,q⟩:=h
  refine⟨_,(af (aY (i:=1) eG.nd (b6 bX))
   (af (di PassesOwn.never rfl (dG (pv 0)) (dD rfl (bc (aK (i:=2) eG.nd) (bc (aK (i:=3) eG.nd) cW)))
   (af (di PassesOwn.never rfl (dG (pv 2)) (aK (i:=4) eG.nd)
   (ai (dC (eJ PySem.F.plainAttrs_list PySem.F.slot_list_extend PySem.F.type_list_extend oJ (pv 1) (ay (aH O_parts_of_kind hr (hX (pv 4) (nS GD.tab rfl (aO bM (pv 4) ah) (fun _ _=>rfl)) bL)))))))
   (ai (dC (eJ PySem.F.plainAttrs_list PySem.F.slot_list_extend PySem.F.type_list_extend oJ (pv 1) (ay (aH O_parts_of_kind hr (hX (pv 3) (nS GE.tab rfl (aO bM (pv 3) ah) (fun _ _=>rfl)) bL))))))))
   (ai (aB (br bu rfl Z.tuple cm (ay (aR (pN rfl) rfl Z.sorted eZ (ay (br (wK rfl) rfl Z.set qR (ay (pv 1))))))))))),?_⟩
  obtain⟨pp,vs,rfl,e1,r⟩:=aP.bx hp
  have hl:=r.len
  refine⟨(by show 0<=sizeLine;decide),fun nm nn=>?_⟩
  have s0:=ae.new (o:=.lst []) nn
  have big:∀ (i:Nat) (ys:List Str),ys.length<=4000->(ys.map V.str).length<=sizeLine:=fun i ys h=>by rw [List.length_map];exact Nat.le_trans h (by decide)
  refine⟨_,rfl,pp,rfl,⟨_,av.of (s0 _ _ e1)⟩,fF (K:=K) (a:=pp) (xs:=vs) (fun i σ H'=>∃ (u1 u2 u3:Option V),σ = [some (.ref pp),some (.ref nm),u1,u2,u3]/\H' nm=some (.lst ((bo (ps.take i)).map V.str))/\ae H H') ?_ ?_ ?_ ?_⟩
  ·exact⟨_,_,_,rfl,aa,s0⟩
  ·rintro i σ H1 hi ⟨u1,u2,u3,rfl,h1,s1⟩
   exact av.of (s1 _ _ e1)
  ·rintro i x σ H1 hi ⟨u1,u2,u3,rfl,h1,s1⟩
   have hlt:i < ps.length:=by
    have:=(List.getElem?_eq_some_iff.mp hi).1
    rw [hl,List.length_map] at this
    exact this
   have hpi:ps[i]? = some ps[i]:=by simp [hlt]
   generalize ps[i] = pe at hpi
   obtain⟨ds,e⟩:=pe
   have hnext:=oW (f:=pNames) hpi
   have hsz:(bo (ps.take (i+1))).length<=4000:=Nat.le_trans (jy (f:=pNames) (i+1)) hal
   have hsz':(bo (ps.take i)).length+((ds.flatMap cU).length+(hR e).length)<=4000:=by
    have z:=congrArg List.length hnext
    unfold bo at hsz ⊢
    rw [z] at hsz
    simp only [List.length_append,pNames] at hsz
    omega
   obtain⟨p',xs',pc,da,ea,ws,ep,e1',el',hx',e2,e3,r3,e4⟩:=d6 hp hpi
   cases ep
   rw [e1] at e1'
   cases e1'
   rw [hi] at hx'
   cases hx'
   refine⟨pc,_,rfl,av.of (s1 _ _ e2),rfl,_,_,rfl,_,_,rfl,rfl,?_⟩
   refine⟨_,rfl,da,rfl,⟨_,av.of (s1 _ _ e3)⟩,fF (K:=K) (a:=da) (xs:=ws) (fun j σ H'=>∃ (u3:Option V),σ = [some (.ref pp),some (.ref nm),some (.ref da),some (.ref ea),u3]/\H' nm=some (.lst ((bo (ps.take i)++(ds.take j).flatMap cU).map V.str))/\ae H H') ?_ ?_ ?_ ?_⟩
   ·exact⟨_,rfl,by simpa using h1,s1⟩
   ·rintro j σ H2 hj ⟨u3',rfl,h2,s2⟩
    exact av.of (s2 _ _ e3)
   ·rintro j y σ H2 hj ⟨u3',rfl,h2,s2⟩
    have hjl:j < ds.length:=by
     have:=(List.getElem?_eq_some_iff.mp hj).1
     rw [r3.len,List.length_map] at this
     exact this
    have hdj:ds[j]? = some ds[j]:=by simp [hjl]
    generalize ds[j] = dd at hdj
    obtain⟨v,hv,rd⟩:=r3.get (i:=j) (d:=ef dd) (by rw [List.getElem?_map,hdj];rfl)
    rw [hj] at hv
    cases hv
    obtain⟨dp,rfl,hdp⟩:=tF rd
    have hdp2:=s2 _ _ hdp
    obtain⟨zs,ez,hzl,hpk⟩:=uR dd
    rw [ez] at hdp2
    obtain⟨s,hs,ks⟩:=GD.at_ dd
    have hnj:=oW (f:=cU) hdj
    have hsj:((ds.take (j+1)).flatMap cU).length<=(ds.flatMap cU).length:=jy (f:=cU) (j+1)
    refine bF ?_
    refine⟨_,rfl,.inl ⟨rfl,_,aI.of h2⟩,_,rfl,_,rfl,dp,_,0,_,rfl,rfl,av.of hdp2,eW,_,s,rfl,hs,dp,s,_,zs,kD dd, "name",rfl,hdp2,.inr ks,hzl,fun l H3 hl3 s3=>?_⟩
    rw [hpk] at hl3
    have h3:=s3 _ _ h2
    refine⟨nm,l,_,_,rfl,rfl,h3,hl3,?_,?_⟩
    ·rw [List.length_map,List.length_map,List.length_append]
     rw [hnj,List.length_append] at hsj
     exact Nat.le_trans (show _<=4000 by omega) (by decide)
    ·refine⟨_,rfl,?_,(s2.trans s3).put nn⟩
     rw [aa,hnj,<-List.append_assoc];simp only [List.map_append]
   ·rintro σ H2 ⟨u3',rfl,h2,s2⟩
    rw [show ws.length=ds.length by rw [r3.len,List.length_map],List.take_length] at h2
    have e42:=s2 _ _ e4
    obtain⟨zs,ez,hzl,hpk⟩:=uS e
    rw [ez] at e42
    obtain⟨s,hs,ks⟩:=GE.at_ e
    refine⟨_,rfl,.inl ⟨rfl,_,aI.of h2⟩,_,rfl,_,rfl,ea,_,0,_,rfl,rfl,av.of e42,eW,_,s,rfl,hs,ea,s,_,zs,kE e, "name",rfl,e42,.inr ks,hzl,fun l H3 hl3 s3=>?_⟩
    rw [hpk] at hl3
    have h3:=s3 _ _ h2
    refine⟨nm,l,_,_,rfl,rfl,h3,hl3,?_,?_⟩
    ·rw [List.length_map,List.length_map,List.length_append]
     exact Nat.le_trans (show _<=4000 by omega) (by decide)
    ·refine⟨_,_,_,rfl,?_,(s2.trans s3).put nn⟩
     rw [aa,<-List.map_append]
     unfold bo at hnext ⊢
     rw [hnext]
     simp only [pNames,List.append_assoc]
  ·rintro σ H1 ⟨u1,u2,u3,rfl,h1,s1⟩
   rw [show vs.length=ps.length by rw [hl,List.length_map],List.take_length] at h1
   have hk:aI K H1 nm (((bo ps).map (Sum.inr:Str->Key)).map kV):=by rw [z6];exact aI.of h1
   refine⟨_,rfl,nm,(bo ps).map Sum.inr,rfl,hk,(by rw [List.length_map];show _+1 < 4096;omega),fun sa hsa=>?_⟩
   have hf:=yr pok
   refine⟨sa,LS.cM (bo ps),rfl,(by rw [aa,uT]),(by omega),fun l ss hperm hsort hn=>?_⟩
   have s2:=ae.new (o:=bU P w sa (LS.cM ((bo ps).map (Sum.inr:Str->Key)))) hsa
   refine⟨l,_,rfl,.inl ⟨aI.of aa,fun t ht=>?_⟩⟩
   exact q t ss _ aa hperm hsort (by rw [hperm.length_eq];omega) (((s1.trans s2).trans (ae.new hn)).trans (ae.new ht))
theorem vo {f:Addr} {fd:FuncData} (F:bQ K "lies_in" "lies_in" ki f fd) (Z:Bl mg)  : ba P w K mg base bN 1 f fd ["number", "stretch"] (tR K):=by
 refine F.ok (k:=0) jl (fun vs H Q E h=>?_) (fun cdv A outer s H vs Q E hr h=>?_)
 ·obtain⟨n,q,lo,hi,rfl,_⟩:=h
  rfl
 ·obtain⟨n,q,lo,hi,rfl,hq,k⟩:=h
  refine⟨_,(af (dE (pv 1) (dD rfl (bc (aK (i:=2) jl.nd) (bc (aK (i:=3) jl.nd) cW))))
   (ai (aB (AD (y4 (vD (gP (pv 2))) (qo (kF pY (pv 2) (pv 0) (aS _)))) (qo (y4 (vD (gP (pv 3))) (qo (kF pY (pv 0) (pv 3) (aS _))))))))),?_⟩
  refine⟨_,rfl,q,_,rfl,hq,rfl,_,_,rfl,_,_,rfl,rfl,?_⟩
  cases lo with
  | none =>
   refine⟨_,rfl,_,rfl,bT ⟨_,rfl,bT ?_⟩⟩
   cases hi with
   | none=>exact⟨_,rfl,_,rfl,bT k⟩
   | some b =>
    refine⟨_,rfl,_,rfl,bJ ⟨_,rfl,_,rfl,_,_,rfl,rfl,?_⟩⟩
    simpa only [i5,Bool.true_and] using k
  | some a =>
   refine⟨_,rfl,_,rfl,bJ ⟨_,rfl,_,rfl,_,_,rfl,rfl,_,rfl,?_⟩⟩
   cases hx:decide (a<=n) with
   | false=>exact bJ (by have k':=k;simp only [i5,hx,Bool.false_and] at k';exact k')
   | true =>
    refine bT ?_
    cases hi with
    | none=>exact⟨_,rfl,_,rfl,bT (by have k':=k;simp only [i5,hx,Bool.true_and] at k';exact k')⟩
    | some b =>
     refine⟨_,rfl,_,rfl,bJ ⟨_,rfl,_,rfl,_,_,rfl,rfl,?_⟩⟩
     have k':=k
     simp only [i5,hx,Bool.true_and] at k'
     exact k'
theorem pV {f:Addr} {fd:FuncData} (F:bQ K "part_below" "part_below" hZ f fd) (Z:Bl mg)  : ba P w K mg base bN 1 f fd ["stretch", "number"] (j4 K fj):=by
 refine F.ok (k:=0) eN (fun vs H Q E h=>?_) (fun cdv A outer s H vs Q E hr h=>?_)
 ·obtain⟨p,n,lo,hi,rfl,_⟩:=h
  rfl
 ·obtain⟨p,n,lo,hi,rfl,hp,q⟩:=h
  refine⟨_,(af (dE (pv 0) (dD rfl (bc (aK (i:=2) eN.nd) (bc (aK (i:=3) eN.nd) cW))))
   (af (aY (i:=4) eN.nd (d5 (fR (gP (pv 3))) (aZ fT (pv 1) ah) (aR (oB rfl) rfl Z.min vW (aL (pv 3) (aZ fT (pv 1) ah)))))
   (af (bw (PW.pt (mw (fR (nF (pv 2))) (ky (aF kC (pv 2) (pv 4) (aS _)))))
   (ai (aB gO))
   aV)
   (ai (aB (bh (aL (pv 2) (pv 4)))))))),?_⟩
  refine⟨_,rfl,p,_,rfl,hp,rfl,_,_,rfl,_,_,rfl,rfl,?_⟩
  cases hi with
  | none =>
   refine⟨_,rfl,_,rfl,bT ⟨_,rfl,_,_,rfl,rfl,?_⟩⟩
   cases lo with
   | none =>
    refine⟨_,rfl,_,rfl,bJ (bJ ⟨_,rfl,_,rfl,ln2,fun l hl=>?_⟩)⟩
    exact q _ _ ⟨l,rfl,aa⟩ (ae.new hl)
   | some i =>
    refine⟨_,rfl,_,rfl,bT ⟨_,rfl,_,rfl,_,_,rfl,rfl,_,rfl,?_⟩⟩
    refine du (fun hc=>?_) (fun hc=>?_)
    ·have hlt:i6 none n < i:=of_decide_eq_true hc
     exact q _ _ (by simp only [fj];rw [if_pos hlt];rfl) (ae.refl H)
    ·have hlt:¬ i6 none n < i:=fun z=>hc (decide_eq_true z)
     refine⟨_,rfl,_,rfl,ln2,fun l hl=>?_⟩
     exact q _ _ (by simp only [fj];rw [if_neg hlt];exact⟨l,rfl,aa⟩) (ae.new hl)
  | some j =>
   refine⟨_,rfl,_,rfl,bJ ⟨_,rfl,_,rfl,_,_,rfl,rfl,_,_,rfl,?_⟩⟩
   cases lo with
   | none =>
    refine⟨_,rfl,_,rfl,bJ (bJ ⟨_,rfl,_,rfl,ln2,fun l hl=>?_⟩)⟩
    exact q _ _ ⟨l,rfl,aa⟩ (ae.new hl)
   | some i =>
    refine⟨_,rfl,_,rfl,bT ⟨_,rfl,_,rfl,_,_,rfl,rfl,_,rfl,?_⟩⟩
    refine du (fun hc=>?_) (fun hc=>?_)
    ·have hlt:i6 (some j) n < i:=of_decide_eq_true hc
     exact q _ _ (by simp only [fj];rw [if_pos hlt];rfl) (ae.refl H)
    ·have hlt:¬ i6 (some j) n < i:=fun z=>hc (decide_eq_true z)
     refine⟨_,rfl,_,rfl,ln2,fun l hl=>?_⟩
     exact q _ _ (by simp only [fj];rw [if_neg hlt];exact⟨l,rfl,aa⟩) (ae.new hl)
theorem rN {f:Addr} {fd:FuncData} (F:bQ K "part_from" "part_from" ix f fd) (Z:Bl mg)  : ba P w K mg base bN 1 f fd ["stretch", "number"] (j4 K gH):=by
 refine F.ok (k:=0) fB (fun vs H Q E h=>?_) (fun cdv A outer s H vs Q E hr h=>?_)
 ·obtain⟨p,n,lo,hi,rfl,_⟩:=h
  rfl
 ·obtain⟨p,n,lo,hi,rfl,hp,q⟩:=h
  refine⟨_,(af (dE (pv 0) (dD rfl (bc (aK (i:=2) fB.nd) (bc (aK (i:=3) fB.nd) cW))))
   (af (aY (i:=4) fB.nd (d5 (fR (gP (pv 2))) (pv 1) (aR (vI rfl) rfl Z.max A5 (aL (pv 2) (pv 1)))))
   (af (bw (PW.pt (mw (fR (nF (pv 3))) (ky (aF kC (pv 4) (pv 3) (aS _)))))
   (ai (aB gO))
   aV)
   (ai (aB (bh (aL (pv 4) (pv 3)))))))),?_⟩
  refine⟨_,rfl,p,_,rfl,hp,rfl,_,_,rfl,_,_,rfl,rfl,?_⟩
  cases lo with
  | none =>
   refine⟨_,rfl,_,rfl,bT ⟨_,rfl,?_⟩⟩
   cases hi with
   | none =>
    refine⟨_,rfl,_,rfl,bJ (bJ ⟨_,rfl,_,rfl,ln2,fun l hl=>?_⟩)⟩
    exact q _ _ ⟨l,rfl,aa⟩ (ae.new hl)
   | some j =>
    refine⟨_,rfl,_,rfl,bT ⟨_,rfl,_,rfl,_,_,rfl,rfl,_,rfl,?_⟩⟩
    refine du (fun hc=>?_) (fun hc=>?_)
    ·have hlt:j < i7 none n:=of_decide_eq_true hc
     exact q _ _ (by simp only [gH];rw [if_pos hlt];rfl) (ae.refl H)
    ·have hlt:¬ j < i7 none n:=fun z=>hc (decide_eq_true z)
     refine⟨_,rfl,_,rfl,ln2,fun l hl=>?_⟩
     exact q _ _ (by simp only [gH];rw [if_neg hlt];exact⟨l,rfl,aa⟩) (ae.new hl)
  | some i =>
   refine⟨_,rfl,_,rfl,bJ ⟨_,rfl,_,rfl,_,_,rfl,?_⟩⟩
   cases hi with
   | none =>
    refine⟨_,rfl,_,rfl,bJ (bJ ⟨_,rfl,_,rfl,ln2,fun l hl=>?_⟩)⟩
    exact q _ _ ⟨l,rfl,aa⟩ (ae.new hl)
   | some j =>
    refine⟨_,rfl,_,rfl,bT ⟨_,rfl,_,rfl,_,_,rfl,rfl,_,rfl,?_⟩⟩
    refine du (fun hc=>?_) (fun hc=>?_)
    ·have hlt:j < i7 (some i) n:=of_decide_eq_true hc
     exact q _ _ (by simp only [gH];rw [if_pos hlt];rfl) (ae.refl H)
    ·have hlt:¬ j < i7 (some i) n:=fun z=>hc (decide_eq_true z)
     refine⟨_,rfl,_,rfl,ln2,fun l hl=>?_⟩
     exact q _ _ (by simp only [gH];rw [if_neg hlt];exact⟨l,rfl,aa⟩) (ae.new hl)
theorem vp {f:Addr} {fd:FuncData} (F:bQ K "part_at" "part_at" kj f fd) (Z:Bl mg) (O_lies_in:Own P w K mg base "lies_in" 1 ["number", "stretch"] (tR K)):ba P w K mg base bN 2 f fd ["stretch", "number"] (j4 K qE):=by
 refine F.ok (k:=1) vk (fun vs H Q E h=>?_) (fun cdv A outer s H vs Q E hr h=>?_)
 ·obtain⟨p,n,lo,hi,rfl,_⟩:=h
  rfl
 ·obtain⟨p,n,lo,hi,rfl,hp,q⟩:=h
  refine⟨_,(af (bw (mr (aH O_lies_in hr (aL (pv 1) (pv 0))))
   (ai (aB (bh (aL (pv 1) (pv 1)))))
   aV)
   (ai (aB gO))),?_⟩
  refine⟨_,rfl,_,rfl,n,p,lo,hi,rfl,hp,_,rfl,?_⟩
  refine du (fun hc=>?_) (fun hc=>?_)
  ·refine⟨_,rfl,_,rfl,ln2,fun l hl=>?_⟩
   exact q _ _ (by simp only [qE,if_pos hc];exact⟨l,rfl,aa⟩) (ae.new hl)
  ·exact q _ _ (by simp only [qE,if_neg hc];rfl) (ae.refl H)
theorem ow {f:Addr} {fd:FuncData} (F:bQ K "part_beside" "part_beside" gn f fd) (Z:Bl mg)  : ba P w K mg base bN 1 f fd ["stretch", "number"] (j4 K i8):=by
 refine F.ok (k:=0) fM (fun vs H Q E h=>?_) (fun cdv A outer s H vs Q E hr h=>?_)
 ·obtain⟨p,n,lo,hi,rfl,_⟩:=h
  rfl
 ·obtain⟨p,n,lo,hi,rfl,hp,q⟩:=h
  refine⟨_,(af (dE (pv 0) (dD rfl (bc (aK (i:=2) fM.nd) (bc (aK (i:=3) fM.nd) cW))))
   (af (bw (PW.pt (mw (aF dn (pv 2) (pv 1) (aS _)) (ky (aF dn (pv 3) (pv 1) (aS _)))))
   (ai (aB gO))
   aV)
   (af (bw (aF dn (pv 2) (pv 1) (aS _))
   (ai (aB (bh (aL (aZ cS (pv 1) ah) (pv 3)))))
   aV)
   (af (bw (aF dn (pv 3) (pv 1) (aS _))
   (ai (aB (bh (aL (pv 2) (aZ fT (pv 1) ah)))))
   aV)
   (ai (aB (bh (aL (pv 2) (pv 3))))))))),?_⟩
  refine⟨_,rfl,p,_,rfl,hp,rfl,_,_,rfl,_,_,rfl,rfl,?_⟩
  refine⟨_,rfl,_,rfl,jS,_,rfl,?_⟩
  rw [mL]
  refine du (fun hc=>?_) (fun hc=>?_)
  ·have h1:lo=some n:=of_decide_eq_true hc
   refine⟨_,rfl,_,rfl,jS,_,rfl,?_⟩
   rw [mL]
   refine du (fun hd=>?_) (fun hd=>?_)
   ·have h2:hi=some n:=of_decide_eq_true hd
    exact q _ _ (by simp only [i8,if_pos h1,if_pos h2];rfl) (ae.refl H)
   ·have h2:¬ hi=some n:=fun z=>hd (decide_eq_true z)
    refine⟨_,rfl,_,rfl,jS,_,rfl,?_⟩
    rw [mL,hc]
    refine bT ⟨_,rfl,_,_,rfl,rfl,_,rfl,ln2,fun l hl=>?_⟩
    exact q _ _ (by simp only [i8,if_pos h1,if_neg h2];exact⟨l,rfl,aa⟩) (ae.new hl)
  ·have h1:¬ lo=some n:=fun z=>hc (decide_eq_true z)
   refine bJ ?_
   refine⟨_,rfl,_,rfl,jS,_,rfl,?_⟩
   rw [mL,show decide (lo=some n)=false from decide_eq_false h1]
   refine bJ ?_
   refine⟨_,rfl,_,rfl,jS,_,rfl,?_⟩
   rw [mL]
   refine du (fun hd=>?_) (fun hd=>?_)
   ·have h2:hi=some n:=of_decide_eq_true hd
    refine⟨_,rfl,_,rfl,_,_,rfl,rfl,ln2,fun l hl=>?_⟩
    exact q _ _ (by simp only [i8,if_neg h1,if_pos h2];exact⟨l,rfl,aa⟩) (ae.new hl)
   ·have h2:¬ hi=some n:=fun z=>hd (decide_eq_true z)
    refine⟨_,rfl,_,rfl,ln2,fun l hl=>?_⟩
    exact q _ _ (by simp only [i8,if_neg h1,if_neg h2];exact⟨l,rfl,aa⟩) (ae.new hl)
theorem vq {f:Addr} {fd:FuncData} (F:bQ K "part_of" "part_of" km f fd) (Z:Bl mg) (O_part_below:Own P w K mg base "part_below" 1 ["stretch", "number"] (j4 K fj)) (O_part_from:Own P w K mg base "part_from" 1 ["stretch", "number"] (j4 K gH)) (O_part_at:Own P w K mg base "part_at" 2 ["stretch", "number"] (j4 K qE)) (O_part_beside:Own P w K mg base "part_beside" 1 ["stretch", "number"] (j4 K i8)):ba P w K mg base bN 3 f fd ["stretch", "word", "number", "side"] (tS K):=by
 refine F.ok (k:=2) vm (fun vs H Q E h=>?_) (fun cdv A outer s H vs Q E hr h=>?_)
 ·obtain⟨p,w,n,side,lo,hi,rfl,_⟩:=h
  rfl
 ·obtain⟨p,w,n,side,lo,hi,rfl,hp,q⟩:=h
  refine⟨_,(af (bw (aF dn (pv 1) bL (aS _))
   (ai (aB (d5 (mr (pv 3)) (aH O_part_below hr (aL (pv 0) (pv 2))) (aH O_part_from hr (aL (pv 0) (pv 2))))))
   aV)
   (ai (aB (d5 (mr (pv 3)) (aH O_part_at hr (aL (pv 0) (pv 2))) (aH O_part_beside hr (aL (pv 0) (pv 2))))))),?_⟩
  refine⟨_,rfl,rfl,_,rfl,?_⟩
  by_cases hw:w = "less"
  ·subst hw
   rw [wg]
   refine bT ⟨_,rfl,_,rfl,?_⟩
   cases side with
   | true=>exact bT ⟨_,rfl,_,rfl,p,n,lo,hi,rfl,hp,fun v H1 r s1=>q v H1 (by simp only [fk,mK,if_true];exact r) s1⟩
   | false=>exact bJ ⟨_,rfl,_,rfl,p,n,lo,hi,rfl,hp,fun v H1 r s1=>q v H1 (by simp only [fk,mK,if_true,Bool.false_eq_true,if_false];exact r) s1⟩
  ·have e:decide (V.str w=V.str "less")=false:=decide_eq_false fun z=>hw (V.str.inj z)
   rw [e]
   refine bJ ⟨_,rfl,_,rfl,?_⟩
   cases side with
   | true=>exact bT ⟨_,rfl,_,rfl,p,n,lo,hi,rfl,hp,fun v H1 r s1=>q v H1 (by simp only [fk,we,if_neg hw,if_true];exact r) s1⟩
   | false=>exact bJ ⟨_,rfl,_,rfl,p,n,lo,hi,rfl,hp,fun v H1 r s1=>q v H1 (by simp only [fk,we,if_neg hw,Bool.false_eq_true,if_false];exact r) s1⟩
theorem so {f:Addr} {fd:FuncData} (F:bQ K "facts_of" "facts_of" jm f fd) (Z:Bl mg) {aA:Addr} (GA:gh K mg aA)  : ba P w K mg base bN 1 f fd ["stretches"] (jX aA):=by
 refine F.ok (k:=0) si (fun vs H Q E h=>?_) (fun cdv A outer s H vs Q E hr h=>?_)
 ·obtain⟨d,kvs,ks,T,rfl,_⟩:=h
  rfl
 ·obtain⟨d,kvs,ks,T,rfl,hd,tb,hl,q⟩:=h
  refine⟨_,(ai (aB (br bu rfl Z.tuple cm (ay (cE ["name"] ["stretches"] [0] rfl (dU (aR (qG rfl) rfl Z.sorted eZ (ay (pv 0)))) rfl (by decide +kernel) (by decide +kernel) (by decide +kernel) ⟨⟨rfl,.inl rfl,rfl⟩,True.intro⟩ (fun _ _ _ _=>(aK (i:=0) (show ((["name"]:List Str)++(["stretches"]:List Str)).Nodup by decide +kernel) (hf:=Or.inr rfl))) (fun _ _ _ _=>(d9 (aF (Bs (aA:=aA) hr.units GA) (tE (gF hr) (pv 1) (pv 0) (fun _ _=>rfl)) (eT (v:=.ref aA) rfl GA.oQ rfl) (aS _)))) (fun _ _ _ _=>(bh (aL (pv 0) (tE (gF hr) (pv 1) (pv 0) (fun _ _=>rfl)))))))))),?_⟩
  refine⟨_,rfl,d,kvs,ks,rfl,hd,tb.keys,hl,fun l ss hp hs hn=>?_⟩
  have srt:ij ss:=⟨oZ hs,hp.nodup_iff.mpr tb.nd⟩
  have hl1:(upd H l (.lst (ss.map V.str))) l=some (.lst (ss.map V.str)):=aa
  have s1:ae H (upd H l (.lst (ss.map V.str))):=ae.new hn
  have hssl:ss.length < 64:=by rw [hp.length_eq];exact hl
  generalize (upd H l (.lst (ss.map V.str)))=H1 at hl1 s1
  refine⟨l,rfl,⟨_,aI.of hl1⟩,fun acc na=>?_⟩
  refine iG (K:=K) (a:=l) (xs:=ss.map V.str) (fun i ys τ H'=>∃ c:Option V,τ = [c,some (.ref d)]/\aU H' ys (((ss.take i).filter fun x=>!decide (T x=df)).map (dF T))/\H' acc=some (.lst ys)/\ae H1 H') ?_ ?_ ?_ ?_
  ·exact⟨none,rfl,.nil,aa,ae.new na⟩
  ·rintro i ys τ H2 hi ⟨c,rfl,r,ha,s2⟩
   refine⟨aI.of (s2 _ _ hl1),ha,?_⟩
   have h1:=r.len
   rw [List.length_map] at h1
   have h2:=List.length_filter_le (fun x=>!decide (T x=df)) (ss.take i)
   have h3:=List.length_take_le i ss
   have h4:(ss.take i).length<=ss.length:=by rw [List.length_take];omega
   exact aX (by omega)
  ·rintro i x ys τ H2 hi ⟨c,rfl,r,ha,s2⟩
   obtain⟨y,hy,rfl⟩:∃ y,ss[i]? = some y/\x=V.str y:=by
    rw [List.getElem?_map] at hi
    cases e:ss[i]? with
    | none=>rw [e] at hi;cases hi
    | some k=>rw [e] at hi;exact⟨k,rfl,(Option.some.inj hi).symm⟩
   have hym:y ∈ ks:=hp.mem_iff.mp (List.mem_of_getElem? hy)
   have tk:ss.take (i+1)=ss.take i ++ [y]:=by rw [List.take_add_one,hy];rfl
   obtain⟨v,ev,sv,_⟩:∃ v,cn kvs (Sum.inr y)=some v/\SV aA H v (T y)/\y ∈ ks:=by
    rcases tb.val y with ⟨_,_,c⟩ | h
    ·exact absurd hym c
    ·exact h
   have sv2:SV aA H2 v (T y):=sv.aW fun p xs e=>s2 _ _ (s1 _ _ e)
   have hd2:H2 d=some (.dK kvs):=s2 _ _ (s1 _ _ hd)
   have dg:fI H2 d (.str y) (some v):=by
    have:=fI.k (k:=Sum.inr y) hd2
    rw [ev] at this
    exact this
   refine bF ?_
   refine⟨_,rfl,_,rfl,d,v,rfl,dg,T y,sv2,rfl,_,rfl,?_⟩
   by_cases hT:T y=df
   ·refine bB (by rw [decide_eq_true hT];rfl) ?_
    refine⟨_,rfl,?_,ha,s2⟩
    rw [tk,List.filter_append,List.filter_cons_of_neg (by rw [decide_eq_true hT];decide),List.filter_nil,List.append_nil]
    exact r
   ·refine cL (by rw [decide_eq_false hT];rfl) ?_
    refine⟨_,rfl,_,rfl,_,rfl,d,v,rfl,dg,ln2,fun t nt=>?_⟩
    have s3:=ae.new (o:=.tup [.str y,v]) nt
    have ht:(upd H2 t (.tup [.str y,v])) t=some (.tup [.str y,v]):=aa
    generalize (upd H2 t (.tup [.str y,v]))=H3 at s3 ht
    have sh:SH H3 v (T y):=by
     rcases sv2 with h | ⟨_,h⟩
     ·exact h.aW fun p xs e=>s3 _ _ e
     ·exact absurd h hT
    have ha3:=s3 _ _ ha
    refine⟨ha3,_,rfl,?_,aa,(s2.trans s3).put na⟩
    rw [tk,List.filter_append,List.filter_cons_of_pos (by rw [decide_eq_false hT];rfl),List.filter_nil,List.map_append]
    refine aU.app ((r.same s3 (kM T _)).put ha3 (kM T _)) ?_
    refine aP.aW (H:=H3) (fun p zs e=>by rw [ao (bH e ha3 (by intro z;cases z))];exact e) (.tup ht (.cons (.str y) (.cons sh.rd .nil))) ?_
    have:=kM T [y]
    simpa [bV] using this
  ·rintro ys τ H2 ⟨c,rfl,r,ha,s2⟩
   rw [List.length_map,List.take_length] at r
   refine⟨acc,ys,rfl,.inl ⟨aI.of ha,fun t nt=>?_⟩⟩
   refine q _ _ ⟨t,ys,_,rfl,aa,srt.filter _,fun x=>?_,r.same (ae.new nt) (kM T _)⟩ ((s1.trans s2).trans (ae.new nt))
   rw [List.mem_filter]
   constructor
   ·rintro⟨_,h⟩ e
    rw [decide_eq_true e] at h
    cases h
   ·intro h
    refine⟨?_,by rw [decide_eq_false h];rfl⟩
    rcases tb.val x with ⟨_,a,_⟩ | ⟨_,_,_,a⟩
    ·exact absurd a h
    ·exact hp.mem_iff.mpr a
theorem yV {f:Addr} {fd:FuncData} (F:bQ K "known" "known" oi f fd) (Z:Bl mg) {aA:Addr} (GA:gh K mg aA)  : ba P w K mg base bN 1 f fd ["facts", "name"] (tQ aA):=by
 refine F.ok (k:=0) yT (fun vs H Q E h=>?_) (fun cdv A outer s H vs Q E hr h=>?_)
 ·obtain⟨fv,x,T,rfl,_⟩:=h
  rfl
 ·obtain⟨fv,x,T,rfl,hf,q⟩:=h
  refine⟨_,(ai (aB (ie (gF hr) (br (fm rfl) rfl Z.dict nQ (ay (pv 0))) (pv 1) (eT (v:=.ref aA) rfl GA.oQ rfl) ⟨rfl,rfl,rfl,rfl⟩))),?_⟩
  obtain⟨fp,xs,ss,rfl,hfp,srt,hmem,rf⟩:=hf
  obtain⟨kvs,l1,l2,l3,tb⟩:=FV.tb aA srt hmem rf
  refine⟨_,rfl,fp,xs,kvs,rfl,hfp,l1,l2,l3,fun d nd=>?_⟩
  obtain⟨v,ev,sv⟩:=tb.getD x
  exact⟨d,rfl,.inl ⟨kvs,.inl aa⟩,_,rfl,_,v,fI.k (k:=Sum.inr x) aa,ev,q v _ (sv.aW fun p zs e=>ae.new nd _ _ e) (ae.new nd)⟩
theorem pW {f:Addr} {fd:FuncData} (F:bQ K "with_known" "with_known" h9 f fd) (Z:Bl mg) {aA:Addr} (GA:gh K mg aA) (O_facts_of:Own P w K mg base "facts_of" 1 ["stretches"] (jX aA)):ba P w K mg base bN 2 f fd ["facts", "name", "stretch"] (lF aA):=by
 refine F.ok (k:=1) jD (fun vs H Q E h=>?_) (fun cdv A outer s H vs Q E hr h=>?_)
 ·obtain⟨fv,sv,x,T,s,rfl,_⟩:=h
  rfl
 ·obtain⟨fv,sv,x,T,s,rfl,hf,hs,b0,q⟩:=h
  refine⟨_,(af (aY (i:=3) jD.nd (br (fm rfl) rfl Z.dict nQ (ay (pv 0))))
   (af (nP (gF hr) (pv 3) (pv 1) (pv 2) rfl)
   (ai (aB (aH O_facts_of hr (ay (pv 3))))))),?_⟩
  obtain⟨fp,xs,ss,rfl,hfp,srt,hmem,rf⟩:=hf
  obtain⟨kvs,l1,l2,l3,tb⟩:=FV.tb aA srt hmem rf
  have hssl:ss.length<=62:=b0 ss (fun x hx=>(hmem x).mp hx) srt.nd
  have kl:kvs.length=ss.length:=by have:=congrArg List.length tb.keys;simpa using this
  refine⟨_,rfl,fp,xs,kvs,rfl,hfp,l1,l2,l3,fun d nd=>?_⟩
  have k1:∀ p zs,H p=some (.tup zs)->(upd H d (.dK kvs)) p=some (.tup zs):=fun p zs e=>ae.new nd _ _ e
  refine⟨_,rfl,_,rfl,_,rfl,d,_,rfl,lT.k (k:=Sum.inr x) aa (aX (by omega)),?_⟩
  obtain⟨ks2,t2,k2,m2⟩:=(tb.aW k1).put x (hs.aW k1)
  have hd1:(upd H d (.dK kvs)) d=some (.dK kvs):=aa
  refine⟨_,rfl,d,_,ks2,_,rfl,aa,t2.aW (fun p zs e=>by rw [ao (bH e hd1 (by intro z;cases z))];exact e),(by omega),fun v H2 f2 s2=>q v H2 f2 (((ae.new nd).put nd).trans s2)⟩
theorem yW {f:Addr} {fd:FuncData} (F:bQ K "moved" "moved" om f fd) (Z:Bl mg)  : ba P w K mg base bN 1 f fd ["stretch", "number"] (tP K):=by
 refine F.ok (k:=0) mh (fun vs H Q E h=>?_) (fun cdv A outer s H vs Q E hr h=>?_)
 ·obtain⟨p,s,n,rfl,_⟩:=h
  rfl
 ·obtain⟨p,s,n,rfl,hp,q⟩:=h
  refine⟨_,(af (dE (pv 0) (dD rfl (bc (aK (i:=2) mh.nd) (bc (aK (i:=3) mh.nd) cW))))
   (ai (aB (bh (aL (d5 (fR (gP (pv 2))) gO (aZ cS (pv 2) (pv 1))) (d5 (fR (gP (pv 3))) gO (aZ cS (pv 3) (pv 1)))))))),?_⟩
  obtain⟨lo,hi⟩:=s
  refine⟨_,rfl,p,_,rfl,hp,rfl,_,_,rfl,_,_,rfl,rfl,?_⟩
  cases lo with
  | none =>
   refine⟨_,rfl,_,rfl,bT ?_⟩
   cases hi with
   | none=>exact⟨_,rfl,_,rfl,bT ⟨ln2,fun t nt=>q _ _ ⟨t,rfl,aa⟩ (ae.new nt)⟩⟩
   | some b=>exact⟨_,rfl,_,rfl,bJ ⟨_,rfl,_,rfl,_,_,rfl,rfl,ln2,fun t nt=>q _ _ ⟨t,rfl,aa⟩ (ae.new nt)⟩⟩
  | some a =>
   refine⟨_,rfl,_,rfl,bJ ⟨_,rfl,_,rfl,_,_,rfl,rfl,?_⟩⟩
   cases hi with
   | none=>exact⟨_,rfl,_,rfl,bT ⟨ln2,fun t nt=>q _ _ ⟨t,rfl,aa⟩ (ae.new nt)⟩⟩
   | some b=>exact⟨_,rfl,_,rfl,bJ ⟨_,rfl,_,rfl,_,_,rfl,rfl,ln2,fun t nt=>q _ _ ⟨t,rfl,aa⟩ (ae.new nt)⟩⟩
theorem kR {f:Addr} {fd:FuncData} (F:bQ K "stretch_behind" "stretch_behind" eR f fd) (Z:Bl mg) {aA:Addr} (GA:gh K mg aA) (O_moved:Own P w K mg base "moved" 1 ["stretch", "number"] (tP K)):ba P w K mg base bN 2 f fd ["stretches", "deed"] (mW aA):=by
  refine F.ok (k:=1) gx (fun vs H Q E h=>?_) (fun cdv A outer s H vs Q E hr h=>?_)
  · obtain⟨d,w,kvs,ks,T,dd,rfl,_⟩:=h
    rfl
  · obtain⟨d,w,kvs,ks,T,dd,rfl,hd,tb,hw,q⟩:=h
    refine⟨_,(af (qv (AH (i:=2) (j:=3) rfl gx.nd rfl rfl (by decide) rfl rfl (aL (aO bM (pv 1) ah) (aO bM (pv 1) ah)) rfl))
      (af (bw (aF dn (pv 2) bL (aS _))
      (ai (aB (bh (aL (aO bM (pv 1) ah) (aO bM (pv 1) ah)))))
      aV)
      (af (bw (aF dn (pv 2) bL (aS _))
      (ai (aB (ie (gF hr) (pv 0) (aO bM (pv 1) ah) (eT (v:=.ref aA) rfl GA.oQ rfl) ⟨rfl,rfl,rfl,rfl⟩)))
      aV)
      (af (bw (aF dn (pv 2) bL (aS _))
      (ai (aB (aH O_moved hr (aL (ie (gF hr) (pv 0) (pv 3) (eT (v:=.ref aA) rfl GA.oQ rfl) ⟨rfl,rfl,rfl,rfl⟩) (aO bM (pv 1) ah)))))
      aV)
      (af (bw (aF dn (pv 2) bL (aS _))
      (ai (aB (eT (v:=.ref aA) rfl GA.oQ rfl)))
      aV)
      (ai (aB (ie (gF hr) (pv 0) (pv 3) (eT (v:=.ref aA) rfl GA.oQ rfl) ⟨rfl,rfl,rfl,rfl⟩)))))))),?_⟩
    cases dd
    case put x n =>
      refine⟨fun σ' H'=>σ' = [some (.ref d),some (.ref w),some (.str "put"),some (.str x)]/\H=H',⟨_,rfl,w,_,0,_,rfl,rfl,av.of hw,eW,_,rfl,w,_,1,_,rfl,rfl,av.of hw,eX,_,_,rfl,rfl,rfl⟩,?_⟩
      rintro σ' H' ⟨rfl,rfl⟩
      refine⟨_,rfl,rfl,_,rfl,?_⟩
      refine cL (show decide (V.str "put" = V.str "put")=true by decide +kernel) ?_
      exact⟨_,rfl,w,_,2,_,rfl,rfl,av.of hw,at2,_,rfl,w,_,2,_,rfl,rfl,av.of hw,at2,ln2,fun t nt=>q _ _ (.inl ⟨t,rfl,aa⟩) (ae.new nt)⟩
    case copy x y =>
      refine⟨fun σ' H'=>σ' = [some (.ref d),some (.ref w),some (.str "copy"),some (.str x)]/\H=H',⟨_,rfl,w,_,0,_,rfl,rfl,av.of hw,eW,_,rfl,w,_,1,_,rfl,rfl,av.of hw,eX,_,_,rfl,rfl,rfl⟩,?_⟩
      rintro σ' H' ⟨rfl,rfl⟩
      refine⟨_,rfl,rfl,_,rfl,?_⟩
      refine bB (show decide (V.str "copy" = V.str "put")=false by decide +kernel) ?_
      refine⟨_,rfl,rfl,_,rfl,?_⟩
      refine cL (show decide (V.str "copy" = V.str "copy")=true by decide +kernel) ?_
      obtain⟨v,ev,sv⟩:=tb.getD y
      exact⟨_,rfl,d,rfl,.inl ⟨kvs,.inl hd⟩,_,rfl,w,_,2,_,rfl,rfl,av.of hw,at2,_,v,fI.k (k:=Sum.inr y) hd,ev,q _ _ sv (ae.refl H)⟩
    case add x n =>
      refine⟨fun σ' H'=>σ' = [some (.ref d),some (.ref w),some (.str "add"),some (.str x)]/\H=H',⟨_,rfl,w,_,0,_,rfl,rfl,av.of hw,eW,_,rfl,w,_,1,_,rfl,rfl,av.of hw,eX,_,_,rfl,rfl,rfl⟩,?_⟩
      rintro σ' H' ⟨rfl,rfl⟩
      refine⟨_,rfl,rfl,_,rfl,?_⟩
      refine bB (show decide (V.str "add" = V.str "put")=false by decide +kernel) ?_
      refine⟨_,rfl,rfl,_,rfl,?_⟩
      refine bB (show decide (V.str "add" = V.str "copy")=false by decide +kernel) ?_
      refine⟨_,rfl,rfl,_,rfl,?_⟩
      refine cL (show decide (V.str "add" = V.str "add")=true by decide +kernel) ?_
      obtain⟨v,ev,sv⟩:=tb.getD x
      obtain⟨qa,rfl,hqa⟩:=sv.sq GA
      exact⟨_,rfl,d,rfl,.inl ⟨kvs,.inl hd⟩,_,rfl,_,_,fI.k (k:=Sum.inr x) hd,ev,_,rfl,w,_,2,_,rfl,rfl,av.of hw,at2,qa,T x,n,rfl,hqa,fun v H' sh s1=>q _ _ (.inl sh) s1⟩
    case read x =>
      refine⟨fun σ' H'=>σ' = [some (.ref d),some (.ref w),some (.str "read"),some (.str x)]/\H=H',⟨_,rfl,w,_,0,_,rfl,rfl,av.of hw,eW,_,rfl,w,_,1,_,rfl,rfl,av.of hw,eX,_,_,rfl,rfl,rfl⟩,?_⟩
      rintro σ' H' ⟨rfl,rfl⟩
      refine⟨_,rfl,rfl,_,rfl,?_⟩
      refine bB (show decide (V.str "read" = V.str "put")=false by decide +kernel) ?_
      refine⟨_,rfl,rfl,_,rfl,?_⟩
      refine bB (show decide (V.str "read" = V.str "copy")=false by decide +kernel) ?_
      refine⟨_,rfl,rfl,_,rfl,?_⟩
      refine bB (show decide (V.str "read" = V.str "add")=false by decide +kernel) ?_
      refine⟨_,rfl,rfl,_,rfl,?_⟩
      refine cL (show decide (V.str "read" = V.str "read")=true by decide +kernel) ?_
      exact q _ _ (.inr ⟨rfl,rfl⟩) (ae.refl H)
    case tell x =>
      refine⟨fun σ' H'=>σ' = [some (.ref d),some (.ref w),some (.str "tell"),some (.str x)]/\H=H',⟨_,rfl,w,_,0,_,rfl,rfl,av.of hw,eW,_,rfl,w,_,1,_,rfl,rfl,av.of hw,eX,_,_,rfl,rfl,rfl⟩,?_⟩
      rintro σ' H' ⟨rfl,rfl⟩
      refine⟨_,rfl,rfl,_,rfl,?_⟩
      refine bB (show decide (V.str "tell" = V.str "put")=false by decide +kernel) ?_
      refine⟨_,rfl,rfl,_,rfl,?_⟩
      refine bB (show decide (V.str "tell" = V.str "copy")=false by decide +kernel) ?_
      refine⟨_,rfl,rfl,_,rfl,?_⟩
      refine bB (show decide (V.str "tell" = V.str "add")=false by decide +kernel) ?_
      refine⟨_,rfl,rfl,_,rfl,?_⟩
      refine bB (show decide (V.str "tell" = V.str "read")=false by decide +kernel) ?_
      obtain⟨v,ev,sv⟩:=tb.getD x
      exact⟨_,rfl,d,rfl,.inl ⟨kvs,.inl hd⟩,_,rfl,_,v,fI.k (k:=Sum.inr x) hd,ev,q _ _ sv (ae.refl H)⟩
theorem xj {f:Addr} {fd:FuncData} (F:bQ K "behind" "behind" mi f fd) (Z:Bl mg) {aA:Addr} (GA:gh K mg aA) (O_stretch_behind:Own P w K mg base "stretch_behind" 2 ["stretches", "deed"] (mW aA)) (O_facts_of:Own P w K mg base "facts_of" 1 ["stretches"] (jX aA)):ba P w K mg base bN 3 f fd ["facts", "deeds"] qU:=by
 refine F.ok (k:=2) kn (fun vs H Q E h=>?_) (fun cdv A outer s H vs Q E hr h=>?_)
 ·obtain⟨fv,p,ws,ds,T,m,rfl,_⟩:=h
  rfl
 ·obtain⟨fv,p,ws,ds,T,m,rfl,hf,hp,r,b0,hm,q⟩:=h
  refine⟨_,(af (aY (i:=2) kn.nd (br (fm rfl) rfl Z.dict nQ (ay (pv 0))))
   (af (di PassesOwn.never rfl (dG (pv 1)) (aK (i:=3) kn.nd)
   (ai (nP (gF hr) (pv 2) (aO bM (pv 3) ah) (aH O_stretch_behind hr (aL (pv 2) (pv 3))) rfl)))
   (ai (aB (aH O_facts_of hr (ay (pv 2))))))),?_⟩
  obtain⟨fp,xs,ss,rfl,hfp,srt,hmem,rf⟩:=hf
  obtain⟨kvs,l1,l2,l3,tb⟩:=FV.tb aA srt hmem rf
  have hssl:ss.length<=m:=b0 ss (fun x hx=>(hmem x).mp hx) srt.nd
  refine⟨_,rfl,fp,xs,kvs,rfl,hfp,l1,l2,l3,fun d nd=>?_⟩
  have tb1:Tb aA (upd H d (.dK kvs)) kvs ss T:=tb.aW fun p xs e=>ae.new nd _ _ e
  refine⟨_,rfl,p,rfl,⟨_,av.of (ae.new nd _ _ hp)⟩,fF (K:=K) (a:=p) (xs:=ws) (fun i σ H'=>∃ (c:Option V) (kvs':List (Key × V)) (ks':List Str),σ = [some (.ref fp),some (.ref p),some (.ref d),c]/\H' d=some (.dK kvs')/\Tb aA H' kvs' ks' (cF T (ds.take i))/\ks'.length<=m+i/\ae H H') ?_ ?_ ?_ ?_⟩
  ·exact⟨none,kvs,ss,rfl,aa,tb1,hssl,ae.new nd⟩
  ·rintro i σ H1 hi ⟨c,kvs1,ks1,rfl,h1,t1,k1,s1⟩
   exact av.of (s1 _ _ hp)
  ·rintro i x σ H1 hi ⟨c,kvs1,ks1,rfl,h1,t1,k1,s1⟩
   have hil:i < ds.length:=by
    have:=(List.getElem?_eq_some_iff.mp hi).1
    rw [r.len,List.length_map] at this
    exact this
   have hdi:ds[i]? = some ds[i]:=by simp [hil]
   generalize ds[i] = dd at hdi
   obtain⟨v,hv,rd⟩:=r.get (i:=i) (d:=ef dd) (by rw [List.getElem?_map,hdi];rfl)
   rw [hi] at hv
   cases hv
   obtain⟨dp,rfl,hdp⟩:=tF rd
   have tk:cF T (ds.take (i+1))=yu (cF T (ds.take i)) dd:=by
    unfold cF
    rw [List.take_add_one,hdi,Option.toList_some,List.foldl_append]
    rfl
   refine bF ?_
   refine⟨_,rfl,_,rfl,d,dp,kvs1,ks1,_,dd,rfl,h1,t1,s1 _ _ hdp,fun v H2 sv s2=>?_⟩
   have h2:=s2 _ _ h1
   have kl:kvs1.length=ks1.length:=by have:=congrArg List.length t1.keys;simpa using this
   refine⟨_,rfl,_,rfl,dp,_,1,_,rfl,rfl,av.of (s2 _ _ (s1 _ _ hdp)),ya dd,d,_,rfl,lT.k (k:=Sum.inr (mN dd)) h2 (aX (by omega)),?_⟩
   obtain⟨ks2,t2,k2,_⟩:=(t1.aW fun p xs e=>s2 _ _ e).put (mN dd) sv
   refine⟨_,_,ks2,rfl,aa,?_,by omega,(s1.trans s2).put nd⟩
   rw [tk]
   exact t2.aW fun p xs e=>by rw [ao (bH e h2 (by intro z;cases z))];exact e
  ·rintro σ H1 ⟨c,kvs1,ks1,rfl,h1,t1,k1,s1⟩
   have hwl:ws.length=ds.length:=by rw [r.len,List.length_map]
   rw [hwl,List.take_length] at t1
   refine⟨_,rfl,d,kvs1,ks1,_,rfl,h1,t1,(by omega),fun v H2 f2 s2=>q v H2 f2 (s1.trans s2)⟩
theorem nv {f:Addr} {fd:FuncData} (F:bQ K "known_beyond" "known_beyond" fN f fd) (Z:Bl mg) {aA:Addr} (GA:gh K mg aA) (O_ways_on:Own P w K mg base "ways_on" 3 ["end"] iJ) (O_known:Own P w K mg base "known" 1 ["facts", "name"] (tQ aA)) (O_part_of:Own P w K mg base "part_of" 3 ["stretch", "word", "number", "side"] (tS K)) (O_with_known:Own P w K mg base "with_known" 2 ["facts", "name", "stretch"] (lF aA)):ba P w K mg base bN 4 f fd ["facts", "end"] (qY aA):=by
  refine F.ok (k:=3) cw (fun vs H Q E h=>?_) (fun cdv A outer s H vs Q E hr h=>?_)
  · obtain⟨fv,ea,T,e,rfl,_⟩:=h
    rfl
  · obtain⟨fv,ea,T,e,rfl,hf,he,b0,q⟩:=h
    refine⟨_,(af (aY (i:=2) cw.nd (aH O_ways_on hr (ay (pv 1))))
      (af (bw (aF gC (aR aN rfl Z.len bE (ay (pv 2))) ah (aS _))
      (ai (aB (br bu rfl Z.tuple cm (ay (cE ["way"] ["facts"] [0] rfl (dG (pv 2)) rfl (by decide +kernel) (by decide +kernel) (by decide +kernel) ⟨⟨rfl,.inl rfl,rfl⟩,True.intro⟩ (fun _ _ _ _=>(aK (i:=0) (show ((["way"]:List Str)++(["facts"]:List Str)).Nodup by decide +kernel) (hf:=Or.inr rfl))) (fun _ _ _ _=>eY) (fun _ _ _ _=>(pv 1)))))))
      aV)
      (af (qv (dE (bh (hX (aO bM (pv 1) ah) (aO bM (pv 1) ah) (aO bM (pv 1) ah))) (dD rfl (bc (aK (i:=3) cw.nd) (bc (aK (i:=4) cw.nd) (bc (aK (i:=5) cw.nd) cW))))))
      (af (aY (i:=6) cw.nd (aH O_known hr (aL (pv 0) (pv 4))))
      (af (iV (i:=7) ["side"] ["stretch", "word", "number"] [6,3,5] rfl cw.nd rfl rfl rfl (dG (bh (aL gy gy))) rfl (by decide +kernel) (by decide +kernel) (by decide +kernel) ⟨⟨rfl,.inl rfl,rfl⟩,⟨⟨rfl,.inl rfl,rfl⟩,⟨⟨rfl,.inl rfl,rfl⟩,True.intro⟩⟩⟩ (fun _ _ _ _=>(aK (i:=0) (show ((["side"]:List Str)++(["stretch", "word", "number"]:List Str)).Nodup by decide +kernel) (hf:=Or.inr rfl))) (fun _ _ _ _=>eY) (fun _ _ _ _=>(aH O_part_of hr (BA (pv 1) (pv 2) (pv 3) (pv 0)))))
      (ai (aB (br bu rfl Z.tuple cm (ay (cE ["part"] ["facts", "name"] [0,4] rfl (dU (pv 7)) rfl (by decide +kernel) (by decide +kernel) (by decide +kernel) ⟨⟨rfl,.inl rfl,rfl⟩,⟨⟨rfl,.inl rfl,rfl⟩,True.intro⟩⟩ (fun _ _ _ _=>(aK (i:=0) (show ((["part"]:List Str)++(["facts", "name"]:List Str)).Nodup by decide +kernel) (hf:=Or.inr rfl))) (fun _ _ _ _=>eY) (fun _ _ _ _=>(d5 (fR (gP (pv 0))) gO (aH O_with_known hr (hX (pv 1) (pv 2) (pv 0))))))))))))))),?_⟩
    refine⟨_,rfl,ea,e,rfl,he,fun wt H1 hw s1=>?_⟩
    have he1:=s1 _ _ he
    have hf1:=hf.same s1
    refine⟨_,rfl,wt,_,rfl,.inr (av.of hw),_,_,rfl,rfl,_,rfl,?_⟩
    by_cases hl:(ar e).length < 2
    · refine cL (decide_eq_true (by rw [List.length_map];omega)) ?_
      refine⟨_,rfl,wt,rfl,⟨_,av.of hw⟩,fun acc na=>?_⟩
      refine iH (K:=K) (a:=wt) (xs:=(ar e).map fun k=>V.int (k:Nat)) (fun i zs τ H'=>∃ c:Option V,τ = [c,some fv]/\zs=List.replicate i fv/\H' acc=some (.lst zs)/\ae H1 H') ?_ ?_ ?_ ?_
      · exact⟨none,rfl,rfl,aa,ae.new na⟩
      · rintro i zs τ H2 hi ⟨c,rfl,rfl,ha,s2⟩
        refine⟨av.of (s2 _ _ hw),ha,?_⟩
        rw [List.length_replicate]
        rw [List.length_map] at hi
        exact aX (by omega)
      · rintro i x zs τ H2 hi ⟨c,rfl,rfl,ha,s2⟩
        refine bF ?_
        refine jR ?_
        refine bT ?_
        refine⟨_,rfl,ha,_,rfl,?_,aa,s2.put na⟩
        rw [<-List.replicate_succ']
      · rintro zs τ H2 ⟨c,rfl,rfl,ha,s2⟩
        rw [List.length_map] at ha
        refine⟨acc,_,rfl,.inl ⟨aI.of ha,fun t nt=>?_⟩⟩
        refine q t _ _ aa ?_ ((s1.trans s2).trans (ae.new nt))
        rw [Aa hl]
        exact tU (hf1.same (s2.trans (ae.new nt))) _
    · refine bB (decide_eq_false (by rw [List.length_map];omega)) ?_
      cases e with
      | stop=>exact absurd (by show 0 < 2;omega) hl
      | go p=>exact absurd (by show 1 < 2;omega) hl
      | cH b x n p r =>
        refine⟨fun σ' H'=>σ' = [some fv,some (.ref ea),some (.ref wt),some (.str (wT b)),some (.str x),some (.int n),none,none]/\ae H1 H',?_,?_⟩
        · refine⟨_,rfl,ea,_,0,_,rfl,rfl,av.of he1,eW,_,rfl,ea,_,1,_,rfl,rfl,av.of he1,eX,_,rfl,ea,_,2,_,rfl,rfl,av.of he1,at2,sW,fun tt htt=>?_⟩
          exact⟨tt,_,rfl,av.of aa,rfl,_,_,rfl,_,_,rfl,_,_,rfl,rfl,rfl,ae.new htt⟩
        rintro σ' H2 ⟨rfl,s2⟩
        refine⟨_,rfl,_,rfl,fv,x,T,rfl,hf1.same s2,fun sv H3 hsv s3=>?_⟩
        obtain⟨sp,rfl,hsp⟩:=hsv.sq GA
        have s13:=s2.trans s3
        refine⟨ln2,fun st hst=>⟨st,rfl,⟨_,av.of aa⟩,fun acc na=>?_⟩⟩
        have s4:=ae.new (o:=.tup [.bl true,.bl false]) hst
        have hst4:(upd H3 st (.tup [.bl true,.bl false])) st=some (.tup [.bl true,.bl false]):=aa
        generalize (upd H3 st (.tup [.bl true,.bl false]))=H4 at s4 hst4 na
        refine iH (K:=K) (a:=st) (xs:=[.bl true,.bl false]) (fun i zs τ H'=>∃ c:Option V,τ = [c,some (.ref sp),some (.str (wT b)),some (.int n)]/\lG H' zs ([eC T b x n true,eC T b x n false].take i)/\H' acc=some (.lst zs)/\ae H4 H') ?_ ?_ ?_ ?_
        · exact⟨none,rfl,.nil,aa,ae.new na⟩
        · rintro i zs τ H5 hi ⟨c,rfl,rv,ha,s5⟩
          refine⟨av.of (s5 _ _ hst4),ha,?_⟩
          have h1:=Paired.length rv
          rw [List.length_take] at h1
          exact aX (by rw [h1];exact Nat.le_trans (Nat.min_le_right _ _) (by show 2<=1000;decide))
        · rintro i y zs τ H5 hi ⟨c,rfl,rv,ha,s5⟩
          obtain⟨side,rfl,hsd⟩:∃ side:Bool,y=.bl side/\[eC T b x n true,eC T b x n false][i]? = some (eC T b x n side):=by
            match i,hi with
            | 0,hi=>cases hi;exact⟨true,rfl,rfl⟩
            | 1,hi=>cases hi;exact⟨false,rfl,rfl⟩
            | i+2,hi=>simp at hi
          refine bF ?_
          refine jR ?_
          refine bT ?_
          refine⟨_,rfl,_,rfl,_,rfl,_,rfl,sp,wT b,n,side,_,_,rfl,hsp.same (s4.trans s5),fun v H6 r6 s6=>?_⟩
          have ha6:=s6 _ _ ha
          refine⟨ha6,_,rfl,?_,aa,(s5.trans s6).put na⟩
          rw [List.take_add_one,hsd]
          exact eB ((rv.same s6).put ha6) (.cons (RV.put r6 ha6) .nil)
        · rintro zs τ H5 ⟨c,rfl,rv,ha,s5⟩
          have s15:=s13.trans (s4.trans s5)
          have rv:lG H5 zs [eC T b x n true,eC T b x n false]:=rv
          have rvl:zs.length=2:=Paired.length rv
          refine⟨_,rfl,acc,rfl,⟨_,aI.of ha⟩,fun ac2 na2=>?_⟩
          refine iG (K:=K) (a:=acc) (xs:=zs) (fun i us τ H'=>∃ c:Option V,τ = [c,some fv,some (.str x)]/\jB H' us ((gi T (.cH b x n p r)).take i)/\H' ac2=some (.lst us)/\ae H5 H') ?_ ?_ ?_ ?_
          · exact⟨none,rfl,.nil,aa,ae.new na2⟩
          · rintro i us τ H6 hi ⟨c,rfl,bv,ha2,s6⟩
            refine⟨aI.of (s6 _ _ ha),ha2,?_⟩
            have h1:=Paired.length bv
            rw [List.length_take] at h1
            exact aX (by rw [h1];exact Nat.le_trans (Nat.min_le_right _ _) (by show 2<=1000;decide))
          · rintro i y us τ H6 hi ⟨c,rfl,bv,ha2,s6⟩
            obtain⟨rs,hrs,hry⟩:=il rv hi
            have hb:(gi T (.cH b x n p r))[i]? = some (rs.map (dY T x)):=by
              show ([eC T b x n true,eC T b x n false].map fun z:Rs=>Option.map (dY T x) z)[i]? = _
              rw [List.getElem?_map,hrs];rfl
            refine bF ?_
            refine jR ?_
            refine bT ?_
            cases rs with
            | none =>
              cases (show y=V.bg from hry)
              refine⟨_,rfl,_,rfl,bT ?_⟩
              refine⟨ha2,_,rfl,?_,aa,s6.put na2⟩
              rw [List.take_add_one,hb]
              refine eB (bv.aW fun p zs e=>?_) (.cons rfl .nil)
              rw [ao (bH e ha2 (by intro z;cases z))];exact e
            | some s =>
              have hsv6:SV aA H6 y s:=RV.sv (hry.same s6)
              obtain⟨yp,rfl,hyp⟩:∃ yp,y=.ref yp/\True:=by
                obtain⟨a1,b1⟩:=s
                obtain⟨yp,e,_⟩:=hry
                exact⟨yp,e,trivial⟩
              refine⟨_,rfl,_,rfl,bJ ?_⟩
              refine⟨_,rfl,_,rfl,_,rfl,fv,.ref yp,x,T,s,rfl,hf1.same (s13.trans (s4.trans (s5.trans s6))),hsv6,b0,fun v H7 f7 s7=>?_⟩
              have ha7:=s7 _ _ ha2
              refine⟨ha7,_,rfl,?_,aa,(s6.trans s7).put na2⟩
              rw [List.take_add_one,hb]
              have kt:∀ p zs,H7 p=some (.tup zs)->(upd H7 ac2 (.lst (us ++ [v]))) p=some (.tup zs):=fun p zs e=>by rw [ao (bH e ha7 (by intro z;cases z))];exact e
              exact eB ((bv.same s7).aW kt) (.cons (FV.aW f7 kt) .nil)
          · rintro us τ H6 ⟨c,rfl,bv,ha2,s6⟩
            rw [rvl] at bv
            refine⟨ac2,_,rfl,.inl ⟨aI.of ha2,fun t nt=>?_⟩⟩
            exact q t _ _ aa (jB.same (show jB H6 us (gi T (.cH b x n p r)) from bv) (ae.new nt)) ((s1.trans (s15.trans s6)).trans (ae.new nt))
theorem yX {f:Addr} {fd:FuncData} (F:bQ K "leads" "leads" oo f fd) (Z:Bl mg) (O_known_beyond:Own P w K mg base "known_beyond" 4 ["facts", "end"] (qY aA)) (O_ways_on:Own P w K mg base "ways_on" 3 ["end"] iJ):ba P w K mg base bN 5 f fd ["facts", "end"] (tT aA):=by
 refine F.ok (k:=4) rL (fun vs H Q E h=>?_) (fun cdv A outer s H vs Q E hr h=>?_)
 ·obtain⟨fv,ea,T,e,rfl,_⟩:=h
  rfl
 ·obtain⟨fv,ea,T,e,rfl,hf,he,b0,q⟩:=h
  refine⟨_,(af (aY (i:=2) rL.nd (aH O_known_beyond hr (aL (pv 0) (pv 1))))
   (ai (aB (br bu rfl Z.tuple cm (ay (cE ["way", "there"] [] [] rfl (wm rfl Z.zip (aL (aH O_ways_on hr (ay (pv 1))) (pv 2))) rfl (by decide +kernel) (by decide +kernel) (by decide +kernel) True.intro (fun _ _ _ _=>(tj (K:=K) (n:=2) rfl (dD (n:=2) rfl (bc (aK (i:=0) (show ((["way", "there"]:List Str)++([]:List Str)).Nodup by decide +kernel) (hf:=Or.inr rfl)) (bc (aK (i:=1) (show ((["way", "there"]:List Str)++([]:List Str)).Nodup by decide +kernel) (hf:=Or.inr rfl)) cW))))) (fun _ _ _ _=>(d9 (fR (nF (pv 1))))) (fun _ _ _ _=>(bh (aL (pv 0) (pv 1)))))))))),?_⟩
  refine⟨_,rfl,_,rfl,fv,ea,T,e,rfl,hf,he,b0,fun bt us H1 hb bv s1=>?_⟩
  refine⟨_,rfl,ea,e,rfl,s1 _ _ he,fun wt H2 hw s2=>?_⟩
  have hb2:=s2 _ _ hb
  have bv2:=bv.same s2
  refine⟨_,rfl,wt,bt,rfl,⟨_,av.of hw⟩,⟨_,av.of hb2⟩,fun acc na=>?_⟩
  refine wo (K:=K) (a:=wt) (b:=bt) (xs:=(ar e).map fun k=>V.int (k:Nat)) (ys:=us) (fun i zs τ H'=>∃ (c1 c2:Option V),τ = [c1,c2]/\j5 H' zs ((((ar e).zip (gi T e)).take i).filterMap fun p=>p.2.map fun U=>(p.1,U))/\zs.length<=i/\H' acc=some (.lst zs)/\ae H2 H') ?_ ?_ ?_ ?_
  ·exact⟨none,none,rfl,.nil,Nat.le_refl _,aa,ae.new na⟩
  ·rintro i zs τ H3 hi ⟨c1,c2,rfl,pv,hz,ha,s3⟩
   refine⟨av.of (s3 _ _ hw),av.of (s3 _ _ hb2),ha,?_⟩
   have h1:i<=(ar e).length:=by rw [List.length_map] at hi;omega
   have h2:(ar e).length<=2:=by cases e <;> (show _<=2) <;> simp [ar]
   exact aX (by omega)
  ·rintro i x y zs τ H3 u hx hy hu ⟨c1,c2,rfl,pv,hz,ha,s3⟩
   obtain⟨k,hk,rfl⟩:∃ k,(ar e)[i]? = some k/\x=V.int (k:Nat):=by
    rw [List.getElem?_map] at hx
    cases z:(ar e)[i]? with
    | none=>rw [z] at hx;cases hx
    | some k=>rw [z] at hx;exact⟨k,rfl,(Option.some.inj hx).symm⟩
   obtain⟨o,ho,hyo⟩:=il bv2 hy
   have hnext:=wU (T:=T) hk ho
   have su:=ae.new (o:=.tup [.int (k:Nat),y]) hu
   have hu4:(upd H3 u (.tup [.int (k:Nat),y])) u=some (.tup [.int (k:Nat),y]):=aa
   generalize (upd H3 u (.tup [.int (k:Nat),y]))=H4 at su hu4
   refine⟨u,_,rfl,av.of hu4,rfl,_,_,rfl,_,_,rfl,rfl,?_⟩
   refine⟨_,rfl,_,rfl,?_⟩
   cases o with
   | none =>
    cases (show y=V.bg from hyo)
    refine bJ ?_
    refine⟨_,_,rfl,?_,Nat.le_succ_of_le hz,su _ _ ha,s3.trans su⟩
    rw [hnext]
    simpa using pv.same su
   | some U =>
    obtain⟨yp,zsy,ssy,rfl,_⟩:=id hyo
    refine bT ?_
    refine⟨_,rfl,_,rfl,ln2,fun t nt=>?_⟩
    have s5:=ae.new (o:=.tup [.int (k:Nat),.ref yp]) nt
    have ht:(upd H4 t (.tup [.int (k:Nat),.ref yp])) t=some (.tup [.int (k:Nat),.ref yp]):=aa
    generalize (upd H4 t (.tup [.int (k:Nat),.ref yp]))=H5 at s5 ht
    have ha5:=s5 _ _ (su _ _ ha)
    have kt:∀ p ws,H5 p=some (.tup ws)->(upd H5 acc (.lst (zs ++ [V.ref t]))) p=some (.tup ws):=fun p ws e=>by rw [ao (bH e ha5 (by intro z;cases z))];exact e
    refine⟨ha5,_,_,rfl,?_,(by rw [List.length_append];show _+1<=_;omega),aa,(s3.trans (su.trans s5)).put na⟩
    rw [hnext]
    exact eB ((pv.same (su.trans s5)).aW kt) (.cons ⟨t,.ref yp,rfl,kt _ _ ht,FV.aW (FV.same hyo (s3.trans (su.trans s5))) kt⟩ .nil)
  ·rintro zs τ H3 ⟨c1,c2,rfl,pv,hz,ha,s3⟩
   have hm:min ((ar e).map fun k=>V.int (k:Nat)).length us.length=((ar e).zip (gi T e)).length:=by
    rw [List.length_zip,List.length_map,Paired.length bv2]
   rw [hm,List.take_length] at pv
   refine⟨acc,_,rfl,.inl ⟨aI.of ha,fun t nt=>?_⟩⟩
   exact q t zs _ aa (j5.same (show j5 H3 zs (b8 T e) from pv) (ae.new nt)) (((s1.trans s2).trans s3).trans (ae.new nt))
theorem yY {f:Addr} {fd:FuncData} (F:bQ K "start" "start" oq f fd) (Z:Bl mg) (O_names_of:Own P w K mg base "names_of" 3 ["plan"] oX):ba P w K mg base bN 4 f fd ["plan"] tV:=by
 refine F.ok (k:=3) yU (fun vs H Q E h=>?_) (fun cdv A outer s H vs Q E hr h=>?_)
 ·obtain⟨plv,ps,xs,m,rfl,_⟩:=h
  rfl
 ·obtain⟨plv,ps,xs,m,rfl,hp,pok,hx,hal,q⟩:=h
  refine⟨_,(ai (aB (br bu rfl Z.tuple cm (ay (cE ["name"] [] [] rfl (dG (aH O_names_of hr (ay (pv 0)))) rfl (by decide +kernel) (by decide +kernel) (by decide +kernel) True.intro (fun _ _ _ _=>(aK (i:=0) (show ((["name"]:List Str)++([]:List Str)).Nodup by decide +kernel) (hf:=Or.inr rfl))) (fun _ _ _ _=>eY) (fun _ _ _ _=>(bh (aL (pv 0) (bh (aL ah ah)))))))))),?_⟩
  refine⟨_,rfl,plv,ps,xs,m,rfl,hp,pok,hx,hal,fun nt ss H1 hnt hperm hsort hsl s1=>?_⟩
  refine⟨nt,rfl,⟨_,av.of hnt⟩,fun acc na=>?_⟩
  refine iH (K:=K) (a:=nt) (xs:=ss.map V.str) (fun i zs τ H'=>∃ c:Option V,τ = [c]/\aU H' zs ((ss.take i).map fun x=>.tuple [.str x,.tuple [.int 0,.int 0]])/\H' acc=some (.lst zs)/\ae H1 H') ?_ ?_ ?_ ?_
  ·exact⟨none,rfl,.nil,aa,ae.new na⟩
  ·rintro i zs τ H2 hi ⟨c,rfl,r,ha,s2⟩
   refine⟨av.of (s2 _ _ hnt),ha,?_⟩
   have h1:=r.len
   rw [List.length_map,List.length_take] at h1
   exact aX (by omega)
  ·rintro i x zs τ H2 hi ⟨c,rfl,r,ha,s2⟩
   obtain⟨y,hy,rfl⟩:∃ y,ss[i]? = some y/\x=V.str y:=by
    rw [List.getElem?_map] at hi
    cases e:ss[i]? with
    | none=>rw [e] at hi;cases hi
    | some k=>rw [e] at hi;exact⟨k,rfl,(Option.some.inj hi).symm⟩
   refine bF ?_
   refine jR ?_
   refine bT ?_
   refine⟨_,rfl,ln2,fun t1 n1=>⟨ln2,fun t2 n2=>?_⟩⟩
   have q1:=ae.new (o:=.tup [.int 0,.int 0]) n1
   have q2:=ae.new (o:=.tup [.str y,.ref t1]) n2
   have ha3:=q2 _ _ (q1 _ _ ha)
   have kt:∀ p ws,(upd (upd H2 t1 (.tup [.int 0,.int 0])) t2 (.tup [.str y,.ref t1])) p=some (.tup ws)->(upd (upd (upd H2 t1 (.tup [.int 0,.int 0])) t2 (.tup [.str y,.ref t1])) acc (.lst (zs ++ [V.ref t2]))) p=some (.tup ws):=fun p ws e=>by rw [ao (bH e ha3 (by intro z;cases z))];exact e
   refine⟨ha3,_,rfl,?_,aa,((s2.trans q1).trans q2).put na⟩
   rw [List.take_add_one,hy,List.map_append]
   exact (((r.same q1 (e7 _)).same q2 (e7 _)).aW kt (e7 _)).app (.tup (kt _ _ aa) (.cons (.str _) (.cons (.tup (kt _ _ (q2 _ _ aa)) (.cons (.int _) (.cons (.int _) .nil))) .nil)))
  ·rintro zs τ H2 ⟨c,rfl,r,ha,s2⟩
   rw [List.length_map,List.take_length] at r
   refine⟨acc,_,rfl,.inl ⟨aI.of ha,fun t ht=>?_⟩⟩
   exact q (.ref t) ss _ (.tup aa (r.same (ae.new ht) (e7 _))) hperm hsort ((s1.trans s2).trans (ae.new ht))
theorem ny {f:Addr} {fd:FuncData} (F:bQ K "__init__" "Row.__init__" fO f fd) (Z:Bl mg) {C:Addr} (T:qW K C)  : ba P w K mg base bN 1 f fd ["self", "first"] (m6 P w C):=by
 refine F.ok (k:=0) nj (fun vs H Q E h=>?_) (fun cdv A outer s H vs Q E hr h=>?_)
 ·obtain⟨r,dx,k,d0,rfl,_⟩:=h
  rfl
 ·obtain⟨r,dx,k,d0,rfl,hr0,hk,rd,nl,q⟩:=h
  refine⟨_,(af (vL (pv 0) (b6 (ay (pv 1))) rfl)
   (ai (vL (pv 0) (yB (nZ hr) (xW (pv 1) ah zO) rfl rfl (List.cons_ne_nil _ _) (by show 1<=15;decide)) rfl))),?_⟩
  refine⟨_,rfl,ze,fun m nm=>?_⟩
  have s1:=ae.new (o:=.lst [.ref k]) nm
  have hm1:(upd H m (.lst [.ref k])) m=some (.lst [.ref k]):=aa
  have nrm:r ≠ m:=aw hr0 nm
  have rd1:=rd.same s1 nl
  generalize (upd H m (.lst [.ref k]))=H1 at s1 hm1 rd1
  have hr1:=s1 _ _ hr0
  refine⟨_,rfl,r,C,dx,_,rfl,hr1,T.cl,T.members,(by show 0 < 1000;decide),?_⟩
  have kt1:∀ p zs,H1 p=some (.tup zs)->∀ o,(upd H1 r o) p=some (.tup zs):=fun p zs e o=>by rw [ao (bH e hr1 (by intro z;cases z))];exact e
  refine fun d nd=>?_
  have ndr:r ≠ d:=fun z=>by rw [<-z,aa] at nd;cases nd
  have nd1:H1 d=none:=by rw [ao ndr.symm] at nd;exact nd
  have ndm:d ≠ m:=fun z=>by rw [z,hm1] at nd1;cases nd1
  have kt2:∀ p zs,H1 p=some (.tup zs)->∀ o o',(upd (upd H1 r o) d o') p=some (.tup zs):=fun p zs e o o'=>by rw [ao (aw e nd1)];exact kt1 p zs e o
  refine⟨_,rfl,aa,k,.int 0,d0,rfl,hk,rd1.aW (fun p zs e=>kt2 p zs e _ _) nl,?_⟩
  refine⟨_,rfl,r,C,dx,_,rfl,(by rw [ao ndr,ao ndr,aa]),T.cl,T.places,(by rw [m5];show 1 < 1000;decide),?_⟩
  refine q m d _ ⟨⟨dx,by rw [aa,m5,wQ]⟩,?_,?_,fun p hp=>?_⟩ (fun c o e n=>?_) nm (s1.free nd1)
  ·rw [ao nrm.symm,ao ndm.symm,ao ndm.symm,ao nrm.symm];exact hm1
  ·rw [ao ndr.symm,aa];rfl
  ·rw [List.mem_singleton.mp hp]
   refine⟨hk,rd1.aW (fun p zs e=>?_) nl⟩
   have hpr:p ≠ r:=bH e hr1 (by intro z;cases z)
   have hpd:p ≠ d:=aw e nd1
   rw [ao hpr,ao hpd,ao hpd,ao hpr];exact e
  ·rw [ao n,ao (aw (s1 _ _ e) nd1),ao (aw (s1 _ _ e) nd1),ao n];exact s1 _ _ e
theorem nz {f:Addr} {fd:FuncData} (F:bQ K "place_of" "Row.place_of" fP f fd) (Z:Bl mg) {C:Addr} (T:qW K C)  : ba P w K mg base bN 1 f fd ["self", "thing"] (m7 P w C):=by
  refine F.ok (k:=0) nq (fun vs H Q E h=>?_) (fun cdv A outer s H vs Q E hr h=>?_)
  · obtain⟨r,m,d,k,d0,ms,rfl,_⟩:=h
    rfl
  · obtain⟨r,m,d,k,d0,ms,rfl,A,hms,hk,rd,nl,nls,q⟩:=h
    refine⟨_,(af (bw (aF (uW (nZ hr)) (pv 1) (fc (pv 0) rfl) (by with_unfolding_all rfl))
      (af (dE (aR aN rfl Z.len bE (ay (fc (pv 0) rfl))) (mx (fc (pv 0) rfl) (pv 1) (yx (nZ hr))))
      (ai (dC (eJ PySem.F.plainAttrs_list PySem.F.slot_list_append PySem.F.type_list_append dJ (fc (pv 0) rfl) (ay (pv 1))))))
      aV)
      (ai (aB (z9 (nZ hr) (fc (pv 0) rfl) (pv 1) (fun _ _=>rfl))))),?_⟩
    obtain⟨dx,hob⟩:=A.ob
    obtain⟨n1,n2,n3⟩:=A.Dl
    have hml:(ms.map fun p=>V.ref p.2).length=ms.length:=List.length_map ..
    have hv:=jd d0 0 ms
    refine⟨_,rfl,_,rfl,r,C,dx,_,_,rfl,hob,T.cl,T.places,fZ,k,d,d0,cy 0 ms,rfl,rfl,⟨A.j8,A.iC,hk,rd⟩,_,rfl,?_⟩
    by_cases hm:d0 ∈ ms.map (·.1)
    · rw [if_pos hm] at hv
      refine bB (by rw [hv];rfl) ?_
      have e:je ms d0 k=ms:=by unfold je;rw [if_pos hm]
      rw [e] at q
      refine⟨_,rfl,r,C,dx,_,_,rfl,hob,T.cl,T.places,fZ,_,rfl,k,d,d0,cy 0 ms,_,rfl,rfl,⟨A.j8,A.iC,hk,rd⟩,hv,?_⟩
      rw [Nat.zero_add]
      exact q H A jb.refl
    · rw [if_neg hm] at hv
      refine cL (by rw [hv];rfl) ?_
      refine⟨_,rfl,r,C,dx,_,_,rfl,hob,T.cl,T.members,fq,m,_,rfl,.inl (aI.of A.mem),_,rfl,r,C,dx,_,_,rfl,hob,T.cl,T.places,fZ,_,rfl,k,d,d0,cy 0 ms,rfl,rfl,⟨A.j8,A.iC,hk,rd⟩,aX (by rw [lZ];omega),?_⟩
      have eput:putD (cy 0 ms) d0 k (.int ((ms.map fun p=>V.ref p.2).length:Nat))=cy 0 (ms ++ [(d0,k)]):=by
        unfold putD
        rw [hv,q8,hml,Nat.zero_add]
        rfl
      rw [eput]
      try change (_:Hp->Prop) (upd H d (dN P w d (cy 0 (ms ++ [(d0,k)]))))
      have hob1:(upd H d (dN P w d (cy 0 (ms ++ [(d0,k)])))) r=some (.ins C dx (nX (.ref m) (.ref d))):=by rw [ao n2];exact hob
      have hm1:(upd H d (dN P w d (cy 0 (ms ++ [(d0,k)])))) m=some (.lst (ms.map fun p=>V.ref p.2)):=by rw [ao n3.symm];exact A.mem
      refine⟨_,rfl,r,C,dx,_,_,rfl,hob1,T.cl,T.members,fq,.inl ⟨rfl,_,aI.of hm1⟩,_,rfl,m,_,_,rfl,rfl,hm1,aX (by omega),?_⟩
      have e:je ms d0 k=ms ++ [(d0,k)]:=by unfold je;rw [if_neg hm]
      rw [e] at q
      have kt:∀ p zs,H p=some (.tup zs)->∀ o o',(upd (upd H d o) m o') p=some (.tup zs):=fun p zs h o o'=>by
        rw [ao (bH h A.mem (by intro z;cases z)),ao (bH h A.j8 (by intro z;cases z))];exact h
      have keys:∀ (H':Hp),(∀ p zs,H p=some (.tup zs)->H' p=some (.tup zs))->∀ p ∈ ms ++ [(d0,k)],dB p.1/\aP H' (.ref p.2) p.1:=fun H' kt' p hp=>by
        rcases List.mem_append.mp hp with hp | hp
        · exact⟨(A.keys p hp).1,(A.keys p hp).2.aW kt' (nls p hp)⟩
        · rw [List.mem_singleton.mp hp];exact⟨hk,rd.aW kt' nl⟩
      have A2:ft P w C (upd (upd H d (dN P w d (cy 0 (ms ++ [(d0,k)])))) m (.lst ((ms.map fun p=>V.ref p.2) ++ [.ref k]))) r m d (ms ++ [(d0,k)]) :=
        ⟨⟨dx,by rw [ao n1];exact hob1⟩,by rw [aa,List.map_append];rfl,by rw [ao n3,aa],keys _ fun p zs h=>kt p zs h _ _⟩
      have hv2:=jd d0 0 (ms ++ [(d0,k)])
      rw [if_pos (by rw [List.map_append];exact List.mem_append_right _ (List.mem_singleton.mpr rfl)),Nat.zero_add] at hv2
      obtain⟨dx2,hob2⟩:=A2.ob
      refine⟨_,rfl,r,C,dx2,_,_,rfl,hob2,T.cl,T.places,fZ,_,rfl,k,d,d0,_,_,rfl,rfl,⟨A2.j8,A2.iC,hk,(A2.keys (d0,k) (List.mem_append_right _ (List.mem_singleton.mpr rfl))).2⟩,hv2,?_⟩
      exact q _ A2 fun c o h c1 c2=>by rw [ao c1,ao c2];exact h
theorem vt {f:Addr} {fd:FuncData} (F:bQ K "reached" "reached" ko f fd) (Z:Bl mg) (O_ways_on:Own P w K mg base "ways_on" 3 ["end"] iJ):ba P w K mg base bN 4 f fd ["plan"] o7:=by
  refine bQ.Dk F (k:=3) fC (fun vs H Q E h=>?_) (fun cdv A outer s H vs Q E hcd hr h=>?_)
  · obtain⟨plv,ps,rfl,_⟩:=h
    rfl
  · obtain⟨plv,ps,rfl,hp,hin,hn0,hn,q⟩:=h
    refine⟨_,(af (aY (i:=1) fC.nd (Ad hcd ah))
      (af (aY (i:=2) fC.nd (b6 (ay ah)))
      (af (iT PassesOwn.never (xE (pv 2) (fun _=>rfl))
      (af (aY (i:=3) fC.nd (AZ PySem.F.plainAttrs_list PySem.F.slot_list_pop PySem.F.type_list_pop A0 (pv 2)))
      (ai (di PassesOwn.never rfl (dG (aH O_ways_on hr (ay (aO bM (aO bM (pv 0) (pv 3)) ah)))) (aK (i:=4) fC.nd)
      (ai (bw (aF wL (pv 4) (pv 1) (by with_unfolding_all rfl))
      (af (dC (wM PySem.F.slot_set_add PySem.F.type_set_add tN (pv 1) (ay (pv 4))))
      (ai (dC (eJ PySem.F.plainAttrs_list PySem.F.slot_list_append PySem.F.type_list_append dJ (pv 2) (ay (pv 4))))))
      aV))))))
      (ai (aB (br bu rfl Z.tuple cm (ay (aR (jx rfl) rfl Z.sorted eZ (ay (pv 1)))))))))),?_⟩
    obtain⟨pp,vs,rfl,e1,r1⟩:=aP.bx hp
    have hvl:=r1.len
    rw [List.length_map] at hvl
    refine fun fs nfs=>?_
    refine⟨aa,Sum.inl (0:Int),rfl,?_⟩
    try change (_:Hp->Prop) (upd (upd H fs (bU P w fs [])) fs (bU P w fs [Sum.inl (0:Int)]))
    rw [zt]
    have s1:=ae.new (o:=bU P w fs [Sum.inl (0:Int)]) nfs
    have hf1:(upd H fs (bU P w fs [Sum.inl (0:Int)])) fs=some (bU P w fs (kI [0])):=aa
    generalize (upd H fs (bU P w fs [Sum.inl (0:Int)]))=H1 at s1 hf1
    refine⟨ze,fun wl nwl=>?_⟩
    have s2:=ae.new (o:=.lst [.int 0]) nwl
    have hf2:=s2 _ _ hf1
    have hw2:(upd H1 wl (.lst [.int 0])) wl=some (.lst (vN [0])):=aa
    have nfw:fs ≠ wl:=aw hf1 nwl
    have nwH:H wl=none:=s1.free nwl
    have s12:=s1.trans s2
    generalize (upd H1 wl (.lst [.int 0]))=H2 at s2 hf2 hw2 s12
    refine⟨fun m σ H'=>∃ (ks ws:List Nat) (u1 u2:Option V),σ = [some (.ref pp),some (.ref fs),some (.ref wl),u1,u2]/\H' fs=some (bU P w fs (kI ks))/\H' wl=some (.lst (vN ws))/\uZ ps ks ws/\m=2 * (ps.length - ks.length)+ws.length/\ws.length<=ks.length/\ae H H',⟨_,[0],[0],_,_,rfl,hf2,hw2,⟨by simp,fun k hk=>by rw [List.mem_singleton.mp hk];exact hn0,fun k hk=>by rw [List.mem_singleton.mp hk];exact .zero,by simp,fun k hk=>hk,fun k hk=>.inl hk⟩,rfl,Nat.le_refl _,s12⟩,?_⟩
    rintro m σ H3 ⟨ks,ws,u1,u2,rfl,hf3,hw3,sk,hm,hwk,s3⟩
    have hkn:=cV sk.nd sk.lt
    refine⟨_,rfl,!(vN ws).isEmpty,.inl ⟨_,aI.of hw3,rfl⟩,?_⟩
    rcases (show ws = []\/∃ ws' at_,ws=ws' ++ [at_] from (List.eq_nil_or_concat ws).imp id fun ⟨a,b,h⟩=>⟨a,b,by rw [h,List.concat_eq_append]⟩) with rfl | ⟨ws',at_,rfl⟩
    · refine bB rfl ?_
      refine⟨_,rfl,fs,ks.map (fun k:Nat=>(k:Int)),rfl,(by rw [hf3,n4];rfl),(by rw [List.length_map];omega),fun l ss hperm _ nl=>?_⟩
      obtain⟨ms,rfl,hms⟩:=fw hperm
      refine⟨l,_,rfl,.inl ⟨aI.of aa,?_⟩⟩
      rw [<-j3]
      intro t nt
      refine q t ms _ aa (fun k=>(hms.mem_iff).trans (sk.all k)) (fun k hk=>sk.lt k (hms.mem_iff.mp hk)) (by rw [hms.length_eq];omega) ((s3.trans (ae.new nl)).trans (ae.new nt))
    · have hwl:(ws' ++ [at_]).length=ws'.length+1:=by rw [List.length_append];rfl
      have hev:vN (ws' ++ [at_])=vN ws' ++ [V.int (at_:Nat)]:=by show (ws' ++ [at_]).map _=_;rw [List.map_append];rfl
      refine cL (by rw [hev];cases vN ws' <;> rfl) ?_
      have hak:at_ ∈ ks:=sk.sub at_ (List.mem_append_right _ (List.mem_singleton.mpr rfl))
      have hat:=sk.lt at_ hak
      have hps:ps[at_]? = some ps[at_]:=by simp [hat]
      generalize ps[at_] = pce at hps
      obtain⟨ds,e⟩:=pce
      obtain⟨p',xs',pc,da,ea,wsv,ep,e1',el',hx',e2,e3,r3,e4⟩:=d6 hp hps
      cases ep
      rw [e1] at e1'
      cases e1'
      refine⟨fun σ' H'=>∃ (ks' ws2:List Nat) (u1 u2:Option V),σ' = [some (.ref pp),some (.ref fs),some (.ref wl),u1,u2]/\H' fs=some (bU P w fs (kI ks'))/\H' wl=some (.lst (vN ws2))/\uZ ps ks' ws2/\2 * (ps.length - ks'.length)+ws2.length < m/\ws2.length<=ks'.length/\ae H H',fun σ' H' ⟨ks',ws2,u1,u2,h1,h2,h3,h4,h5,h6,h7⟩=>⟨_,h5,ks',ws2,u1,u2,h1,h2,h3,h4,rfl,h6,h7⟩,?_⟩
      refine⟨_,rfl,.inl ⟨rfl,_,aI.of hw3⟩,wl,_,.int (at_:Nat),rfl,rfl,hw3,(by rw [hev];simp),?_⟩
      have hdl:(vN (ws' ++ [at_])).dropLast=vN ws':=by rw [hev,List.dropLast_concat]
      rw [hdl]
      have hw4:(upd H3 wl (.lst (vN ws'))) wl=some (.lst (vN ws')):=aa
      have hf4:(upd H3 wl (.lst (vN ws'))) fs=some (bU P w fs (kI ks)):=by rw [ao nfw];exact hf3
      have s4:ae H (upd H3 wl (.lst (vN ws'))):=s3.put nwH
      generalize (upd H3 wl (.lst (vN ws')))=H4 at hw4 hf4 s4
      refine⟨_,rfl,_,rfl,pp,_,_,_,rfl,rfl,av.of (s4 _ _ e1),bO hx',pc,_,1,_,rfl,rfl,av.of (s4 _ _ e2),eX,ea,e,rfl,s4 _ _ e4,fun wt H5 hwt s5=>?_⟩
      refine⟨wt,rfl,⟨_,av.of hwt⟩,fF (K:=K) (a:=wt) (xs:=vN (ar e)) (fun i σ H'=>∃ (ks' add:List Nat) (u2:Option V),σ = [some (.ref pp),some (.ref fs),some (.ref wl),some (.int (at_:Nat)),u2]/\H' fs=some (bU P w fs (kI ks'))/\H' wl=some (.lst (vN (ws' ++ add)))/\ks' = ks++add/\ks'.Nodup/\(∀ k ∈ ks',k < ps.length)/\(∀ k ∈ add,eQ ps k)/\(∀ k ∈ (ar e).take i,k ∈ ks')/\(∀ c o,H5 c=some o->c ≠ fs->c ≠ wl->H' c=some o)) ?_ ?_ ?_ ?_⟩
      · exact⟨ks,[],_,rfl,s5 _ _ hf4,by rw [List.append_nil];exact s5 _ _ hw4,by rw [List.append_nil],sk.nd,sk.lt,(fun _ h=>nomatch h),(fun _ h=>by simp at h),fun c o h _ _=>h⟩
      · rintro i σ H6 hi ⟨ks',add,u2,rfl,h1,h2,rfl,h4,h5,h6,h7,h8⟩
        exact av.of (h8 _ _ hwt (bH hwt (s5 _ _ hf4) (by intro z;cases z)) (bH hwt (s5 _ _ hw4) (by intro z;cases z)))
      · rintro i y σ H6 hi ⟨ks',add,u2,rfl,h1,h2,rfl,h4,h5,h6,h7,h8⟩
        obtain⟨k0,hk0,rfl⟩:∃ k,(ar e)[i]? = some k/\y=V.int (k:Nat):=by
          rw [List.getElem?_map] at hi
          cases z:(ar e)[i]? with
          | none=>rw [z] at hi;cases hi
          | some k=>rw [z] at hi;exact⟨k,rfl,(Option.some.inj hi).symm⟩
        have hk0m:=List.mem_of_getElem? hk0
        have hk0b:=iN hin hps k0 hk0m
        have htk:(ar e).take (i+1)=(ar e).take i ++ [k0]:=by rw [List.take_add_one,hk0];rfl
        refine bF ?_
        refine⟨_,rfl,_,rfl,fs,_,Sum.inl (k0:Int),rfl,h1,rfl,fun b hb=>⟨_,rfl,?_⟩⟩
        rw [rg] at hb
        by_cases hm0:k0 ∈ ks++add
        · refine bB (by rw [hb.mpr hm0];rfl) ?_
          refine⟨ks++add,add,_,rfl,h1,h2,rfl,h4,h5,h6,fun k hk=>?_,h8⟩
          rw [htk] at hk
          rcases List.mem_append.mp hk with hk | hk
          · exact h7 k hk
          · rw [List.mem_singleton.mp hk];exact hm0
        · refine cL (by rw [Bool.eq_false_iff.mpr fun z=>hm0 (hb.mp z)];rfl) ?_
          have hfew:=cV h4 h5
          refine⟨_,rfl,⟨fs,_,rfl,h1⟩,_,rfl,fs,_,Sum.inl (k0:Int),rfl,rfl,h1,(by rw [List.length_map];exact Nat.lt_of_le_of_lt (show (ks++add).length+1<=1002 by omega) (by decide)),?_⟩
          rw [rm,show LS.putIn (ks++add) k0=ks++(add ++ [k0]) by unfold LS.putIn;rw [if_neg hm0,List.append_assoc]]
          try change (_:Hp->Prop) (upd H6 fs (bU P w fs (kI (ks++(add ++ [k0])))))
          have h27:(upd H6 fs (bU P w fs (kI (ks++(add ++ [k0]))))) wl=some (.lst (vN (ws' ++ add))):=by rw [ao nfw.symm];exact h2
          have hal:(ws' ++ add).length<=200:=by
            rw [List.length_append] at hfew ⊢
            omega
          refine⟨_,rfl,.inl ⟨rfl,_,aI.of h27⟩,_,rfl,wl,_,_,rfl,rfl,h27,aX (by rw [List.length_map];omega),?_⟩
          refine⟨_,add ++ [k0],_,rfl,by rw [ao nfw,aa],?_,rfl,?_,?_,?_,?_,fun c o h c1 c2=>by rw [ao c2,ao c1];exact h8 c o h c1 c2⟩
          · rw [aa]
            show _=some (HO.lst ((ws' ++ (add ++ [k0])).map _))
            rw [<-List.append_assoc,List.map_append]
            rfl
          · rw [<-List.append_assoc,List.nodup_append]
            refine⟨h4,by simp,fun x hx y hy z=>?_⟩
            rw [List.mem_singleton.mp hy] at z
            exact hm0 (z ▸ hx)
          · intro k hk
            rw [<-List.append_assoc] at hk
            rcases List.mem_append.mp hk with hk | hk
            · exact h5 k hk
            · rw [List.mem_singleton.mp hk];exact hk0b
          · intro k hk
            rcases List.mem_append.mp hk with hk | hk
            · exact h6 k hk
            · rw [List.mem_singleton.mp hk];exact .step (sk.rn at_ hak) hps hk0m
          · intro k hk
            rw [htk] at hk
            rw [<-List.append_assoc]
            rcases List.mem_append.mp hk with hk | hk
            · exact List.mem_append_left _ (h7 k hk)
            · exact List.mem_append_right _ hk
      · rintro σ H6 ⟨ks',add,u2,rfl,h1,h2,rfl,h4,h5,h6,h7,h8⟩
        rw [show (vN (ar e)).length=(ar e).length from List.length_map ..,List.take_length] at h7
        have hfew:=cV h4 h5
        refine⟨ks++add,ws' ++ add,_,_,rfl,h1,h2,⟨h4,h5,fun k hk=>?_,List.mem_append_left _ sk.zero,fun k hk=>?_,fun k hk=>?_⟩,?_,?_,fun c o h=>?_⟩
        · rcases List.mem_append.mp hk with hk | hk
          · exact sk.rn k hk
          · exact h6 k hk
        · rcases List.mem_append.mp hk with hk | hk
          · exact List.mem_append_left _ (sk.sub k (List.mem_append_left _ hk))
          · exact List.mem_append_right _ hk
        · rcases List.mem_append.mp hk with hk | hk
          · by_cases hka:k=at_
            · subst hka
              refine .inr fun ds' e' he' j hj=>?_
              rw [hps] at he'
              cases he'
              exact h7 j hj
            · rcases sk.done k hk with hw | hd
              · rcases List.mem_append.mp hw with hw | hw
                · exact .inl (List.mem_append_left _ hw)
                · exact absurd (List.mem_singleton.mp hw) hka
              · exact .inr fun ds' e' he' j hj=>List.mem_append_left _ (hd ds' e' he' j hj)
          · exact .inl (List.mem_append_right _ hk)
        · rw [List.length_append] at hfew ⊢
          rw [List.length_append] at ⊢
          rw [hwl] at hm
          omega
        · rw [List.length_append,List.length_append]
          omega
        · exact h8 c o (s5 _ _ (s4 _ _ h)) (aw h nfs) (aw h nwH)
theorem yZ {f:Addr} {fd:FuncData} (F:bQ K "heads" "heads" ou f fd) (Z:Bl mg) (O_reached:Own P w K mg base "reached" 4 ["plan"] o7) (O_ways_on:Own P w K mg base "ways_on" 3 ["end"] iJ):ba P w K mg base bN 5 f fd ["plan"] tW:=by
 refine F.ok (k:=4) jn (fun vs H Q E h=>?_) (fun cdv A outer s H vs Q E hr h=>?_)
 ·obtain⟨plv,ps,rfl,_⟩:=h
  rfl
 ·obtain⟨plv,ps,rfl,hp,hin,hn0,hn,q⟩:=h
  refine⟨_,(af (aY (i:=1) jn.nd (ux wJ rfl Z.set qR))
   (af (di PassesOwn.never rfl (dG (aH O_reached hr (ay (pv 0)))) (aK (i:=2) jn.nd)
   (ai (di PassesOwn.never rfl (dG (aH O_ways_on hr (ay (aO bM (aO bM (pv 0) (pv 2)) ah)))) (aK (i:=3) jn.nd)
   (ai (bw (aF pY (pv 3) (pv 2) (aS _))
   (ai (dC (wM PySem.F.slot_set_add PySem.F.type_set_add tN (pv 1) (ay (pv 3)))))
   aV)))))
   (ai (aB (br bu rfl Z.tuple cm (ay (aR (jx rfl) rfl Z.sorted eZ (ay (pv 1))))))))),?_⟩
  obtain⟨pp,vs,rfl,e1,r1⟩:=aP.bx hp
  have hvl:=r1.len
  rw [List.length_map] at hvl
  refine⟨rfl,fun fs nfs=>?_⟩
  try change (_:Hp->Prop) (upd H fs (bU P w fs []))
  have s1:=ae.new (o:=bU P w fs []) nfs
  have hf1:(upd H fs (bU P w fs [])) fs=some (bU P w fs (kI [])):=aa
  generalize (upd H fs (bU P w fs []))=H1 at s1 hf1
  refine⟨_,rfl,_,ps,rfl,hp.same s1 (dz ps),hin,hn0,hn,fun t ks H2 ht hks hlt hkl s2=>?_⟩
  have hf2:=s2 _ _ hf1
  have s12:=s1.trans s2
  refine⟨t,rfl,⟨_,av.of ht⟩,fF (K:=K) (a:=t) (xs:=vN ks) (fun i σ H'=>∃ (hs:List Nat) (u1 u2:Option V),σ = [some (.ref pp),some (.ref fs),u1,u2]/\H' fs=some (bU P w fs (kI hs))/\hs.Nodup/\(∀ k ∈ hs,k < ps.length)/\(∀ k,k ∈ hs ↔ ∃ j ∈ ks.take i,∃ ds e,ps[j]? = some (ds,e)/\k ∈ ar e/\k<=j)/\(∀ c o,H2 c=some o->c ≠ fs->H' c=some o)) ?_ ?_ ?_ ?_⟩
  ·exact⟨[],_,_,rfl,hf2,List.nodup_nil,(fun _ h=>nomatch h),fun k=>⟨fun h=>(nomatch h),fun ⟨j,hj,_⟩=>(by simp at hj)⟩,fun c o h _=>h⟩
  ·rintro i σ H3 hi ⟨hs,u1,u2,rfl,h1,h2,h3,h4,h5⟩
   exact av.of (h5 _ _ ht (bH ht hf2 (by intro z;cases z)))
  ·rintro i y σ H3 hi ⟨hs,u1,u2,rfl,h1,h2,h3,h4,h5⟩
   obtain⟨at_,hat,rfl⟩:∃ k,ks[i]? = some k/\y=V.int (k:Nat):=by
    rw [List.getElem?_map] at hi
    cases z:ks[i]? with
    | none=>rw [z] at hi;cases hi
    | some k=>rw [z] at hi;exact⟨k,rfl,(Option.some.inj hi).symm⟩
   have hatl:=hlt at_ (List.mem_of_getElem? hat)
   have hps:ps[at_]? = some ps[at_]:=by simp [hatl]
   generalize ps[at_] = pce at hps
   obtain⟨ds,e⟩:=pce
   obtain⟨p',xs',pc,da,ea,wsv,ep,e1',el',hx',e2,e3,r3,e4⟩:=d6 hp hps
   cases ep
   rw [e1] at e1'
   cases e1'
   have k3:∀ p zs,H p=some (.tup zs)->H3 p=some (.tup zs):=fun p zs h=>h5 _ _ (s12 _ _ h) (bH (s12 _ _ h) hf2 (by intro z;cases z))
   refine bF ?_
   refine⟨_,rfl,_,rfl,pp,_,_,_,rfl,rfl,av.of (k3 _ _ e1),bO hx',pc,_,1,_,rfl,rfl,av.of (k3 _ _ e2),eX,ea,e,rfl,k3 _ _ e4,fun wt H5 hwt s5=>?_⟩
   refine⟨wt,rfl,⟨_,av.of hwt⟩,fF (K:=K) (a:=wt) (xs:=vN (ar e)) (fun j σ H'=>∃ (hs':List Nat) (u2:Option V),σ = [some (.ref pp),some (.ref fs),some (.int (at_:Nat)),u2]/\H' fs=some (bU P w fs (kI hs'))/\hs'.Nodup/\(∀ k ∈ hs',k < ps.length)/\(∀ k,k ∈ hs' ↔ k ∈ hs\/(k ∈ (ar e).take j/\k<=at_))/\(∀ c o,H5 c=some o->c ≠ fs->H' c=some o)) ?_ ?_ ?_ ?_⟩
   ·exact⟨hs,_,rfl,s5 _ _ h1,h2,h3,fun k=>⟨.inl,fun h=>h.elim id fun ⟨z,_⟩=>by simp at z⟩,fun c o h _=>h⟩
   ·rintro j σ H6 hj ⟨hs',u2,rfl,g1,g2,g3,g4,g5⟩
    exact av.of (g5 _ _ hwt (bH hwt (s5 _ _ h1) (by intro z;cases z)))
   ·rintro j y σ H6 hj ⟨hs',u2,rfl,g1,g2,g3,g4,g5⟩
    obtain⟨k0,hk0,rfl⟩:∃ k,(ar e)[j]? = some k/\y=V.int (k:Nat):=by
     rw [List.getElem?_map] at hj
     cases z:(ar e)[j]? with
     | none=>rw [z] at hj;cases hj
     | some k=>rw [z] at hj;exact⟨k,rfl,(Option.some.inj hj).symm⟩
    have hk0m:=List.mem_of_getElem? hk0
    have hk0b:=iN hin hps k0 hk0m
    have htk:(ar e).take (j+1)=(ar e).take j ++ [k0]:=by rw [List.take_add_one,hk0];rfl
    refine bF ?_
    refine⟨_,rfl,_,rfl,_,_,rfl,rfl,_,rfl,?_⟩
    refine du (fun hc=>?_) (fun hc=>?_)
    ·have hle:k0<=at_:=by have:=of_decide_eq_true hc;omega
     have hfew:=cV g2 g3
     refine⟨_,rfl,⟨fs,_,rfl,g1⟩,_,rfl,fs,_,Sum.inl (k0:Int),rfl,rfl,g1,(by rw [List.length_map];exact Nat.lt_of_le_of_lt (show hs'.length+1<=1002 by omega) (by decide)),?_⟩
     rw [rm]
     try change (_:Hp->Prop) (upd H6 fs (bU P w fs (kI (LS.putIn hs' k0))))
     refine⟨LS.putIn hs' k0,_,rfl,aa,qX g2,fun k hk=>?_,fun k=>?_,fun c o h c1=>by rw [ao c1];exact g5 c o h c1⟩
     ·rcases LS.dq.mp hk with hk | hk
      ·exact g3 k hk
      ·rw [hk];exact hk0b
     ·rw [LS.dq,g4,htk]
      constructor
      ·rintro ((h | ⟨h,h'⟩) | rfl)
       ·exact .inl h
       ·exact .inr ⟨List.mem_append_left _ h,h'⟩
       ·exact .inr ⟨List.mem_append_right _ (List.mem_singleton.mpr rfl),hle⟩
      ·rintro (h | ⟨h,h'⟩)
       ·exact .inl (.inl h)
       ·rcases List.mem_append.mp h with h | h
        ·exact .inl (.inr ⟨h,h'⟩)
        ·exact .inr (List.mem_singleton.mp h)
    ·have hle:¬ k0<=at_:=fun z=>hc (decide_eq_true (by omega))
     refine⟨hs',_,rfl,g1,g2,g3,fun k=>?_,g5⟩
     rw [g4,htk]
     constructor
     ·rintro (h | ⟨h,h'⟩)
      ·exact .inl h
      ·exact .inr ⟨List.mem_append_left _ h,h'⟩
     ·rintro (h | ⟨h,h'⟩)
      ·exact .inl h
      ·rcases List.mem_append.mp h with h | h
       ·exact .inr ⟨h,h'⟩
       ·rw [List.mem_singleton.mp h] at h';exact absurd h' hle
   ·rintro σ H6 ⟨hs',u2,rfl,g1,g2,g3,g4,g5⟩
    rw [show (vN (ar e)).length=(ar e).length from List.length_map ..,List.take_length] at g4
    refine⟨hs',_,_,rfl,g1,g2,g3,fun k=>?_,fun c o h c1=>g5 c o (s5 _ _ (h5 c o h c1)) c1⟩
    rw [g4,h4,List.take_add_one,hat]
    constructor
    ·rintro (⟨j,hj,r⟩ | ⟨h,h'⟩)
     ·exact⟨j,List.mem_append_left _ hj,r⟩
     ·exact⟨at_,List.mem_append_right _ (List.mem_singleton.mpr rfl),ds,e,hps,h,h'⟩
    ·rintro⟨j,hj,ds',e',hp',h,h'⟩
     rcases List.mem_append.mp hj with hj | hj
     ·exact .inl ⟨j,hj,ds',e',hp',h,h'⟩
     ·have hj:j=at_:=List.mem_singleton.mp hj
      subst hj
      rw [hps] at hp'
      cases hp'
      exact .inr ⟨h,h'⟩
  ·rintro σ H3 ⟨hs,u1,u2,rfl,h1,h2,h3,h4,h5⟩
   rw [show (vN ks).length=ks.length from List.length_map ..,List.take_length] at h4
   have hfew:=cV h2 h3
   refine⟨_,rfl,fs,hs.map (fun k:Nat=>(k:Int)),rfl,(by rw [h1,n4];rfl),(by rw [List.length_map];omega),fun l ss hperm _ nl=>?_⟩
   obtain⟨ms,rfl,hms⟩:=fw hperm
   refine⟨l,_,rfl,.inl ⟨aI.of aa,?_⟩⟩
   rw [<-j3]
   intro t' nt
   have s3:ae H H3:=fun c o h=>h5 c o (s12 c o h) (aw h nfs)
   refine q t' ms _ aa (fun k=>(hms.mem_iff).trans ((h4 k).trans ?_)) (by rw [hms.length_eq];omega) ((s3.trans (ae.new nl)).trans (ae.new nt))
   constructor
   ·rintro⟨j,hj,ds,e,r1,r2,r3⟩
    exact⟨j,ds,e,(hks j).mp hj,r1,r2,r3⟩
   ·rintro⟨j,ds,e,hj,r1,r2,r3⟩
    exact⟨j,(hks j).mpr hj,ds,e,r1,r2,r3⟩
theorem sr {f:Addr} {fd:FuncData} (F:bQ K "copy_for" "copy_for" jo f fd) (Z:Bl mg)  : ba P w K mg base bN 1 f fd ["lead", "tops", "places", "most"] (o9 P w):=by
  refine F.ok (k:=0) lL (fun vs H Q E h=>?_) (fun cdv A outer s H vs Q E hr h=>?_)
  · obtain⟨la,tp,d,most,k,T,dl,hs,fv,ms,cs,tops,rfl,_⟩:=h
    rfl
  · obtain⟨la,tp,d,most,k,T,dl,hs,fv,ms,cs,tops,rfl,hla,rl,cd,lay,htp,hts,hd,iC,cc,q⟩:=h
    refine⟨_,(af (aY (i:=4) lL.nd (aO bM (pv 0) ah))
      (af (bw (aF ic (pv 4) (pv 1) (by with_unfolding_all rfl))
      (ai (aB (bh (aL (pv 4) (bh bX)))))
      aV)
      (af (bw (PW.pt (kA (aF (z8 (nZ hr)) (pv 0) (pv 2) (by with_unfolding_all rfl)) (jI (aF gC (aR uY rfl Z.len bE (ay (pv 2))) (pv 3) (aS _)))))
      (ai (aB (pv 0)))
      aV)
      (ai (aB (bh (aL (pv 4) (bh bX)))))))),?_⟩
    refine⟨_,rfl,la,_,0,_,rfl,rfl,av.of hla,eW,?_⟩
    have out:aQ tops most cs (k,T)=(k,T0)->∀ t1 t2,H t1=none->(upd H t1 (.tup [])) t2=none->Q (.ref t2) (upd (upd H t1 (.tup [])) t2 (.tup [.int (k:Nat),.ref t1])):=fun e t1 t2 n1 n2=>by
      rw [e] at q
      have q2:=ae.new (o:=.tup [.int (k:Nat),.ref t1]) n2
      exact q t2 (.tuple [.int (k:Nat),.tuple []]) _ (.tup aa (.cons (.int _) (.cons (.tup (q2 _ _ aa) .nil) .nil))) ⟨_,FD.zero,rfl⟩ ((ae.new n1).trans q2)
    refine⟨_,rfl,_,rfl,tp,_,rfl,.inr (av.of htp),rfl,e6 _,_,rfl,?_⟩
    rw [show (if false=true then !eV (.int (k:Nat)) (vN hs) else eV (.int (k:Nat)) (vN hs))=decide (k ∈ hs) from eu k hs]
    by_cases hk:k ∈ hs
    · refine cL (decide_eq_true hk) ?_
      exact⟨_,rfl,(by show 0<=sizeLine;decide),fun t1 n1=>⟨ln2,fun t2 n2=>out (by unfold aQ;rw [if_pos ((hts k).mp hk)]) t1 t2 n1 n2⟩⟩
    · refine bB (decide_eq_false hk) ?_
      have hnt:¬ tops k:=fun z=>hk ((hts k).mpr z)
      obtain⟨hmem,_⟩:=cd.mem cc
      have hcl:(ms.map (·.1)).length=cs.length:=Paired.length cc
      have hml:ms.length=cs.length:=by rw [<-hcl,List.length_map]
      have hv:=jd dl 0 ms
      refine⟨_,rfl,_,rfl,la,d,dl,cy 0 ms,rfl,rfl,⟨hd,iC,cd.key lay,rl⟩,_,rfl,?_⟩
      by_cases hin:(k,T) ∈ cs
      · rw [if_pos (hmem.mpr hin)] at hv
        refine cL (by rw [hv];rfl) (bT ?_)
        exact⟨_,rfl,q la dl H rl (by unfold aQ;rw [if_neg hnt,if_pos (.inl hin)];exact cd) (ae.refl H)⟩
      · rw [if_neg (fun z=>hin (hmem.mp z))] at hv
        refine bB (by rw [hv];rfl) ?_
        refine⟨_,rfl,d,cy 0 ms,rfl,hd,_,rfl,_,_,rfl,rfl,_,rfl,?_⟩
        rw [lZ]
        refine du (fun hc=>?_) (fun hc=>?_)
        · have hlt:cs.length < most:=by have:=of_decide_eq_true hc;omega
          exact⟨_,rfl,q la dl H rl (by unfold aQ;rw [if_neg hnt,if_pos (.inr hlt)];exact cd) (ae.refl H)⟩
        · have hlt:¬ cs.length < most:=fun z=>hc (decide_eq_true (by omega))
          exact⟨_,rfl,(by show 0<=sizeLine;decide),fun t1 n1=>⟨ln2,fun t2 n2=>out (by unfold aQ;rw [if_neg hnt,if_neg (fun z=>z.elim hin hlt)]) t1 t2 n1 n2⟩⟩
theorem xk {f:Addr} {fd:FuncData} (F:bQ K "end_to" "end_to" mj f fd) (Z:Bl mg) (O_without_ways:Own P w K mg base "without_ways" 4 ["end"] o5):ba P w K mg base bN 5 f fd ["end", "ways"] tY:=by
 refine F.ok (k:=4) xi (fun vs H Q E h=>?_) (fun cdv A outer s H vs Q E hr h=>?_)
 ·obtain⟨ea,l,e,ns,rfl,_⟩:=h
  rfl
 ·obtain⟨ea,l,e,ns,rfl,he,hl,hns,hn2,q⟩:=h
  refine⟨_,(af (bw (aF dn (aR aN rfl Z.len bE (ay (pv 1))) ah (aS _))
   (ai (aB (bh (aL bL (aO b4 (pv 1) ah)))))
   aV)
   (ai (aB (aZ zS (aH O_without_ways hr (ay (pv 0))) (br bu rfl Z.tuple cm (ay (pv 1))))))),?_⟩
  refine⟨_,rfl,l,_,rfl,.inl (aI.of hl),rfl,_,rfl,?_⟩
  have hlen:(vN ns).length=ns.length:=List.length_map ..
  by_cases h1:ns.length=1
  ·obtain⟨a,rfl⟩:∃ a,ns = [a]:=List.length_eq_one_iff.mp h1
   refine cL (decide_eq_true rfl) ?_
   exact⟨_,rfl,l,_,0,_,rfl,rfl,aI.of hl,eW,ln2,fun t nt=>q t _ aa (ae.new nt)⟩
  ·refine bB (decide_eq_false fun z=>h1 (by have:=V.int.inj z;omega)) ?_
   have hns:=hns.resolve_left h1
   refine⟨_,rfl,ea,e,rfl,he,fun t H1 ht s1=>⟨_,rfl,l,_,rfl,.inl ⟨aI.of (s1 _ _ hl),fun t2 nt2=>?_⟩⟩⟩
   have q2:=ae.new (o:=.tup (vN ns)) nt2
   have hhl:(jc e).length<=3:=by cases e <;> simp [jc]
   refine⟨t,t2,_,_,rfl,rfl,q2 _ _ ht,aa,Nat.le_of_lt (aX (by omega)),fun t3 H3 ht3 s3=>?_⟩
   refine q t3 H3 ?_ ((s1.trans q2).trans s3)
   have e1:iw e ns=yy e ns:=by
    match ns,h1 with
    | [],_=>rfl
    | [a],h=>exact absurd rfl h
    | _ :: _ :: _,_=>rfl
   rw [e1,yz hns]
   exact ht3
theorem sx {f:Addr} {fd:FuncData} (F:bQ K "led_past" "led_past" jq f fd) (Z:Bl mg) {tk_MOST_TO_LEAD:Tok} (G_MOST_TO_LEAD:mg "MOST_TO_LEAD" = some (.int 60 tk_MOST_TO_LEAD)) {C:Addr} (T:qW K C) (O_heads:Own P w K mg base "heads" 5 ["plan"] tW) (O_start:Own P w K mg base "start" 4 ["plan"] tV) (O_Row___init__:x8 P w K mg base C "Row" 1 ["self", "first"] (m6 P w C)) (O_Row_place_of:xZ P w K mg base C "place_of" 1 ["self", "thing"] (m7 P w C)) (O_behind:Own P w K mg base "behind" 3 ["facts", "deeds"] qU) (O_leads:Own P w K mg base "leads" 5 ["facts", "end"] (tT aA)) (O_copy_for:Own P w K mg base "copy_for" 1 ["lead", "tops", "places", "most"] (o9 P w)) (O_end_to:Own P w K mg base "end_to" 5 ["end", "ways"] tY):ba P w K mg base bN 7 f fd ["plan", "most"] (pf P w C):=by
  refine F.ok (k:=6) cg (fun vs H Q E h=>?_) (fun cdv A outer s H vs Q E hr h=>?_)
  · obtain⟨plv,ps,xs,most,rfl,_⟩:=h
    rfl
  · obtain⟨plv,ps,xs,most,rfl,hp,pok,nok,hx10,hn0,hn,hm1,hm3,q⟩:=h
    refine⟨_,(af (bw (aF kC (aR aN rfl Z.len bE (ay (pv 0))) (eT (v:=.int 60) rfl G_MOST_TO_LEAD ⟨_,rfl⟩) (aS _))
      (ai xq)
      aV)
      (af (aY (i:=2) cg.nd (aH O_heads hr (ay (pv 0))))
      (af (qv (aY (i:=3) cg.nd (zR O_Row___init__ (hr.mono (by decide)) rfl (ay (bh (aL ah (d5 (aF ic ah (pv 2) (by with_unfolding_all rfl)) (bh bX) (aH O_start hr (ay (pv 0))))))))))
      (af (aY (i:=4) cg.nd (b6 bX))
      (af (iT PassesOwn.never (aF gC (aR aN rfl Z.len bE (ay (pv 4))) (aR aN rfl Z.len bE (ay (fc (pv 3) rfl))) (aS _))
      (af (dE (aO b4 (fc (pv 3) rfl) (aR aN rfl Z.len bE (ay (pv 4)))) (dD rfl (bc (aK (i:=5) cg.nd) (bc (aK (i:=6) cg.nd) cW))))
      (af (dE (aO bM (pv 0) (pv 5)) (dD rfl (bc (aK (i:=7) cg.nd) (bc (aK (i:=8) cg.nd) cW))))
      (af (aY (i:=9) cg.nd (aH O_leads hr (aL (aH O_behind hr (aL (pv 6) (pv 7))) (pv 8))))
      (af (iV (i:=10) ["lead"] ["copies", "tops", "most"] [3,2,1] rfl cg.nd rfl rfl rfl (dG (pv 9)) rfl (by decide +kernel) (by decide +kernel) (by decide +kernel) ⟨⟨rfl,.inl rfl,rfl⟩,⟨⟨rfl,.inl rfl,rfl⟩,⟨⟨rfl,.inl rfl,rfl⟩,True.intro⟩⟩⟩ (fun _ _ _ _=>(aK (i:=0) (show ((["lead"]:List Str)++(["copies", "tops", "most"]:List Str)).Nodup by decide +kernel) (hf:=Or.inr rfl))) (fun _ _ _ _=>eY) (fun _ _ _ _=>(zQ O_Row_place_of (pv 1) (hr.mono (by decide)) (ay (aH O_copy_for hr (BA (pv 0) (pv 2) (Ag (K:=K) rfl (pv 1) rfl) (pv 3)))))))
      (ai (dC (eJ PySem.F.plainAttrs_list PySem.F.slot_list_append PySem.F.type_list_append dJ (pv 4) (ay (bh (aL (pv 7) (aH O_end_to hr (aL (pv 8) (pv 10))))))))))))))
      (ai (aB (bh (aL (br bu rfl Z.tuple cm (ay (pv 4))) (br bu rfl Z.tuple cm (ay (fc (pv 3) rfl)))))))))))),?_⟩
    obtain⟨pp,vs,rfl,e1,r1⟩:=aP.bx hp
    have hvl:=r1.len
    rw [List.length_map] at hvl
    have hin:=pok.qC
    refine⟨_,rfl,pp,_,rfl,.inr (av.of e1),_,_,rfl,rfl,_,rfl,?_⟩
    refine bB (decide_eq_false (by omega)) ?_
    refine⟨_,rfl,_,ps,rfl,hp,hin,hn0,hn,fun tp hs H1 htp hhs hsl s1=>?_⟩
    have hp1:=hp.same s1 (dz ps)
    have hal:(bo ps).length<=4000:=by
      have h1:=Ab pok
      have h2:ps.length * (2 * 6+1)<=60 * 13:=Nat.mul_le_mul hn (Nat.le_refl 13)
      omega
    refine⟨fun σ' H'=>∃ (r m d ka:Addr) (d0:PyData),σ' = [some (.ref pp),some (.int (most:Nat)),some (.ref tp),some (.ref r),none,none,none,none,none,none,none]/\ft P w C H' r m d [(d0,ka)]/\CD (gc ps) d0/\H m=none/\H d=none/\H r=none/\ae H1 H',?_,?_⟩
    · have layc:nY (gc ps).2:=by
        unfold gc
        split
        · exact cD.zero.lay nok
        · exact (md pok).lay nok
      refine⟨_,rfl,tp,_,rfl,.inr (av.of htp),rfl,e6 _,_,rfl,?_⟩
      rw [show (if false=true then !eV (.int 0) (vN hs) else eV (.int 0) (vN hs))=decide (0 ∈ hs) from eu 0 hs]
      by_cases h0':0 ∈ hs
      · have h0:=(hhs 0).mp h0'
        refine cL (decide_eq_true h0') ?_
        refine⟨(by show 0<=sizeLine;decide),fun t1 n1=>⟨ln2,fun ka nka=>fun r dx nx ndx nex=>?_⟩⟩
        have cd:=(show CD (gc ps) (.tuple [.int ((0:Nat):Int),.tuple []]) from by unfold gc;rw [if_pos h0];exact⟨_,FD.zero,rfl⟩)
        have nl:=cd.iO
        have q2:=ae.new (o:=.tup [.int 0,.ref t1]) nka
        have s3:=(ae.new (o:=.tup []) n1).trans q2
        have rd3:aP (upd (upd H1 t1 (.tup [])) ka (.tup [.int 0,.ref t1])) (.ref ka) (.tuple [.int ((0:Nat):Int),.tuple []]):=.tup aa (.cons (.int _) (.cons (.tup (q2 _ _ aa) .nil) .nil))
        generalize (upd (upd H1 t1 (.tup [])) ka (.tup [.int 0,.ref t1]))=H3 at q2 s3 rd3 nx ndx
        have s0:ae H3 (upd (upd H3 dx (.own r)) r (.ins C dx [])):=fun b o e=>by
          rw [ao (aw e nx),ao (aw e ndx)]
          exact e
        refine⟨r,dx,ka,_,rfl,aa,cd.key layc,rd3.same s0 nl,nl,fun m d H4 A4 k4 nm nd=>⟨rfl,?_⟩⟩
        exact⟨r,m,d,ka,_,rfl,A4,cd,s1.free (s3.free (s0.free nm)),s1.free (s3.free (s0.free nd)),s1.free (s3.free nx),fun c o e=>k4 c o (s0 c o (s3 c o e)) (aw (s3 c o e) nx)⟩
      · have h0:¬ bS ps 0:=fun z=>h0' ((hhs 0).mpr z)
        refine bB (decide_eq_false h0') ?_
        refine⟨_,rfl,_,ps,xs,6,rfl,hp1,pok,(by omega),hal,fun v ss H2 rv hperm hsort s3'=>⟨ln2,fun ka nka=>fun r dx nx ndx nex=>?_⟩⟩
        have cd:=(show CD (gc ps) (.tuple [.int ((0:Nat):Int),j6 ss]) from by unfold gc;rw [if_neg h0];exact⟨_,yC hperm hsort,rfl⟩)
        have nl:=cd.iO
        have q2:=ae.new (o:=.tup [.int 0,v]) nka
        have s3:=s3'.trans q2
        have rd3:aP (upd H2 ka (.tup [.int 0,v])) (.ref ka) (.tuple [.int ((0:Nat):Int),j6 ss]):=.tup aa (.cons (.int _) (.cons (rv.same q2 (e7 ss)) .nil))
        generalize (upd H2 ka (.tup [.int 0,v]))=H3 at q2 s3 rd3 nx ndx
        have s0:ae H3 (upd (upd H3 dx (.own r)) r (.ins C dx [])):=fun b o e=>by
          rw [ao (aw e nx),ao (aw e ndx)]
          exact e
        refine⟨r,dx,ka,_,rfl,aa,cd.key layc,rd3.same s0 nl,nl,fun m d H4 A4 k4 nm nd=>⟨rfl,?_⟩⟩
        exact⟨r,m,d,ka,_,rfl,A4,cd,s1.free (s3.free (s0.free nm)),s1.free (s3.free (s0.free nd)),s1.free (s3.free nx),fun c o e=>k4 c o (s0 c o (s3 c o e)) (aw (s3 c o e) nx)⟩
    rintro σ' H2 ⟨r,m,d,ka,d0,rfl,A2,cd0,nm,nd,nr,s2⟩
    have s12:=s1.trans s2
    have htp2:=s2 _ _ htp
    have cc2:lH [(d0,ka)] [gc ps]:=.cons cd0 .nil
    refine⟨(by show 0<=sizeLine;decide),fun pz npz=>?_⟩
    have npzH:H pz=none:=s12.free npz
    have q3:=ae.new (o:=.lst []) npz
    have s3:=s12.trans q3
    have A3:=A2.mv cc2.iO (fun c o h _=>q3 c o h) (fun p zs h=>q3 _ _ h)
    have htp3:=q3 _ _ htp2
    have hz3:(upd H2 pz (.lst [])) pz=some (.lst []):=aa
    have npm:pz ≠ m:=(aw A2.mem npz).symm
    have npd:pz ≠ d:=(aw A2.j8 npz).symm
    have npr:pz ≠ r:=by obtain⟨dx,h⟩:=A2.ob;exact (aw h npz).symm
    generalize (upd H2 pz (.lst []))=H3 at q3 s3 A3 hz3 htp3
    have c0ok:(gc ps).1 < ps.length/\cD xs (gc ps).2:=by
      unfold gc
      split
      · exact⟨hn0,cD.zero⟩
      · exact⟨hn0,md pok⟩
    refine⟨fun fu σ H'=>∃ (ms:List (PyData × Addr)) (cs:List Cp) (outs:List Piece) (zs:List V) (u1 u2 u3 u4 u5 u6:Option V),σ = [some (.ref pp),some (.int (most:Nat)),some (.ref tp),some (.ref r),some (.ref pz),u1,u2,u3,u4,u5,u6]/\ft P w C H' r m d ms/\lH ms cs/\hU ps.length most cs/\(∀ c ∈ cs,c.1 < ps.length/\cD xs c.2)/\H' pz=some (.lst zs)/\aU H' zs (outs.map dQ)/\cB (bS ps) most ps fu cs outs=cq ps most/\fu+outs.length=most+ps.length/\outs.length<=cs.length/\H' tp=some (.tup (vN hs))/\ae H H',⟨most+ps.length,[(d0,ka)],[gc ps],[],[],_,_,_,_,_,_,rfl,A3,cc2,⟨by simp,Nat.le_trans (List.length_filter_le _ _) hm1⟩,(fun c hc=>by rw [List.mem_singleton.mp hc];exact c0ok),hz3,.nil,rfl,rfl,Nat.zero_le _,htp3,s3⟩,?_⟩
    clear A2 A3 hz3 s3 q3 htp3 cc2 cd0 npz htp2 s2
    rintro fu σ H4 ⟨ms,cs,outs,zs,u1,u2,u3,u4,u5,u6,rfl,A4,cc4,iP,hcs,hz4,rz4,hloop,hfu,hoc,htp4,s4⟩
    obtain⟨dx4,hob4⟩:=A4.ob
    have hzl:zs.length=outs.length:=by have:=rz4.len;rw [List.length_map] at this;exact this
    have hml:ms.length=cs.length:=by have:=Paired.length cc4;rw [List.length_map] at this;exact this
    have hml':(ms.map fun p=>V.ref p.2).length=ms.length:=List.length_map ..
    have hcn:=iP.len fun c hc=>(hcs c hc).1
    refine⟨_,rfl,pz,_,rfl,.inl (aI.of hz4),_,rfl,r,C,dx4,_,_,rfl,hob4,T.cl,T.members,fq,m,_,rfl,.inl (aI.of A4.mem),_,_,rfl,rfl,_,rfl,?_⟩
    refine du (fun hc=>?_) (fun hc=>?_)
    · have hlt:outs.length < ms.length:=by have:=of_decide_eq_true hc;omega
      obtain⟨fu,rfl⟩:∃ f',fu=f' + 1:=⟨fu - 1,by omega⟩
      have hmsi:ms[outs.length]? = some ms[outs.length]:=by simp [hlt]
      generalize ms[outs.length] = pm at hmsi
      obtain⟨c,hci,cd⟩:=il cc4 (i:=outs.length) (x:=pm.1) (by rw [List.getElem?_map,hmsi];rfl)
      have hcm:=List.mem_of_getElem? hci
      obtain⟨hcl,hct⟩:=hcs c hcm
      have hps:ps[c.1]? = some ps[c.1]:=by simp [hcl]
      generalize ps[c.1] = pce at hps
      rw [fz hci hps] at hloop
      obtain⟨ds,e⟩:=pce
      obtain⟨p',xs',pc,da,ea,ws,ep,e1',el',hx',e2,e3,r3,e4⟩:=d6 hp hps
      cases ep
      rw [e1] at e1'
      cases e1'
      have dok:=pok.gG _ (List.mem_of_getElem? hps)
      have eok:=pok.ends _ (List.mem_of_getElem? hps)
      obtain⟨fd,hfd,epm⟩:=id cd
      have rdm:=(A4.keys pm (List.mem_of_getElem? hmsi)).2
      rw [epm] at rdm
      obtain⟨pa,pvs,ere,hpm,rpv⟩:=aP.bx rdm
      cases ere
      obtain⟨y1,t1,rfl,q1,rpv⟩:=rpv.cons_inv
      obtain⟨y2,t2,rfl,q2,rpv⟩:=rpv.cons_inv
      have z:=rpv.nil_inv
      subst z
      rw [q1.int_inv] at hpm
      have fv2:FV H4 y2 c.2:=hfd.fv q2
      refine⟨_,fun σ' H' h=>⟨fu,Nat.lt_succ_self fu,h⟩,?_⟩
      refine⟨_,rfl,r,C,dx4,_,_,rfl,hob4,T.cl,T.members,fq,_,rfl,pz,_,rfl,.inl (aI.of hz4),m,_,_,_,rfl,rfl,aI.of A4.mem,bO (j:=zs.length) (by rw [hzl,List.getElem?_map,hmsi];rfl),pm.2,_,rfl,av.of hpm,rfl,_,_,rfl,_,_,rfl,rfl,?_⟩
      refine⟨_,rfl,_,rfl,pp,_,_,_,rfl,rfl,av.of (s4 _ _ e1),bO hx',pc,_,rfl,av.of (s4 _ _ e2),rfl,_,_,rfl,_,_,rfl,rfl,?_⟩
      have bok:=hct.rp dok.2
      refine⟨_,rfl,_,rfl,y2,da,ws,ds,c.2,10,rfl,fv2,s4 _ _ e3,r3.same s4 (cN ds),(fun ss hs nd=>Nat.le_trans (hct.b0 ss hs nd) hx10),(by have:ds.length<=6:=dok.1;omega),fun gv H5 g5 s5=>⟨_,rfl,gv,ea,cF c.2 ds,e,rfl,g5,s5 _ _ (s4 _ _ e4),(fun ss hs nd=>Nat.le_trans (bok.b0 ss hs nd) (by omega)),fun at_ vs2 H6 hat pv s6=>?_⟩⟩
      have lok:=tZ bok eok
      obtain⟨hll,hl2⟩:=ma (e:=e) bok
      have s46:=s5.trans s6
      have A6:=A4.mv cc4.iO (fun c o h _=>s46 c o h) (fun p zs h=>s46 _ _ h)
      have hz6:=s46 _ _ hz4
      have htp6:=s46 _ _ htp4
      have hvl:vs2.length=(b8 (cF c.2 ds) e).length:=Paired.length pv
      generalize hls:b8 (cF c.2 ds) e=ls at hloop lok hll hl2 pv hvl
      refine⟨_,rfl,at_,rfl,⟨_,av.of hat⟩,fun acc na=>?_⟩
      have nam:acc ≠ m:=(aw A6.mem na).symm
      have nad:acc ≠ d:=(aw A6.j8 na).symm
      have nar:acc ≠ r:=by obtain⟨dx,h⟩:=A6.ob;exact (aw h na).symm
      have kb:∀ {H':Hp},jb m d H6 H'->∀ p zs,H6 p=some (.tup zs)->H' p=some (.tup zs):=fun b p zs h=>b p _ h (bH h A6.mem (by intro z;cases z)) (bH h A6.j8 (by intro z;cases z))
      refine iH (K:=K) (a:=at_) (xs:=vs2) (fun i ys τ H'=>∃ (cv:Option V) (ms':List (PyData × Addr)),τ = [cv,some (.ref r),some (.ref tp),some (.int (most:Nat))]/\ft P w C H' r m d ms'/\lH ms' (bG (bS ps) most cs (ls.take i)).1/\ys=vN (bG (bS ps) most cs (ls.take i)).2/\H' acc=some (.lst ys)/\jb m d H6 H') ?_ ?_ ?_ ?_
      · have qn:=ae.new (o:=.lst []) na
        exact⟨none,ms,rfl,A6.mv cc4.iO (fun c o h _=>qn c o h) (fun p zs h=>qn _ _ h),cc4,rfl,aa,jb.of_same qn⟩
      · rintro i ys τ H7 hi ⟨cv,ms',rfl,A7,cc7,rfl,ha,b7⟩
        refine⟨av.of (kb b7 _ _ hat),ha,aX ?_⟩
        obtain⟨_,_,hlen,_⟩:=gf (tops:=bS ps) (ls:=ls.take i) (ns:=[]) iP hcs fun c hc=>lok c (List.mem_of_mem_take hc)
        rw [List.length_map]
        unfold bG
        rw [hlen,List.length_take]
        show 0+_<=_
        omega
      · rintro i y ys τ H7 hi ⟨cv,ms',rfl,A7,cc7,rfl,ha,b7⟩
        obtain⟨pr,hpr,qa,u,rfl,hq,fvu⟩:=il pv hi
        obtain⟨k,U⟩:=pr
        obtain⟨hkl,hUok⟩:=lok _ (List.mem_of_getElem? hpr)
        obtain⟨cok7,hcs7,_,_⟩:=gf (tops:=bS ps) (ls:=ls.take i) (ns:=[]) iP hcs fun c hc=>lok c (List.mem_of_mem_take hc)
        have hcn7:=hU.len cok7 fun c hc=>(hcs7 c hc).1
        have hml7:ms'.length=(bG (bS ps) most cs (ls.take i)).1.length:=by have:=Paired.length cc7;rw [List.length_map] at this;exact this
        have hnx:=sf (bS ps) most (cs:=cs) hpr
        have fvu7:=fvu.aW (kb b7)
        obtain⟨fdu,hfdu,ru⟩:=fvu7.fd
        have hq7:=kb b7 _ _ hq
        have cdl:CD (k,U) (.tuple [.int (k:Nat),fdu]):=⟨fdu,hfdu,rfl⟩
        obtain⟨dx7,hob7⟩:=A7.ob
        have htp7:=kb b7 _ _ htp6
        refine bF ?_
        refine jR ?_
        refine bT ?_
        refine⟨_,rfl,r,dx7,_,rfl,hob7,qV,_,rfl,_,rfl,_,rfl,r,C,dx7,_,_,rfl,hob7,T.cl,T.places,fZ,_,rfl,qa,tp,d,most,k,U,_,hs,u,ms',_,bS ps,rfl,hq7,.tup hq7 (.cons (.int _) (.cons ru .nil)),cdl,hUok.lay nok,htp7,hhs,A7.j8,A7.iC,cc7,fun a d' H8 rd' cd' s8=>?_⟩
        have A8:=A7.mv cc7.iO (fun c o h _=>s8 c o h) (fun p zs h=>s8 _ _ h)
        have hcpok:cD xs (aQ (bS ps) most (bG (bS ps) most cs (ls.take i)).1 (k,U)).2:=by
          unfold aQ
          split
          · exact cD.zero
          · split
            · exact hUok
            · exact cD.zero
        refine⟨r,m,d,a,d',ms',rfl,A8,(by rw [hml7];unfold bG;omega),cd'.key (hcpok.lay nok),rd',cd'.iO,cc7.iO,fun H9 A9 b9=>?_⟩
        have ha9:=b9 _ _ (s8 _ _ ha) nam nad
        have cc9:=lH.put (a:=a) cc7 cd'
        have eix:=(cd'.mem cc9).2
        rw [eix]
        refine⟨ha9,_,je ms' d' a,rfl,?_,?_,?_,aa,fun c' o h c1 c2=>?_⟩
        · refine A9.mv cc9.iO (fun x o h z=>?_) (fun p zs h=>by rw [ao (bH h ha9 (by intro z;cases z))];exact h)
          rw [ao ?_]
          · exact h
          · rcases z with rfl | rfl | rfl
            · exact nar.symm
            · exact nam.symm
            · exact nad.symm
        · rw [hnx];exact cc9
        · rw [hnx]
          show _=((bG (bS ps) most cs (ls.take i)).2 ++ [_]).map _
          rw [List.map_append]
          rfl
        · rw [ao (aw h na)]
          exact b9 c' o (s8 _ _ (b7 c' o h c1 c2)) c1 c2
      rintro ys τ H7 ⟨cv,ms',rfl,A7,cc7,rfl,ha,b7⟩
      rw [hvl,List.take_length] at cc7 ha
      obtain⟨cok7,hcs7,hlen7,more,emore⟩:=gf (tops:=bS ps) (ls:=ls) (ns:=[]) iP hcs lok
      have hcn7:=hU.len cok7 fun c hc=>(hcs7 c hc).1
      have s7:ae H H7:=fun c o h=>b7 c o (s46 c o (s4 c o h)) (aw h nm) (aw h nd)
      have hz7:H7 pz=some (.lst zs):=b7 _ _ hz6 npm npd
      have hlen7':(bG (bS ps) most cs ls).2.length=ls.length:=by unfold bG;rw [hlen7];show 0+_=_;omega
      refine⟨_,rfl,.inl ⟨rfl,_,aI.of hz7⟩,_,rfl,_,rfl,_,rfl,ea,acc,e,(bG (bS ps) most cs ls).2,rfl,s7 _ _ e4,ha,(by rw [hlen7'];exact hll),(by rw [hlen7'];exact hl2),fun t3 H8 ht3 s8=>⟨ln2,fun t4 nt4=>?_⟩⟩
      have q4:=ae.new (o:=.tup [.ref da,.ref t3]) nt4
      have s79:=s8.trans q4
      have ht9:=q4 _ _ ht3
      have h49:(upd H8 t4 (.tup [.ref da,.ref t3])) t4=some (.tup [.ref da,.ref t3]):=aa
      generalize (upd H8 t4 (.tup [.ref da,.ref t3]))=H9 at q4 s79 ht9 h49
      have hz9:=s79 _ _ hz7
      refine⟨pz,_,_,rfl,rfl,hz9,aX (by omega),?_⟩
      have kt:∀ p xs,H9 p=some (.tup xs)->(upd H9 pz (.lst (zs ++ [.ref t4]))) p=some (.tup xs):=fun p xs h=>by rw [ao (bH h hz9 (by intro z;cases z))];exact h
      have s9:=s7.trans s79
      have kt49:∀ p xs,H4 p=some (.tup xs)->(upd H9 pz (.lst (zs ++ [.ref t4]))) p=some (.tup xs):=fun p xs h=>kt _ _ (s79 _ _ (kb b7 _ _ (s46 _ _ h)))
      refine⟨ms',(bG (bS ps) most cs ls).1,outs ++ [(ds,iw e (bG (bS ps) most cs ls).2)],_,_,_,_,_,_,_,rfl,A7.mv cc7.iO (fun x o h z=>?_) (fun p zs h=>kt _ _ (s79 _ _ h)),cc7,cok7,hcs7,aa,?_,hloop,(by rw [List.length_append];show fu+(_+1)=_;omega),?_,kt49 _ _ htp4,s9.put npzH⟩
      · rw [ao ?_]
        · exact s79 _ _ h
        · rcases z with rfl | rfl | rfl
          · exact npr.symm
          · exact npm.symm
          · exact npd.symm
      · rw [List.map_append]
        have rd4:aP H9 (.ref t4) (dQ (ds,iw e (bG (bS ps) most cs ls).2)):=.tup h49 (.cons (.tup (s9 _ _ e3) (r3.same s9 (cN ds))) (.cons (Bu ht9) .nil))
        exact aU.app (rz4.aW kt49 (bW outs)) (rd4.aW kt (hJ _))
      · have:(bG (bS ps) most cs ls).1.length=cs.length+more.length:=by unfold bG;rw [emore,List.length_append]
        rw [this,List.length_append]
        show _+1<=_
        omega
    · have hnl:¬ outs.length < ms.length:=fun z=>hc (decide_eq_true (by omega))
      rw [gd (List.getElem?_eq_none (by omega))] at hloop
      rw [<-hloop] at q
      refine⟨_,rfl,pz,_,rfl,.inl ⟨aI.of hz4,fun t1 n1=>?_⟩⟩
      have q1:=ae.new (o:=.tup zs) n1
      refine⟨_,rfl,r,C,dx4,_,_,rfl,q1 _ _ hob4,T.cl,T.members,fq,m,_,rfl,.inl ⟨aI.of (q1 _ _ A4.mem),fun t2 n2=>⟨ln2,fun t3 n3=>?_⟩⟩⟩
      have q2:=ae.new (o:=.tup (ms.map fun p=>V.ref p.2)) n2
      have q3:=ae.new (o:=.tup [.ref t1,.ref t2]) n3
      have q13:=(q1.trans q2).trans q3
      refine q (.ref t3) (ms.map (·.1)) _ cc4 (.tup aa (.cons (.tup (q3 _ _ (q2 _ _ aa)) (rz4.same q13 (bW outs))) (.cons (.tup (q3 _ _ aa) (t6 fun p hp=>(A4.keys p hp).2.same q13 (cc4.iO p hp))) .nil))) (s4.trans q13)
theorem vv {f:Addr} {fd:FuncData} (F:bQ K "_law_bag" "_law_bag" kq f fd) (Z:Bl mg)  : ba P w K mg base bN 1 f fd ["script", "k"] (zf K):=by
 refine F.ok (k:=0) jr (fun vs H Q E h=>?_) (fun cdv A outer s H vs Q E hr h=>?_)
 ·obtain⟨a,ns,k,rfl,_⟩:=h
  rfl
 ·obtain⟨a,ns,k,rfl,hS,hk,q⟩:=h
  refine⟨_,(af (aY (i:=2) jr.nd ah)
   (af (bw (aF gC (pv 1) (aR aN rfl Z.len bE (ay (pv 0))) (aS _))
   (ai (aY (i:=2) jr.nd (aZ gU (aO b4 (pv 0) (pv 1)) (aZ zN (aZ my ah ah) (aZ my ah ah)))))
   aV)
   (af (bw (aF gC (pv 2) (aZ my ah ah) (aS _))
   (ai (aB (b6 (aL ah (aZ cS ah (aZ gU (aZ cS (aZ iD (pv 2) ah) (aZ iD ah (pv 1))) ah))))))
   aV)
   (ai (aB (b6 (aL (pv 2) (aZ cS ah (aZ gU (aZ cS (pv 2) (pv 1)) ah))))))))),?_⟩
  refine⟨_,rfl,_,rfl,_,_,rfl,.inl hS,_,_,rfl,rfl,_,rfl,?_⟩
  refine du (fun hc=>?_) (fun hc=>?_)
  ·have hl:k < ((ns.map V.int).length:Nat):=of_decide_eq_true hc
   obtain⟨v,hv,hm⟩:=uD hk hl
   obtain⟨z,_,rfl⟩:=List.mem_map.mp hm
   refine⟨_,rfl,_,rfl,_,_,_,_,rfl,rfl,hS,hv,10,60,rfl,rfl,⟨by decide,by decide,by decide⟩,10,60,rfl,rfl,⟨by decide,by decide,by decide⟩,_,_,rfl,rfl,(by unfold IntMulOk;decide +kernel),_,_,rfl,rfl,(show (0:Int) < 10 ^ (60:Int).toNat * 10 ^ (60:Int).toNat by decide +kernel),?_⟩
   refine⟨_,rfl,10,18,rfl,rfl,⟨by decide,by decide,by decide⟩,_,_,rfl,rfl,_,rfl,?_⟩
   refine du (fun hd=>?_) (fun hd=>?_)
   ·refine⟨_,rfl,_,_,rfl,rfl,.inr ⟨by decide,by decide⟩,_,rfl,_,_,rfl,rfl,.inl ⟨by decide,by decide⟩,_,_,rfl,rfl,_,_,rfl,rfl,(show (0:Int) < 2147483646 by decide),_,_,rfl,rfl,ln2,fun p hp=>?_⟩
    exact q p _ hp ⟨_,_,aa,by omega,by omega⟩ (ae.new hp)
   ·refine⟨_,rfl,_,rfl,_,rfl,_,_,rfl,rfl,_,_,rfl,rfl,(show (0:Int) < 2147483646 by decide),_,_,rfl,rfl,ln2,fun p hp=>?_⟩
    exact q p _ hp ⟨_,_,aa,by omega,by omega⟩ (ae.new hp)
  ·refine⟨_,rfl,10,18,rfl,rfl,⟨by decide,by decide,by decide⟩,_,_,rfl,rfl,_,rfl,?_⟩
   refine du (fun hd=>?_) (fun hd=>?_)
   ·refine⟨_,rfl,_,_,rfl,rfl,.inr ⟨by decide,by decide⟩,_,rfl,_,_,rfl,rfl,.inl ⟨by decide,by decide⟩,_,_,rfl,rfl,_,_,rfl,rfl,(show (0:Int) < 2147483646 by decide),_,_,rfl,rfl,ln2,fun p hp=>?_⟩
    exact q p _ hp ⟨_,_,aa,by omega,by omega⟩ (ae.new hp)
   ·refine⟨_,rfl,_,rfl,_,rfl,_,_,rfl,rfl,_,_,rfl,rfl,(show (0:Int) < 2147483646 by decide),_,_,rfl,rfl,ln2,fun p hp=>?_⟩
    exact q p _ hp ⟨_,_,aa,by omega,by omega⟩ (ae.new hp)
theorem sy {f:Addr} {fd:FuncData} (F:bQ K "_law_take" "_law_take" jt f fd) (Z:Bl mg)  : ba P w K mg base bN 1 f fd ["bag", "many"] fX:=by
 refine F.ok (k:=0) lM (fun vs H Q E h=>?_) (fun cdv A outer s H vs Q E hr h=>?_)
 ·obtain⟨b,m,rfl,_⟩:=h
  rfl
 ·obtain⟨b,m,rfl,⟨x,y,hb,h0,h1⟩,hm,q⟩:=h
  refine⟨_,(af (bw (aF kC (aO b4 (pv 0) ah) ah (aS _))
   (af (aY (i:=2) lM.nd (aZ gU (aO b4 (pv 0) ah) (pv 1)))
   (af (dE (aZ xQ (aO b4 (pv 0) ah) (pv 1)) (mx (pv 0) ah set_list))
   (ai (aB (pv 2)))))
   aV)
   (af (dE (aZ gU (aZ iD (aO b4 (pv 0) ah) ah) ah) (mx (pv 0) ah set_list))
   (ai (aB (aZ gU (aZ sM (aZ gU (aZ iD (aO b4 (pv 0) ah) (aO b4 (pv 0) ah)) ah) ah) (pv 1)))))),?_⟩
  refine⟨_,rfl,b,_,0,_,rfl,rfl,aI.of hb,eW,_,_,rfl,rfl,_,rfl,?_⟩
  refine du (fun hc=>?_) (fun hc=>?_)
  ·refine⟨_,rfl,b,_,0,_,rfl,rfl,aI.of hb,eW,_,rfl,_,_,rfl,rfl,hm.1,?_⟩
   refine⟨_,rfl,b,_,0,_,rfl,rfl,aI.of hb,eW,_,rfl,_,_,rfl,rfl,hm,_,rfl,b,_,0,0,rfl,rfl,hb,rfl,?_⟩
   refine⟨_,rfl,?_⟩
   exact q _ _ (Int.emod_nonneg _ (by have:=hm.1;omega)) (Int.emod_lt_of_pos _ hm.1) ⟨_,_,aa,h0,h1⟩ Fix.zd
  ·refine⟨_,rfl,b,_,1,_,rfl,rfl,aI.of hb,eX,_,_,rfl,rfl,.inr ⟨by decide,by decide⟩,_,_,rfl,rfl,(show (0:Int) < 2147483647 by decide),_,rfl,b,_,1,1,rfl,rfl,hb,rfl,?_⟩
   refine⟨_,rfl,b,_,1,_,rfl,rfl,aI.of aa,eX,_,rfl,b,_,1,_,rfl,rfl,aI.of aa,eX,_,_,rfl,rfl,.inl ⟨by omega,by omega⟩,_,_,rfl,rfl,(show (0:Int) < 2147483629 by decide),_,_,rfl,rfl,⟨by decide,by decide⟩,_,rfl,_,_,rfl,rfl,hm.1,?_⟩
   exact q _ _ (Int.emod_nonneg _ (by have:=hm.1;omega)) (Int.emod_lt_of_pos _ hm.1) ⟨_,_,aa,by omega,by omega⟩ Fix.zd
theorem rO {f:Addr} {fd:FuncData} (F:bQ K "_law_names" "_law_names" iy f fd) (Z:Bl mg) (O_law_take:Own P w K mg base "_law_take" 1 ["bag", "many"] fX):ba P w K mg base bN 2 f fd ["bag"] tq:=by
  refine F.ok (k:=1) cI (fun vs H Q E h=>?_) (fun cdv A outer s H vs Q E hr h=>?_)
  · obtain⟨b,rfl,_⟩:=h
    rfl
  · obtain⟨b,rfl,hB,q⟩:=h
    refine⟨_,(af (aY (i:=1) cI.nd bL)
      (af (aY (i:=2) cI.nd (aZ cS ah (aH O_law_take hr (aL (pv 0) ah))))
      (af (iV (i:=3) ["k"] ["letters", "bag"] [1,0] rfl cI.nd rfl rfl rfl (eU rfl Z.range (ay (aZ cS ah (aH O_law_take hr (aL (pv 0) ah))))) rfl (by decide +kernel) (by decide +kernel) (by decide +kernel) ⟨⟨rfl,.inl rfl,rfl⟩,⟨⟨rfl,.inl rfl,rfl⟩,True.intro⟩⟩ (fun _ _ _ _=>(aK (i:=0) (show ((["k"]:List Str)++(["letters", "bag"]:List Str)).Nodup by decide +kernel) (hf:=Or.inr rfl))) (fun _ _ _ _=>eY) (fun _ _ _ _=>(aO vQ (pv 1) (aH O_law_take hr (aL (pv 2) ah)))))
      (af (aY (i:=4) cI.nd (aH O_law_take hr (aL (pv 0) (aR aN rfl Z.len bE (ay (pv 3))))))
      (af (aY (i:=5) cI.nd (b6 bX))
      (af (di PassesOwn.never rfl (eU rfl Z.range (ay (pv 2))) (aK (i:=6) cI.nd)
      (af (aY (i:=7) cI.nd (br jO rfl Z.list sV (ay (pv 3))))
      (af (dE (aO vQ (pv 1) (aH O_law_take hr (aL (pv 0) ah))) (mx (pv 7) (pv 4) set_list))
      (ai (bw (aF gY (eJ PySem.F.plainAttrs_str PySem.F.slot_str_join PySem.F.type_str_join tm bL (ay (pv 7))) (pv 5) (by with_unfolding_all rfl))
      (ai (dC (eJ PySem.F.plainAttrs_list PySem.F.slot_list_append PySem.F.type_list_append dJ (pv 5) (ay (eJ PySem.F.plainAttrs_str PySem.F.slot_str_join PySem.F.type_str_join tm bL (ay (pv 7)))))))
      aV)))))
      (ai (aB (pv 5))))))))),?_⟩
    refine⟨_,rfl,b,4,rfl,hB,⟨by decide,by decide +kernel⟩,fun m H1 m0 m1 B1 X1=>⟨_,_,rfl,rfl,?_⟩⟩
    refine⟨_,rfl,b,8,rfl,B1,⟨by decide,by decide +kernel⟩,fun k H2 k0 k1 B2 X2=>⟨_,_,rfl,rfl,_,rfl,(by omega),(by omega),fun acc na=>?_⟩⟩
    refine iW (lo:=0) (fun i ys τ H'=>∃ (v:Option V) (cs:List Nat),τ = [v,some (.str mF),some (.ref b)]/\ys=(cs.map one).map V.str/\cs.length=i/\(∀ c ∈ cs,97<=c/\c<=122)/\H' acc=some (.lst ys)/\cT H' b/\Fix b H2 H') ?_ ?_ ?_ ?_
    · exact⟨none,[],rfl,rfl,rfl,(fun _ h=>nomatch h),aa,B2.new na,Fix.new na⟩
    · rintro i ys τ H' hi ⟨v,cs,rfl,rfl,hl,_,ha,_⟩
      refine⟨ha,?_⟩
      rw [List.length_map,List.length_map]
      exact aX (by omega)
    · rintro i ys τ H' hi ⟨v,cs,rfl,rfl,hl,hc,ha,B',X'⟩
      refine bF ?_
      refine jR ?_
      refine bT ?_
      refine⟨_,rfl,_,rfl,b,26,rfl,B',⟨by decide,by decide +kernel⟩,fun r H3 r0 r1 B3 X3=>?_⟩
      obtain⟨c,hat,c0,c1⟩:=v8 r0 r1
      have hab:acc ≠ b:=B2.dP na
      have ha3:=X3 acc _ ha hab
      refine⟨mF,r,c,rfl,rfl,tw,hat,ha3,_,cs ++ [c],rfl,?_,?_,?_,aa,?_,?_⟩
      · rw [List.map_append,List.map_append];rfl
      · rw [List.length_append,hl];rfl
      · intro d hd
        rcases List.mem_append.mp hd with hd | hd
        · exact hc d hd
        · rw [List.mem_singleton.mp hd];exact⟨c0,c1⟩
      · obtain⟨x,y,e,z⟩:=B3
        exact⟨x,y,by rw [ao hab.symm];exact e,z⟩
      · intro d o hd nd
        rw [ao (aw hd na)]
        exact (X'.trans X3) d o hd nd
    · rintro ys τ H3 ⟨v,cs,rfl,rfl,hl,hc,ha,B3,X3⟩
      have hab:acc ≠ b:=B2.dP na
      have hl1:1<=cs.length:=by omega
      have hl8:cs.length<=8:=by omega
      have F3:Fix b H H3:=(X1.trans X2).trans X3
      have el:(((cs.map one).map V.str).length:Int)=cs.length:=by simp
      refine⟨_,rfl,_,rfl,acc,_,rfl,.inl (aI.of ha),b,_,rfl,B3,⟨by omega,fY (by omega) (by omega)⟩,fun at_ H4 t0 t1 B4 X4=>?_⟩
      refine⟨(by show 0<=sizeLine;decide),fun nl nn=>?_⟩
      have hnb:nl ≠ b:=B4.dP nn
      have ha4:H4 acc=some (.lst ((cs.map one).map V.str)):=X4 acc _ ha hab
      have hna:nl ≠ acc:=fun z=>by rw [z,ha4] at nn;cases nn
      have F4:Fix b H H4:=F3.trans X4
      refine⟨_,rfl,_,rfl,(by omega),(by omega),oz (lo:=0) (fun i σ H'=>∃ (u1 u2:Option V) (xs:List Str),σ = [some (.ref b),some (.str mF),some (.int (1+m)),some (.ref acc),some (.int at_),some (.ref nl),u1,u2] /\
        H' nl=some (.lst (xs.map V.str))/\xs.length<=i/\(0 < i->xs ≠ [])/\(∀ x ∈ xs,hG x)/\H' acc=some (.lst ((cs.map one).map V.str))/\cT H' b/\Fix b H H') ?_ ?_ ?_⟩
      · exact⟨_,_,[],rfl,aa,Nat.le_refl _,(fun h=>absurd h (Nat.lt_irrefl _)),(fun _ h=>nomatch h),(by rw [ao hna.symm];exact ha4),B4.new nn,F4.trans (Fix.new nn)⟩
      · rintro i σ H' hi ⟨u1,u2,xs,rfl,hn,hx,hx0,aJ,ha',B',X'⟩
        refine⟨_,rfl,acc,_,rfl,.inl (aI.of ha'),fun nm mm=>?_⟩
        have nmb:nm ≠ b:=B'.dP mm
        have nma:nm ≠ acc:=fun z=>by rw [z,ha'] at mm;cases mm
        have nmn:nm ≠ nl:=fun z=>by rw [z,hn] at mm;cases mm
        refine⟨_,rfl,_,rfl,b,26,rfl,B'.new mm,⟨by decide,by decide +kernel⟩,fun r H5 r0 r1 B5 X5=>?_⟩
        obtain⟨c,hat,c0,c1⟩:=v8 r0 r1
        have h5:H5 nm=some (.lst ((cs.map one).map V.str)):=X5 nm _ aa nmb
        have hn5:H5 nl=some (.lst (xs.map V.str)):=X5 nl _ (by rw [ao nmn.symm];exact hn) hnb
        have ha5:H5 acc=some (.lst ((cs.map one).map V.str)):=X5 acc _ (by rw [ao nma.symm];exact ha') hab
        obtain⟨j,rfl⟩:∃ j:Nat,at_=j:=⟨at_.toNat,by omega⟩
        have hj:j < cs.length:=by omega
        have hix:mC ((cs.map one).map V.str).length (j:Int)=some j:=by
          unfold mC
          rw [if_pos (by omega),if_pos (by rw [el];omega)]
          simp
        refine⟨mF,r,c,rfl,rfl,tw,hat,_,rfl,_,rfl,nm,_,(j:Int),j,rfl,rfl,h5,hix,?_⟩
        have eset:((cs.map one).map V.str).set j (.str ⟨#[c]⟩)=((cs.set j c).map one).map V.str:=by
          rw [List.map_set,List.map_set];rfl
        rw [eset]
        have hc':∀ d ∈ cs.set j c,97<=d/\d<=122:=fun d hd=>by
          rcases List.mem_or_eq_of_mem_set hd with hd | hd
          · exact hc d hd
          · rw [hd];exact⟨c0,c1⟩
        have hjl:(((cs.set j c).map one).map (·.length)).sum+((cs.set j c).map one).length * (Str.ofString "").length<=16777216:=by
          have e1:(Str.ofString "").length=0:=by decide +kernel
          have e2:∀ l:List Nat,((l.map one).map (·.length)).sum=l.length:=by
            intro l
            induction l with
            | nil=>rfl
            | cons a l ih=>simp only [List.map_cons,List.sum_cons,ih,List.length_cons];show 1+l.length=_;omega
          rw [e1,e2,List.length_set]
          omega
        have nk:hG (Txt.join (Str.ofString "") ((cs.set j c).map one)):=by
          rw [xR]
          have ej:=L2.join_ones (cs.set j c)
          have eL:(Txt.join Str.empty ((cs.set j c).map one)).length=(cs.set j c).length:=by
            have:=congrArg List.length ej
            rw [Array.length_toList] at this
            exact this
          refine⟨?_,?_,?_⟩
          · rw [eL,List.length_set];exact hl1
          · rw [eL,List.length_set];exact hl8
          · rw [ej];exact hc'
        have n6:upd H5 nm (.lst (((cs.set j c).map one).map V.str)) nl=some (.lst (xs.map V.str)):=by rw [ao nmn.symm];exact hn5
        have a6:upd H5 nm (.lst (((cs.set j c).map one).map V.str)) acc=some (.lst ((cs.map one).map V.str)):=by rw [ao nma.symm];exact ha5
        have B6:cT (upd H5 nm (.lst (((cs.set j c).map one).map V.str))) b:=by
          obtain⟨x,y,e,z⟩:=B5
          exact⟨x,y,by rw [ao nmb.symm];exact e,z⟩
        have F6:Fix b H (upd H5 nm (.lst (((cs.set j c).map one).map V.str))):=fun d o hd nd=>by
          have h1:=X' d o hd nd
          have nd':d ≠ nm:=fun z=>by rw [z,mm] at h1;cases h1
          rw [ao nd']
          exact X5 d o (by rw [ao nd'];exact h1) nd
        have flat:(xs.map V.str).all ff=true:=by
          rw [List.all_eq_true]
          intro v hv
          obtain⟨x,_,rfl⟩:=List.mem_map.mp hv
          rfl
        refine⟨rfl,_,rfl,_,nm,_,rfl,rfl,aI.of aa,hjl,_,rfl,nl,_,rfl,.inl (aI.of n6),rfl,flat,_,rfl,?_⟩
        refine du (fun hin=>?_) (fun hin=>?_)
        · refine⟨_,rfl,.inl ⟨rfl,_,aI.of n6⟩,rfl,_,rfl,_,nm,_,rfl,rfl,aI.of aa,hjl,nl,_,_,rfl,rfl,n6,?_,?_⟩
          · rw [List.length_map]
            have:i < 4:=by omega
            exact aX (by omega)
          · refine⟨_,_,xs ++ [_],rfl,(by rw [aa,List.map_append];rfl),(by rw [List.length_append];exact Nat.succ_le_succ hx),(fun _=>by simp),?_,(by rw [ao hna.symm];exact a6),?_,?_⟩
            · intro x hxm
              rcases List.mem_append.mp hxm with hxm | hxm
              · exact aJ x hxm
              · rw [List.mem_singleton.mp hxm];exact nk
            · obtain⟨x,y,e,z⟩:=B6
              exact⟨x,y,by rw [ao hnb.symm];exact e,z⟩
            · intro d o hd nd
              have h1:=F6 d o hd nd
              have nd':d ≠ nl:=fun z=>by
                have h2:=F4 d o hd nd
                rw [z,nn] at h2
                cases h2
              rw [ao nd']
              exact h1
        · have hx':xs ≠ []:=by
            intro e
            subst e
            exact hin rfl
          exact⟨_,_,xs,rfl,n6,Nat.le_succ_of_le hx,fun _=>hx',aJ,a6,B6,F6⟩
      · rintro σ H' ⟨u1,u2,xs,rfl,hn,hx,hx0,aJ,ha',B',X'⟩
        refine⟨_,rfl,?_⟩
        have hm:(1+m).toNat<=4:=by omega
        have hm0:0 < (1+m).toNat:=by omega
        exact q nl xs H' ⟨hn,hnb,hx0 hm0,by omega,aJ⟩ (Nat.le_trans hx hm) B' X'
theorem pX {f:Addr} {fd:FuncData} (F:bQ K "_law_number" "_law_number" ia f fd) (Z:Bl mg) (O_law_take:Own P w K mg base "_law_take" 1 ["bag", "many"] fX):ba P w K mg base bN 2 f fd ["bag"] lR:=by
 refine F.ok (k:=1) pU (fun vs H Q E h=>?_) (fun cdv A outer s H vs Q E hr h=>?_)
 ·obtain⟨b,rfl,_⟩:=h
  rfl
 ·obtain⟨b,rfl,hB,q⟩:=h
  refine⟨_,(af (bw (aF dn (aH O_law_take hr (aL (pv 0) ah)) ah (aS _))
   (ai (aB (aZ iD (aZ fT (aZ fT (aZ my ah ah) ah) (aH O_law_take hr (aL (pv 0) ah))) (aZ fT ah (aZ iD ah (aH O_law_take hr (aL (pv 0) ah)))))))
   aV)
   (ai (aB (aZ fT (aH O_law_take hr (aL (pv 0) ah)) ah)))),?_⟩
  refine⟨_,rfl,b,8,rfl,hB,⟨by decide,by decide +kernel⟩,fun r H1 r0 r1 B1 X1=>⟨rfl,_,rfl,?_⟩⟩
  refine du (fun hc=>?_) (fun hc=>?_)
  ·refine⟨10,40,rfl,rfl,⟨by decide,by decide,by decide⟩,_,_,rfl,rfl,?_⟩
   refine⟨_,rfl,b,3,rfl,B1,⟨by decide,by decide +kernel⟩,fun r2 H2 r20 r21 B2 X2=>⟨_,_,rfl,rfl,?_⟩⟩
   refine⟨_,rfl,b,2,rfl,B2,⟨by decide,by decide +kernel⟩,fun r3 H3 r30 r31 B3 X3=>?_⟩
   refine⟨_,_,rfl,rfl,.inl ⟨by decide,by decide⟩,_,_,rfl,rfl,_,_,rfl,rfl,.inr ⟨by omega,by omega⟩,?_⟩
   refine q _ H3 ?_ B3 ((X1.trans X2).trans X3)
   have e:(10:Int) ^ (40:Int).toNat=10 ^ 40:=by decide +kernel
   rw [e]
   obtain rfl | rfl:r3=0\/r3=1:=by omega
   ·rw [show (1:Int) - 2 * 0=1 by decide,Int.mul_one];unfold iX;omega
   ·rw [show (1:Int) - 2 * 1 = -1 by decide,Int.mul_neg,Int.mul_one];unfold iX;omega
  ·refine⟨_,rfl,b,8,rfl,B1,⟨by decide,by decide +kernel⟩,fun r2 H2 r20 r21 B2 X2=>⟨_,_,rfl,rfl,?_⟩⟩
   exact q _ H2 (by unfold iX;omega) B2 (X1.trans X2)
theorem sA {f:Addr} {fd:FuncData} (F:bQ K "_law_deed" "_law_deed" ju f fd) (Z:Bl mg) (O_law_take:Own P w K mg base "_law_take" 1 ["bag", "many"] fX) (O_law_number:Own P w K mg base "_law_number" 2 ["bag"] lR):ba P w K mg base bN 3 f fd ["bag", "names"] v3:=by
 refine F.ok (k:=2) iz (fun vs H Q E h=>?_) (fun cdv A outer s H vs Q E hr h=>?_)
 ·obtain⟨b,l,xs,rfl,_⟩:=h
  rfl
 ·obtain⟨b,l,xs,rfl,hB,hN,q⟩:=h
  refine⟨_,(af (aY (i:=2) iz.nd (aO b4 (b6 (bI bL (bI bL (bI bL (bI bL (bI bL (bI bL (bI bL bX)))))))) (aH O_law_take hr (aL (pv 0) ah))))
   (af (aY (i:=3) iz.nd (aO b4 (pv 1) (aH O_law_take hr (aL (pv 0) (aR aN rfl Z.len bE (ay (pv 1)))))))
   (af (bw (aF dn (pv 2) bL (aS _))
   (ai (aB (bh (hX (pv 2) (pv 3) (aO b4 (pv 1) (aH O_law_take hr (aL (pv 0) (aR aN rfl Z.len bE (ay (pv 1))))))))))
   aV)
   (af (bw (PW.pt (kA (aF dn (pv 2) bL (aS _)) (jI (aF dn (pv 2) bL (aS _)))))
   (ai (aB (bh (hX (pv 2) (pv 3) (aH O_law_number hr (ay (pv 0)))))))
   aV)
   (ai (aB (bh (aL (pv 2) (pv 3))))))))),?_⟩
  refine⟨Df,fun l0 m0=>?_⟩
  refine⟨_,rfl,b,7,rfl,hB.new m0,⟨by decide,by decide +kernel⟩,fun r H1 r0 r1 B1 X1=>?_⟩
  have h0:H1 l0=some (.lst [.str "put",.str "copy",.str "add",.str "read",.str "tell",.str "tell",.str "add"]):=X1 l0 _ aa (hB.dP m0)
  have F1:Fix b H H1:=(Fix.new m0).trans X1
  have N1:=hN.fix F1
  have hw:∃ w:Str,(w = "put" \/ w = "copy" \/ w = "add" \/ w = "read" \/ w = "tell")/\fE [V.str "put",.str "copy",.str "add",.str "read",.str "tell",.str "tell",.str "add"] r=some (V.str w):=by
   obtain rfl | rfl | rfl | rfl | rfl | rfl | rfl:r=0\/r=1\/r=2\/r=3\/r=4\/r=5\/r=6:=by omega
   ·exact⟨_,.inl rfl,bO (j:=0) rfl⟩
   ·exact⟨_,.inr (.inl rfl),bO (j:=1) rfl⟩
   ·exact⟨_,.inr (.inr (.inl rfl)),bO (j:=2) rfl⟩
   ·exact⟨_,.inr (.inr (.inr (.inl rfl))),bO (j:=3) rfl⟩
   ·exact⟨_,.inr (.inr (.inr (.inr rfl))),bO (j:=4) rfl⟩
   ·exact⟨_,.inr (.inr (.inr (.inr rfl))),bO (j:=5) rfl⟩
   ·exact⟨_,.inr (.inr (.inl rfl)),bO (j:=6) rfl⟩
  obtain⟨w,hw,hat⟩:=hw
  refine⟨l0,_,r,_,rfl,rfl,aI.of h0,hat,?_⟩
  obtain⟨p0,p1⟩:=N1.pos
  refine⟨_,rfl,_,rfl,_,rfl,l,_,rfl,.inl (aI.of N1.at_),b,_,rfl,B1,⟨p0,fY p0 p1⟩,fun r2 H2 r20 r21 B2 X2=>?_⟩
  have N2:=N1.fix X2
  obtain⟨x,hx,hxm⟩:=lS r20 r21
  refine⟨l,_,r2,_,rfl,rfl,aI.of N2.at_,hx,?_⟩
  refine⟨_,rfl,rfl,_,rfl,?_⟩
  rcases hw with rfl | rfl | rfl | rfl | rfl
  ·
   rw [show decide (V.str "put" = V.str "copy")=false by decide +kernel]
   refine bJ ⟨_,rfl,rfl,_,rfl,?_⟩
   rw [show decide (V.str "put" = V.str "put")=true by decide +kernel]
   refine bT (bT ⟨_,rfl,_,rfl,_,rfl,b,rfl,B2,fun n H3 nk B3 X3=>⟨sW,fun t mt=>?_⟩⟩)
   exact q _ (.put x n) _ (.tup aa (.cons (.str _) (.cons (.str _) (.cons (.int _) .nil)))) ⟨hxm,nk⟩ (B3.new mt) (((F1.trans X2).trans X3).trans (Fix.new mt))
  ·
   rw [show decide (V.str "copy" = V.str "copy")=true by decide +kernel]
   obtain⟨p0,p1⟩:=N2.pos
   refine bT ⟨_,rfl,_,rfl,_,rfl,_,rfl,_,rfl,l,_,rfl,.inl (aI.of N2.at_),b,_,rfl,B2,⟨p0,fY p0 p1⟩,fun r3 H3 r30 r31 B3 X3=>?_⟩
   have N3:=N2.fix X3
   obtain⟨y,hy,hym⟩:=lS r30 r31
   refine⟨l,_,r3,_,rfl,rfl,aI.of N3.at_,hy,sW,fun t mt=>?_⟩
   exact q _ (.copy x y) _ (.tup aa (.cons (.str _) (.cons (.str _) (.cons (.str _) .nil)))) ⟨hxm,hym⟩ (B3.new mt) (((F1.trans X2).trans X3).trans (Fix.new mt))
  ·
   rw [show decide (V.str "add" = V.str "copy")=false by decide +kernel]
   refine bJ ⟨_,rfl,rfl,_,rfl,?_⟩
   rw [show decide (V.str "add" = V.str "put")=false by decide +kernel]
   refine bJ ⟨_,rfl,rfl,_,rfl,?_⟩
   rw [show decide (V.str "add" = V.str "add")=true by decide +kernel]
   refine bT ⟨_,rfl,_,rfl,_,rfl,b,rfl,B2,fun n H3 nk B3 X3=>⟨sW,fun t mt=>?_⟩⟩
   exact q _ (.add x n) _ (.tup aa (.cons (.str _) (.cons (.str _) (.cons (.int _) .nil)))) ⟨hxm,nk⟩ (B3.new mt) (((F1.trans X2).trans X3).trans (Fix.new mt))
  ·
   rw [show decide (V.str "read" = V.str "copy")=false by decide +kernel]
   refine bJ ⟨_,rfl,rfl,_,rfl,?_⟩
   rw [show decide (V.str "read" = V.str "put")=false by decide +kernel]
   refine bJ ⟨_,rfl,rfl,_,rfl,?_⟩
   rw [show decide (V.str "read" = V.str "add")=false by decide +kernel]
   refine bJ ⟨_,rfl,_,rfl,ln2,fun t mt=>?_⟩
   exact q _ (.read x) _ (.tup aa (.cons (.str _) (.cons (.str _) .nil))) hxm (B2.new mt) ((F1.trans X2).trans (Fix.new mt))
  ·
   rw [show decide (V.str "tell" = V.str "copy")=false by decide +kernel]
   refine bJ ⟨_,rfl,rfl,_,rfl,?_⟩
   rw [show decide (V.str "tell" = V.str "put")=false by decide +kernel]
   refine bJ ⟨_,rfl,rfl,_,rfl,?_⟩
   rw [show decide (V.str "tell" = V.str "add")=false by decide +kernel]
   refine bJ ⟨_,rfl,_,rfl,ln2,fun t mt=>?_⟩
   exact q _ (.tell x) _ (.tup aa (.cons (.str _) (.cons (.str _) .nil))) hxm (B2.new mt) ((F1.trans X2).trans (Fix.new mt))
theorem vw {f:Addr} {fd:FuncData} (F:bQ K "_law_end" "_law_end" ku f fd) (Z:Bl mg) (O_law_take:Own P w K mg base "_law_take" 1 ["bag", "many"] fX) (O_law_number:Own P w K mg base "_law_number" 2 ["bag"] lR):ba P w K mg base bN 3 f fd ["bag", "names", "count"] v5:=by
 refine F.ok (k:=2) gJ (fun vs H Q E h=>?_) (fun cdv A outer s H vs Q E hr h=>?_)
 ·obtain⟨b,l,xs,c,rfl,_⟩:=h
  rfl
 ·obtain⟨b,l,xs,c,rfl,hB,hN,c0,c1,q⟩:=h
  refine⟨_,(af (aY (i:=3) gJ.nd (aH O_law_take hr (aL (pv 0) ah)))
   (af (bw (aF dn (pv 3) ah (aS _))
   (ai (aB (bh (ay bL))))
   aV)
   (af (bw (aF gC (pv 3) ah (aS _))
   (ai (aB (bh (aL bL (aH O_law_take hr (aL (pv 0) (pv 2)))))))
   aV)
   (af (aY (i:=4) gJ.nd (aO b4 (b6 (aL bL bL)) (aZ sM (aH O_law_take hr (aL (pv 0) ah)) ah)))
   (af (aY (i:=5) gJ.nd (aO b4 (pv 1) (aH O_law_take hr (aL (pv 0) (aR aN rfl Z.len bE (ay (pv 1)))))))
   (ai (aB (bh (bI (pv 4) (bI (pv 5) (bI (aH O_law_number hr (ay (pv 0))) (bI (aH O_law_take hr (aL (pv 0) (pv 2))) (bI (aH O_law_take hr (aL (pv 0) (pv 2))) bX))))))))))))),?_⟩
  have ck:(0:Int) < (c:Int)/\(c:Int).natAbs.log2 < 9000:=⟨by omega,fY (by omega) (by omega)⟩
  refine⟨_,rfl,b,9,rfl,hB,⟨by decide,by decide +kernel⟩,fun r H1 r0 r1 B1 X1=>?_⟩
  refine⟨_,rfl,rfl,_,rfl,?_⟩
  refine du (fun hc=>?_) (fun hc=>?_)
  ·refine⟨ze,fun t mt=>?_⟩
   exact q _ .stop _ (.tup aa (.cons (.str _) .nil)) True.intro (B1.new mt) (X1.trans (Fix.new mt))
  refine⟨_,rfl,_,_,rfl,rfl,_,rfl,?_⟩
  refine du (fun hd=>?_) (fun hd=>?_)
  ·refine⟨_,rfl,_,rfl,b,_,rfl,B1,ck,fun p H2 p0 p1 B2 X2=>⟨ln2,fun t mt=>?_⟩⟩
   obtain⟨k,rfl⟩:∃ k:Nat,p=k:=⟨p.toNat,by omega⟩
   exact q _ (.go k) _ (.tup aa (.cons (.str _) (.cons (.int _) .nil))) (show k < c by omega) (B2.new mt) ((X1.trans X2).trans (Fix.new mt))
  ·refine⟨ln2,fun l0 m0=>?_⟩
   refine⟨_,rfl,b,3,rfl,B1.new m0,⟨by decide,by decide +kernel⟩,fun z H2 z0 z1 B2 X2=>⟨_,_,rfl,rfl,⟨by decide,by decide⟩,?_⟩⟩
   have h0:H2 l0=some (.lst [.str "less",.str "is"]):=X2 l0 _ aa (B1.dP m0)
   have hw:∃ w:Bool,fE [V.str "less",V.str "is"] (z / 2)=some (V.str (wT w)):=by
    obtain h | h:z / 2=0\/z / 2=1:=by omega
    ·rw [h];exact⟨true,eW⟩
    ·rw [h];exact⟨false,eX⟩
   obtain⟨w,hat⟩:=hw
   refine⟨l0,_,_,_,rfl,rfl,aI.of h0,hat,?_⟩
   have F2:Fix b H H2:=(X1.trans (Fix.new m0)).trans X2
   have N2:=hN.fix F2
   obtain⟨p0,p1⟩:=N2.pos
   refine⟨_,rfl,_,rfl,_,rfl,l,_,rfl,.inl (aI.of N2.at_),b,_,rfl,B2,⟨p0,fY p0 p1⟩,fun r3 H3 r30 r31 B3 X3=>?_⟩
   have N3:=N2.fix X3
   obtain⟨x,hx,hxm⟩:=lS r30 r31
   refine⟨l,_,r3,_,rfl,rfl,aI.of N3.at_,hx,?_⟩
   refine⟨_,rfl,_,rfl,_,rfl,b,rfl,B3,fun n H4 nk B4 X4=>?_⟩
   refine⟨_,rfl,_,rfl,b,_,rfl,B4,ck,fun p H5 p0 p1 B5 X5=>?_⟩
   refine⟨_,rfl,_,rfl,b,_,rfl,B5,ck,fun p' H6 p0' p1' B6 X6=>⟨De,fun t mt=>?_⟩⟩
   obtain⟨k,rfl⟩:∃ k:Nat,p=k:=⟨p.toNat,by omega⟩
   obtain⟨k',rfl⟩:∃ k:Nat,p' = k:=⟨p'.toNat,by omega⟩
   exact q _ (.cH w x n k k') _ (.tup aa (.cons (.str _) (.cons (.str _) (.cons (.int _) (.cons (.int _) (.cons (.int _) .nil)))))) ⟨hxm,nk,by omega,by omega⟩ (B6.new mt) ((((F2.trans X3).trans X4).trans (X5.trans X6)).trans (Fix.new mt))
theorem sC {f:Addr} {fd:FuncData} (F:bQ K "_law_plan" "_law_plan" jv f fd) (Z:Bl mg) (O_law_take:Own P w K mg base "_law_take" 1 ["bag", "many"] fX) (O_law_names:Own P w K mg base "_law_names" 2 ["bag"] tq) (O_law_deed:Own P w K mg base "_law_deed" 3 ["bag", "names"] v3) (O_law_end:Own P w K mg base "_law_end" 3 ["bag", "names", "count"] v5):ba P w K mg base bN 4 f fd ["bag", "count", "most"] v7:=by
  refine F.ok (k:=3) dW (fun vs H Q E h=>?_) (fun cdv A outer s H vs Q E hr h=>?_)
  · obtain⟨b,c,m,rfl,_⟩:=h
    rfl
  · obtain⟨b,c,m,rfl,hB,c0,c1,hm,q⟩:=h
    refine⟨_,(af (aY (i:=3) dW.nd (aH O_law_names hr (ay (pv 0))))
      (af (aY (i:=4) dW.nd (b6 bX))
      (af (di PassesOwn.never rfl (eU rfl Z.range (ay (pv 1))) (aK (i:=5) dW.nd)
      (af (aY (i:=6) dW.nd (aH O_law_take hr (aL (pv 0) (aZ cS (pv 2) ah))))
      (af (aY (i:=7) dW.nd (aH O_law_end hr (hX (pv 0) (pv 3) (pv 1))))
      (ai (dC (eJ PySem.F.plainAttrs_list PySem.F.slot_list_append PySem.F.type_list_append dJ (pv 4) (ay (bh (aL (br bu rfl Z.tuple cm (ay (cE ["j"] ["bag", "names"] [0,3] rfl (eU rfl Z.range (ay (pv 6))) rfl (by decide +kernel) (by decide +kernel) (by decide +kernel) ⟨⟨rfl,.inl rfl,rfl⟩,⟨⟨rfl,.inl rfl,rfl⟩,True.intro⟩⟩ (fun _ _ _ _=>(aK (i:=0) (show ((["j"]:List Str)++(["bag", "names"]:List Str)).Nodup by decide +kernel) (hf:=Or.inr rfl))) (fun _ _ _ _=>eY) (fun _ _ _ _=>(aH O_law_deed hr (aL (pv 1) (pv 2))))))) (pv 7))))))))))
      (ai (aB (br bu rfl Z.tuple cm (ay (pv 4)))))))),?_⟩
    refine⟨_,rfl,b,rfl,hB,fun l xs H1 N1 x4 B1 X1=>?_⟩
    refine⟨(by show 0<=sizeLine;decide),fun pl pn=>?_⟩
    have hpb:pl ≠ b:=B1.dP pn
    refine⟨_,rfl,_,rfl,(by omega),(by omega),oz (lo:=0) (fun i σ H'=>∃ (u1 u2 u3:Option V) (ps:List Piece) (vs:List V),σ = [some (.ref b),some (.int c),some (.int m),some (.ref l),some (.ref pl),u1,u2,u3] /\
      H' pl=some (.lst vs)/\aU H' vs (ps.map dQ)/\ps.length=i/\(∀ p ∈ ps,(p.1.length<=m/\∀ d ∈ p.1,eF xs d)/\iY xs c p.2)/\eh H' b l xs/\cT H' b/\Fix b H H'/\(∀ d o,H1 d=some o->d ≠ b->H' d=some o)) ?_ ?_ ?_⟩
    · exact⟨_,_,_,[],[],rfl,aa,.nil,rfl,(fun _ h=>nomatch h),N1.fix (Fix.new pn),B1.new pn,X1.trans (Fix.new pn),Fix.new pn⟩
    · rintro i σ H' hi ⟨u1,u2,u3,ps,vs,rfl,hp,hr,hl,aJ,N',B',X',Y'⟩
      refine⟨_,rfl,_,rfl,_,_,rfl,rfl,b,_,rfl,B',⟨by omega,fY (by omega) (by omega)⟩,fun k H2 k0 k1 B2 X2=>?_⟩
      have N2:=N'.fix X2
      refine⟨_,rfl,_,rfl,_,rfl,b,l,xs,c,rfl,B2,N2,c0,(by omega),fun ev e H3 re ek B3 X3=>?_⟩
      have N3:=N2.fix X3
      have hp3:H3 pl=some (.lst vs):=(X2.trans X3) pl _ hp hpb
      have hr3:aU H3 vs (ps.map dQ):=hr.fix B' (X2.trans X3) (bW ps)
      refine⟨_,rfl,.inl ⟨rfl,_,aI.of hp3⟩,_,rfl,_,rfl,(by omega),(by omega),fun acc na=>?_⟩
      have hab:acc ≠ b:=B3.dP na
      refine iW (lo:=0) (fun i ys τ H'=>∃ (v:Option V) (ds:List cG),τ = [v,some (.ref b),some (.ref l)]/\aU H' ys (ds.map ef)/\ds.length=i/\(∀ d ∈ ds,eF xs d)/\H' acc=some (.lst ys)/\cT H' b/\Fix b H3 H') ?_ ?_ ?_ ?_
      · exact⟨none,[],rfl,.nil,rfl,(fun _ h=>nomatch h),aa,B3.new na,Fix.new na⟩
      · rintro i' ys τ H4 hi' ⟨v,ds,rfl,rds,hl',_,ha,_⟩
        refine⟨ha,?_⟩
        rw [rds.len,List.length_map]
        exact aX (by omega)
      · rintro i' ys τ H4 hi' ⟨v,ds,rfl,rds,hl',hdk,ha,B4,X4⟩
        refine bF ?_
        refine jR ?_
        refine bT ?_
        refine⟨_,rfl,_,rfl,b,l,xs,rfl,B4,N3.fix X4,fun dv d H5 rd dk B5 X5=>?_⟩
        have ha5:=X5 acc _ ha hab
        refine⟨ha5,_,ds ++ [d],rfl,?_,(by rw [List.length_append,hl'];rfl),?_,aa,?_,?_⟩
        · rw [List.map_append]
          refine aU.app ((rds.fix B4 X5 (cN ds)).put ha5 (cN ds)) ?_
          exact rd.aW (fun p zs e=>by rw [ao (bH e ha5 (by intro z;cases z))];exact e) (lh d)
        · intro d' hd
          rcases List.mem_append.mp hd with hd | hd
          · exact hdk d' hd
          · rw [List.mem_singleton.mp hd];exact dk
        · obtain⟨x,y,e,z⟩:=B5
          exact⟨x,y,by rw [ao hab.symm];exact e,z⟩
        · intro d' o hd nd
          rw [ao (aw hd na)]
          exact (X4.trans X5) d' o hd nd
      · rintro ys τ H4 ⟨v,ds,rfl,rds,hl',hdk,ha,B4,X4⟩
        refine⟨acc,ys,rfl,.inl ⟨aI.of ha,fun tp tn=>?_⟩⟩
        refine⟨_,rfl,ln2,fun pc pcn=>?_⟩
        have S6:ae H4 (upd (upd H4 tp (.tup ys)) pc (.tup [.ref tp,ev])):=(ae.new tn).trans (ae.new pcn)
        have hp6:(upd (upd H4 tp (.tup ys)) pc (.tup [.ref tp,ev])) pl=some (.lst vs):=S6 _ _ (X4 pl _ hp3 hpb)
        refine⟨pl,_,_,rfl,rfl,hp6,?_,?_⟩
        · rw [hr.len,List.length_map,hl]
          exact aX (by omega)
        have hpiece:aP (upd (upd H4 tp (.tup ys)) pc (.tup [.ref tp,ev])) (.ref pc) (dQ (ds,e)):=by
          refine .tup aa (.cons (.tup (ae.new pcn _ _ aa) (rds.same S6 (cN ds))) (.cons ?_ .nil))
          exact (re.fix B3 X4 (iZ e)).same S6 (iZ e)
        have F6:Fix b H (upd (upd H4 tp (.tup ys)) pc (.tup [.ref tp,ev])):=((X'.trans (X2.trans X3)).trans X4).trans (Fix.of_same S6)
        have plH:∀ d o,H1 d=some o->d ≠ b->d ≠ pl:=fun d o hd nd z=>by rw [z,pn] at hd;cases hd
        refine⟨_,_,_,ps ++ [(ds,e)],vs ++ [.ref pc],rfl,aa,?_,(by rw [List.length_append,hl];rfl),?_,?_,?_,?_,?_⟩
        · rw [List.map_append]
          refine aU.app (((hr3.fix B3 X4 (bW ps)).same S6 (bW ps)).put hp6 (bW ps)) ?_
          exact hpiece.aW (fun p zs e=>by rw [ao (bH e hp6 (by intro z;cases z))];exact e) (hJ (ds,e))
        · intro p hpm
          rcases List.mem_append.mp hpm with hpm | hpm
          · exact aJ p hpm
          · rw [List.mem_singleton.mp hpm]
            exact⟨⟨by show ds.length<=m;omega,hdk⟩,ek⟩
        · have hll:l ≠ pl:=fun z=>by
            have:=N1.at_
            rw [z,pn] at this
            cases this
          have N6:=(N3.fix X4).fix (Fix.of_same (b:=b) S6)
          exact⟨by rw [ao hll];exact N6.at_,N6.ne,N6.uF,N6.b0,N6.ok⟩
        · obtain⟨x,y,e',z⟩:=B4.same S6
          exact⟨x,y,by rw [ao hpb.symm];exact e',z⟩
        · intro d o hd nd
          have h1:=X1 d o hd nd
          rw [ao (plH d o h1 nd)]
          exact F6 d o hd nd
        · intro d o hd nd
          rw [ao (plH d o hd nd)]
          exact S6 d o (X4 d o ((X2.trans X3) d o (Y' d o hd nd) nd) nd)
    · rintro σ H' ⟨u1,u2,u3,ps,vs,rfl,hp,hr,hl,aJ,N',B',X',Y'⟩
      have hl':ps.length=c:=by rw [hl];omega
      refine⟨_,rfl,pl,_,rfl,.inl ⟨aI.of hp,fun tp tn=>?_⟩⟩
      refine q (.ref tp) xs ps _ (.tup aa (hr.same (ae.new tn) (bW ps))) hl' ⟨fun p hpm=>(aJ p hpm).1,fun p hpm=>?_⟩ ⟨N'.ok,x4⟩ (B'.new tn) (X'.trans (Fix.new tn))
      rw [hl']
      exact (aJ p hpm).2
theorem rP {f:Addr} {fd:FuncData} (F:bQ K "_law_count" "_law_count" iA f fd) (Z:Bl mg) (O_law_take:Own P w K mg base "_law_take" 1 ["bag", "many"] fX):ba P w K mg base bN 2 f fd ["bag", "most"] tu:=by
 refine F.ok (k:=1) rM (fun vs H Q E h=>?_) (fun cdv A outer s H vs Q E hr h=>?_)
 ·obtain⟨b,m,rfl,_⟩:=h
  rfl
 ·obtain⟨b,m,rfl,hB,m0,m1,q⟩:=h
  refine⟨_,(ai (aB (aO b4 (b6 (hX (aZ cS ah (aH O_law_take hr (aL (pv 0) (pv 1)))) (aZ cS ah (aH O_law_take hr (aL (pv 0) (aR (oB rfl) rfl Z.min vW (aL ah (pv 1)))))) (pv 1))) (aH O_law_take hr (aL (pv 0) ah))))),?_⟩
  refine⟨_,rfl,_,rfl,b,_,rfl,hB,⟨by omega,fY (by omega) (by omega)⟩,fun r H1 r0 r1 B1 X1=>⟨_,_,rfl,rfl,?_⟩⟩
  refine⟨_,rfl,_,rfl,_,_,rfl,b,_,rfl,B1,⟨(by split <;> omega),fY (by split <;> omega) (by split <;> omega)⟩,fun r2 H2 r20 r21 B2 X2=>⟨_,_,rfl,rfl,?_⟩⟩
  refine⟨_,rfl,sW,fun l0 n0=>?_⟩
  refine⟨_,rfl,b,3,rfl,B2.new n0,⟨by decide,by decide +kernel⟩,fun z H3 z0 z1 B3 X3=>?_⟩
  have h0:H3 l0=some (.lst [.int (1+r),.int (1+r2),.int m]):=X3 l0 _ aa (B2.dP n0)
  have hr2:r2 < 4:=by
   have:=r21
   split at this <;> omega
  have F3:Fix b H H3:=((X1.trans X2).trans (Fix.new n0)).trans X3
  obtain rfl | rfl | rfl:z=0\/z=1\/z=2:=by omega
  ·refine⟨l0,_,0,_,rfl,rfl,aI.of h0,eW,?_⟩
   have e:(1+r)=(((1+r).toNat:Nat):Int):=by omega
   rw [e]
   exact q _ H3 (by omega) (by omega) B3 F3
  ·refine⟨l0,_,1,_,rfl,rfl,aI.of h0,eX,?_⟩
   have e:(1+r2)=(((1+r2).toNat:Nat):Int):=by omega
   rw [e]
   exact q _ H3 (by omega) (by omega) B3 F3
  ·refine⟨l0,_,2,_,rfl,rfl,aI.of h0,at2,?_⟩
   exact q _ H3 m0 (by omega) B3 F3
theorem sD {f:Addr} {fd:FuncData} (F:bQ K "_law_ways" "_law_ways" jw f fd) (Z:Bl mg)  : ba P w K mg base bN 1 f fd ["end"] hV:=by
 refine F.ok (k:=0) sj (fun vs H Q E h=>?_) (fun cdv A outer s H vs Q E hr h=>?_)
 ·obtain⟨ea,e,rfl,_⟩:=h
  rfl
 ·obtain⟨ea,e,rfl,he,q⟩:=h
  refine⟨_,(af (bw (aF dn (aR aN rfl Z.len bE (ay (pv 0))) ah (aS _))
   (ai (aB (b6 (aL (aO bM (pv 0) ah) (aO bM (pv 0) ah)))))
   aV)
   (ai (aB (br jO rfl Z.list sV (ay (iU kJ (pv 0) (kH ah) kG)))))),?_⟩
  refine⟨_,rfl,ea,_,rfl,.inr (av.of he),rfl,_,rfl,?_⟩
  cases e with
  | stop =>
   refine bB (show decide (V.int ((1:Nat):Int)=V.int 5)=false by decide +kernel) ?_
   refine⟨_,rfl,_,rfl,ea,_,rfl,av.of he,fun hw=>absurd hw.1 (by decide),fun _ p hp=>⟨p,_,rfl,.inr (av.of aa),fun l nl=>q l _ ((ae.new hp).free nl) aa ((ae.new hp).trans (ae.new nl))⟩⟩
  | go p1 =>
   refine bB (show decide (V.int ((2:Nat):Int)=V.int 5)=false by decide +kernel) ?_
   refine⟨_,rfl,_,rfl,ea,_,rfl,av.of he,fun hw=>absurd hw.1 (by show ¬ HT.bD 2 0 (some 1)=0;decide),fun _ p hp=>⟨p,_,rfl,.inr (av.of aa),fun l nl=>q l _ ((ae.new hp).free nl) aa ((ae.new hp).trans (ae.new nl))⟩⟩
  | cH b x n p1 p2 =>
   refine cL (show decide (V.int ((5:Nat):Int)=V.int 5)=true by decide +kernel) ?_
   refine⟨_,rfl,ea,_,3,_,rfl,rfl,av.of he,bO (j:=3) rfl,_,rfl,ea,_,4,_,rfl,rfl,av.of he,bO (j:=4) rfl,ln2,fun l nl=>q l _ nl aa (ae.new nl)⟩
theorem ox {f:Addr} {fd:FuncData} (F:bQ K "_law_reached" "_law_reached" gr f fd) (Z:Bl mg) (O_law_ways:Own P w K mg base "_law_ways" 1 ["end"] hV):ba P w K mg base bN 3 f fd ["plan"] jf:=by
  refine F.ok (k:=2) dI (fun vs H Q E h=>?_) (fun cdv A outer s H vs Q E hr h=>?_)
  · obtain⟨plv,ps,rfl,_⟩:=h
    rfl
  · obtain⟨plv,ps,rfl,hp,hin,hn0,hn,q⟩:=h
    refine⟨_,(af (aY (i:=1) dI.nd (b6 (ay ah)))
      (af (aY (i:=2) dI.nd ah)
      (af (iT PassesOwn.never (aF gC (pv 2) (aR aN rfl Z.len bE (ay (pv 1))) (aS _))
      (af (di PassesOwn.never rfl (dU (aH O_law_ways hr (ay (aO bM (aO bM (pv 0) (aO b4 (pv 1) (pv 2))) ah)))) (aK (i:=3) dI.nd)
      (ai (bw (aF gY (pv 3) (pv 1) (by with_unfolding_all rfl))
      (ai (dC (eJ PySem.F.plainAttrs_list PySem.F.slot_list_append PySem.F.type_list_append dJ (pv 1) (ay (pv 3)))))
      aV)))
      (ai (aY (i:=2) dI.nd (aZ cS (pv 2) ah)))))
      (ai (aB (aR (pS) rfl Z.sorted eZ (ay (pv 1)))))))),?_⟩
    obtain⟨pp,vs,rfl,e1,r1⟩:=aP.bx hp
    have hvl:=r1.len
    rw [List.length_map] at hvl
    refine⟨ze,fun fl nfl=>?_⟩
    have s1:=ae.new (o:=.lst [.int 0]) nfl
    have hf1:(upd H fl (.lst [.int 0])) fl=some (.lst (vN [0])):=aa
    generalize (upd H fl (.lst [.int 0]))=H1 at s1 hf1
    refine⟨fun m σ H'=>∃ (ks:List Nat) (at_:Nat) (u:Option V),σ = [some (.ref pp),some (.ref fl),some (.int (at_:Nat)),u]/\H' fl=some (.lst (vN ks))/\ks.Nodup/\(∀ k ∈ ks,k < ps.length)/\(∀ k ∈ ks,eQ ps k)/\0 ∈ ks/\at_<=ks.length/\(∀ k ∈ ks.take at_,∀ ds e,ps[k]? = some (ds,e)->∀ j ∈ ar e,j ∈ ks)/\m=ps.length - at_/\ae H H',⟨_,[0],0,_,rfl,hf1,by simp,(fun k hk=>by rw [List.mem_singleton.mp hk];exact hn0),(fun k hk=>by rw [List.mem_singleton.mp hk];exact .zero),by simp,Nat.zero_le _,(fun k hk=>by simp at hk),rfl,s1⟩,?_⟩
    rintro m σ H2 ⟨ks,at_,u,rfl,hf2,nd,lt,rn,h0,hak,hcl,hm,s2⟩
    have hkn:=cV nd lt
    have hvl2:(vN ks).length=ks.length:=List.length_map ..
    refine⟨_,rfl,_,rfl,fl,_,rfl,.inl (aI.of hf2),_,_,rfl,rfl,_,rfl,?_⟩
    refine du (fun hc=>?_) (fun hc=>?_)
    · have hlt:at_ < ks.length:=by have:=of_decide_eq_true hc;omega
      have hki:ks[at_]? = some ks[at_]:=by simp [hlt]
      generalize ks[at_] = kk at hki
      have hkm:=List.mem_of_getElem? hki
      have hkb:=lt kk hkm
      have hps:ps[kk]? = some ps[kk]:=by simp [hkb]
      generalize ps[kk] = pce at hps
      obtain⟨ds,e⟩:=pce
      obtain⟨p',xs',pc,da,ea,wsv,ep,e1',el',hx',e2,e3,r3,e4⟩:=d6 hp hps
      cases ep
      rw [e1] at e1'
      cases e1'
      refine⟨_,fun σ' H' h=>⟨ps.length - (at_+1),by omega,h⟩,?_⟩
      refine⟨_,rfl,_,rfl,_,rfl,fl,_,_,_,rfl,rfl,aI.of hf2,bO (by rw [List.getElem?_map,hki];rfl),pp,_,_,_,rfl,rfl,av.of (s2 _ _ e1),bO hx',pc,_,1,_,rfl,rfl,av.of (s2 _ _ e2),eX,ea,e,rfl,s2 _ _ e4,fun wl H5 nwl hwl s5=>?_⟩
      have nfw:fl ≠ wl:=aw hf2 nwl
      have hf5:=s5 _ _ hf2
      refine⟨wl,rfl,⟨_,aI.of hwl⟩,gS (K:=K) (a:=wl) (xs:=vN (ar e)) (fun i σ H'=>∃ (ks':List Nat) (more:List Nat) (u:Option V),σ = [some (.ref pp),some (.ref fl),some (.int (at_:Nat)),u]/\H' fl=some (.lst (vN ks'))/\ks' = ks++more/\ks'.Nodup/\(∀ k ∈ ks',k < ps.length)/\(∀ k ∈ ks',eQ ps k)/\(∀ k ∈ (ar e).take i,k ∈ ks')/\(∀ c o,H5 c=some o->c ≠ fl->H' c=some o)) ?_ ?_ ?_ ?_⟩
      · exact⟨ks,[],_,rfl,hf5,by rw [List.append_nil],nd,lt,rn,(fun k hk=>by simp at hk),fun c o h _=>h⟩
      · rintro i σ H6 hi ⟨ks',more,u,rfl,g1,g2,g3,g4,g5,g6,g7⟩
        exact aI.of (g7 _ _ hwl nfw.symm)
      · rintro i y σ H6 hi ⟨ks',more,u,rfl,g1,rfl,g3,g4,g5,g6,g7⟩
        obtain⟨k0,hk0,rfl⟩:∃ k,(ar e)[i]? = some k/\y=V.int (k:Nat):=by
          rw [List.getElem?_map] at hi
          cases z:(ar e)[i]? with
          | none=>rw [z] at hi;cases hi
          | some k=>rw [z] at hi;exact⟨k,rfl,(Option.some.inj hi).symm⟩
        have hk0m:=List.mem_of_getElem? hk0
        have hk0b:=iN hin hps k0 hk0m
        have htk:(ar e).take (i+1)=(ar e).take i ++ [k0]:=by rw [List.take_add_one,hk0];rfl
        refine bF ?_
        refine⟨_,rfl,_,rfl,fl,_,rfl,.inl (aI.of g1),rfl,e6 _,_,rfl,?_⟩
        rw [show (if true=true then !eV (.int (k0:Nat)) (vN (ks++more)) else eV (.int (k0:Nat)) (vN (ks++more))) = !decide (k0 ∈ ks++more) from congrArg (!·) (eu k0 _)]
        by_cases hm0:k0 ∈ ks++more
        · refine bB (by rw [decide_eq_true hm0];rfl) ?_
          refine⟨_,more,_,rfl,g1,rfl,g3,g4,g5,fun k hk=>?_,g7⟩
          rw [htk] at hk
          rcases List.mem_append.mp hk with hk | hk
          · exact g6 k hk
          · rw [List.mem_singleton.mp hk];exact hm0
        · refine cL (by rw [decide_eq_false hm0];rfl) ?_
          have hfew:=cV g3 g4
          refine⟨_,rfl,.inl ⟨rfl,_,aI.of g1⟩,_,rfl,fl,_,_,rfl,rfl,g1,aX (by rw [List.length_map];omega),?_⟩
          refine⟨ks++(more ++ [k0]),more ++ [k0],_,rfl,?_,rfl,?_,fun k hk=>?_,fun k hk=>?_,fun k hk=>?_,fun c o h c1=>by rw [ao c1];exact g7 c o h c1⟩
          · rw [aa]
            show _=some (HO.lst ((ks++(more ++ [k0])).map _))
            rw [<-List.append_assoc,List.map_append]
            rfl
          · rw [<-List.append_assoc,List.nodup_append]
            refine⟨g3,by simp,fun x hx y hy z=>?_⟩
            rw [List.mem_singleton.mp hy] at z
            exact hm0 (z ▸ hx)
          · rw [<-List.append_assoc] at hk
            rcases List.mem_append.mp hk with hk | hk
            · exact g4 k hk
            · rw [List.mem_singleton.mp hk];exact hk0b
          · rw [<-List.append_assoc] at hk
            rcases List.mem_append.mp hk with hk | hk
            · exact g5 k hk
            · rw [List.mem_singleton.mp hk];exact .step (rn kk hkm) hps hk0m
          · rw [htk] at hk
            rw [<-List.append_assoc]
            rcases List.mem_append.mp hk with hk | hk
            · exact List.mem_append_left _ (g6 k hk)
            · exact List.mem_append_right _ hk
      · rintro σ H6 ⟨ks',more,u,rfl,g1,rfl,g3,g4,g5,g6,g7⟩
        rw [show (vN (ar e)).length=(ar e).length from List.length_map ..,List.take_length] at g6
        refine⟨_,rfl,_,_,rfl,rfl,?_⟩
        refine⟨ks++more,at_+1,_,rfl,g1,g3,g4,g5,List.mem_append_left _ h0,(by rw [List.length_append];omega),fun k hk ds' e' he' j hj=>?_,rfl,fun c o h=>g7 c o (s5 _ _ (s2 c o h)) (aw h nfl)⟩
        rw [List.take_append_of_le_length (by omega),List.take_add_one,hki] at hk
        rcases List.mem_append.mp hk with hk | hk
        · exact List.mem_append_left _ (hcl k hk ds' e' he' j hj)
        · have hk:k=kk:=List.mem_singleton.mp hk
          subst hk
          rw [hps] at he'
          cases he'
          exact g6 j hj
    · have hge:ks.length<=at_:=by
        by_cases z:at_ < ks.length
        · exact absurd (decide_eq_true (by omega)) hc
        · omega
      have all:∀ k,k ∈ ks ↔ eQ ps k:=fun k=>by
        refine⟨rn k,fun r=>?_⟩
        induction r with
        | zero=>exact h0
        | step r hp' hk ih=>exact hcl _ (by rw [List.take_of_length_le hge];exact ih) _ _ hp' _ hk
      refine⟨_,rfl,fl,ks.map (fun k:Nat=>(k:Int)),rfl,(by rw [<-j3];exact aI.of hf2),(by rw [List.length_map];omega),fun l ns' hperm _ nl=>?_⟩
      obtain⟨ms,rfl,hms⟩:=fw hperm
      rw [<-j3]
      exact q l ms _ aa (fun k=>(hms.mem_iff).trans (all k)) (fun k hk=>lt k (hms.mem_iff.mp hk)) (by rw [hms.length_eq];omega) (s2.trans (ae.new nl))
theorem rQ {f:Addr} {fd:FuncData} (F:bQ K "_law_heads" "_law_heads" iB f fd) (Z:Bl mg) (O_law_reached:Own P w K mg base "_law_reached" 3 ["plan"] jf) (O_law_ways:Own P w K mg base "_law_ways" 1 ["end"] hV):ba P w K mg base bN 4 f fd ["plan"] rB:=by
 refine F.ok (k:=3) fD (fun vs H Q E h=>?_) (fun cdv A outer s H vs Q E hr h=>?_)
 ·obtain⟨plv,ps,rfl,_⟩:=h
  rfl
 ·obtain⟨plv,ps,rfl,hp,hin,hn0,hn,q⟩:=h
  refine⟨_,(af (aY (i:=1) fD.nd xV)
   (af (di PassesOwn.never rfl (dU (aH O_law_reached hr (ay (pv 0)))) (aK (i:=2) fD.nd)
   (ai (di PassesOwn.never rfl (dU (aH O_law_ways hr (ay (aO bM (aO bM (pv 0) (pv 2)) ah)))) (aK (i:=3) fD.nd)
   (ai (bw (aF pY (pv 3) (pv 2) (aS _))
   (ai (nP (gF hr) (pv 1) (pv 3) gy rfl))
   aV)))))
   (ai (aB (aR (pT rfl) rfl Z.sorted eZ (ay (pv 1))))))),?_⟩
  obtain⟨pp,vs,rfl,e1,r1⟩:=aP.bx hp
  have hvl:=r1.len
  rw [List.length_map] at hvl
  refine fun fd nfd=>?_
  have s1:=ae.new (o:=.dK []) nfd
  have hf1:(upd H fd (.dK [])) fd=some (.dK []):=aa
  generalize (upd H fd (.dK []))=H1 at s1 hf1
  refine⟨_,rfl,_,ps,rfl,hp.same s1 (dz ps),hin,hn0,hn,fun t ks H2 ht hks hlt hkl s2=>?_⟩
  have hf2:=s2 _ _ hf1
  have s12:=s1.trans s2
  have ntf:t ≠ fd:=bH ht hf2 (by intro z;cases z)
  refine⟨t,rfl,⟨_,aI.of ht⟩,gS (K:=K) (a:=t) (xs:=vN ks) (fun i σ H'=>∃ (hs:List Nat) (kvs:List (Key × V)) (u1 u2:Option V),σ = [some (.ref pp),some (.ref fd),u1,u2]/\H' fd=some (.dK kvs)/\kvs.map (·.1)=kI hs/\hs.Nodup/\(∀ k ∈ hs,k < ps.length)/\(∀ k,k ∈ hs ↔ ∃ j ∈ ks.take i,∃ ds e,ps[j]? = some (ds,e)/\k ∈ ar e/\k<=j)/\(∀ c o,H2 c=some o->c ≠ fd->H' c=some o)) ?_ ?_ ?_ ?_⟩
  ·exact⟨[],[],_,_,rfl,hf2,rfl,List.nodup_nil,(fun _ h=>nomatch h),fun k=>⟨fun h=>(nomatch h),fun ⟨j,hj,_⟩=>(by simp at hj)⟩,fun c o h _=>h⟩
  ·rintro i σ H3 hi ⟨hs,kvs,u1,u2,rfl,h1,hk1,h2,h3,h4,h5⟩
   exact aI.of (h5 _ _ ht ntf)
  ·rintro i y σ H3 hi ⟨hs,kvs,u1,u2,rfl,h1,hk1,h2,h3,h4,h5⟩
   obtain⟨at_,hat,rfl⟩:∃ k,ks[i]? = some k/\y=V.int (k:Nat):=by
    rw [List.getElem?_map] at hi
    cases z:ks[i]? with
    | none=>rw [z] at hi;cases hi
    | some k=>rw [z] at hi;exact⟨k,rfl,(Option.some.inj hi).symm⟩
   have hatl:=hlt at_ (List.mem_of_getElem? hat)
   have hps:ps[at_]? = some ps[at_]:=by simp [hatl]
   generalize ps[at_] = pce at hps
   obtain⟨ds,e⟩:=pce
   obtain⟨p',xs',pc,da,ea,wsv,ep,e1',el',hx',e2,e3,r3,e4⟩:=d6 hp hps
   cases ep
   rw [e1] at e1'
   cases e1'
   have k3:∀ p zs,H p=some (.tup zs)->H3 p=some (.tup zs):=fun p zs h=>h5 _ _ (s12 _ _ h) (bH (s12 _ _ h) hf2 (by intro z;cases z))
   refine bF ?_
   refine⟨_,rfl,_,rfl,pp,_,_,_,rfl,rfl,av.of (k3 _ _ e1),bO hx',pc,_,1,_,rfl,rfl,av.of (k3 _ _ e2),eX,ea,e,rfl,k3 _ _ e4,fun wt H5 nwt hwt s5=>?_⟩
   have nwf:wt ≠ fd:=bH hwt (s5 _ _ h1) (by intro z;cases z)
   refine⟨wt,rfl,⟨_,aI.of hwt⟩,gS (K:=K) (a:=wt) (xs:=vN (ar e)) (fun j σ H'=>∃ (hs':List Nat) (kvs:List (Key × V)) (u2:Option V),σ = [some (.ref pp),some (.ref fd),some (.int (at_:Nat)),u2]/\H' fd=some (.dK kvs)/\kvs.map (·.1)=kI hs'/\hs'.Nodup/\(∀ k ∈ hs',k < ps.length)/\(∀ k,k ∈ hs' ↔ k ∈ hs\/(k ∈ (ar e).take j/\k<=at_))/\(∀ c o,H5 c=some o->c ≠ fd->H' c=some o)) ?_ ?_ ?_ ?_⟩
   ·exact⟨hs,kvs,_,rfl,s5 _ _ h1,hk1,h2,h3,fun k=>⟨.inl,fun h=>h.elim id fun ⟨z,_⟩=>(by simp at z)⟩,fun c o h _=>h⟩
   ·rintro j σ H6 hj ⟨hs',kvs',u2,rfl,g1,gk,g2,g3,g4,g5⟩
    exact aI.of (g5 _ _ hwt nwf)
   ·rintro j y σ H6 hj ⟨hs',kvs',u2,rfl,g1,gk,g2,g3,g4,g5⟩
    obtain⟨k0,hk0,rfl⟩:∃ k,(ar e)[j]? = some k/\y=V.int (k:Nat):=by
     rw [List.getElem?_map] at hj
     cases z:(ar e)[j]? with
     | none=>rw [z] at hj;cases hj
     | some k=>rw [z] at hj;exact⟨k,rfl,(Option.some.inj hj).symm⟩
    have hk0m:=List.mem_of_getElem? hk0
    have hk0b:=iN hin hps k0 hk0m
    have htk:(ar e).take (j+1)=(ar e).take j ++ [k0]:=by rw [List.take_add_one,hk0];rfl
    have hkl':kvs'.length=hs'.length:=by have:=congrArg List.length gk;simpa using this
    refine bF ?_
    refine⟨_,rfl,_,rfl,_,_,rfl,rfl,_,rfl,?_⟩
    refine du (fun hc=>?_) (fun hc=>?_)
    ·have hle:k0<=at_:=by have:=of_decide_eq_true hc;omega
     have hfew:=cV g2 g3
     refine⟨_,rfl,_,rfl,fd,_,rfl,lT.k (k:=Sum.inl (k0:Int)) g1 (aX (by omega)),?_⟩
     refine⟨LS.putIn hs' k0,_,_,rfl,aa,?_,qX g2,fun k hk=>?_,fun k=>?_,fun c o h c1=>by rw [ao c1];exact g5 c o h c1⟩
     ·rw [<-rm]
      unfold LS.putIn
      rcases oP (kvs:=kvs') (k:=(Sum.inl (k0:Int):Key)) (v:=.bl true) with ⟨e1,hm⟩ | ⟨e1,hn'⟩
      ·rw [gk] at hm
       rw [if_pos hm,e1,gk]
      ·rw [gk] at hn'
       rw [if_neg hn',e1,gk]
     ·rcases LS.dq.mp hk with hk | hk
      ·exact g3 k hk
      ·rw [hk];exact hk0b
     ·rw [LS.dq,g4,htk]
      constructor
      ·rintro ((h | ⟨h,h'⟩) | rfl)
       ·exact .inl h
       ·exact .inr ⟨List.mem_append_left _ h,h'⟩
       ·exact .inr ⟨List.mem_append_right _ (List.mem_singleton.mpr rfl),hle⟩
      ·rintro (h | ⟨h,h'⟩)
       ·exact .inl (.inl h)
       ·rcases List.mem_append.mp h with h | h
        ·exact .inl (.inr ⟨h,h'⟩)
        ·exact .inr (List.mem_singleton.mp h)
    ·have hle:¬ k0<=at_:=fun z=>hc (decide_eq_true (by omega))
     refine⟨hs',kvs',_,rfl,g1,gk,g2,g3,fun k=>?_,g5⟩
     rw [g4,htk]
     constructor
     ·rintro (h | ⟨h,h'⟩)
      ·exact .inl h
      ·exact .inr ⟨List.mem_append_left _ h,h'⟩
     ·rintro (h | ⟨h,h'⟩)
      ·exact .inl h
      ·rcases List.mem_append.mp h with h | h
       ·exact .inr ⟨h,h'⟩
       ·rw [List.mem_singleton.mp h] at h';exact absurd h' hle
   ·rintro σ H6 ⟨hs',kvs',u2,rfl,g1,gk,g2,g3,g4,g5⟩
    rw [show (vN (ar e)).length=(ar e).length from List.length_map ..,List.take_length] at g4
    refine⟨hs',kvs',_,_,rfl,g1,gk,g2,g3,fun k=>?_,fun c o h c1=>g5 c o (s5 _ _ (h5 c o h c1)) c1⟩
    rw [g4,h4,List.take_add_one,hat]
    constructor
    ·rintro (⟨j,hj,r⟩ | ⟨h,h'⟩)
     ·exact⟨j,List.mem_append_left _ hj,r⟩
     ·exact⟨at_,List.mem_append_right _ (List.mem_singleton.mpr rfl),ds,e,hps,h,h'⟩
    ·rintro⟨j,hj,ds',e',hp',h,h'⟩
     rcases List.mem_append.mp hj with hj | hj
     ·exact .inl ⟨j,hj,ds',e',hp',h,h'⟩
     ·have hj:j=at_:=List.mem_singleton.mp hj
      subst hj
      rw [hps] at hp'
      cases hp'
      exact .inr ⟨h,h'⟩
  ·rintro σ H3 ⟨hs,kvs,u1,u2,rfl,h1,hk1,h2,h3,h4,h5⟩
   rw [show (vN ks).length=ks.length from List.length_map ..,List.take_length] at h4
   have hfew:=cV h2 h3
   refine⟨_,rfl,fd,kvs,hs.map (fun k:Nat=>(k:Int)),rfl,h1,(by rw [hk1,n4]),(by rw [List.length_map];omega),fun l ss hperm nl=>?_⟩
   obtain⟨ms,rfl,hms⟩:=fw hperm
   rw [<-j3]
   have s3:ae H H3:=fun c o h=>h5 c o (s12 c o h) (aw h nfd)
   refine q l ms _ aa (fun k=>(hms.mem_iff).trans ((h4 k).trans ?_)) (by rw [hms.length_eq];omega) (s3.trans (ae.new nl))
   constructor
   ·rintro⟨j,hj,ds,e,r1,r2,r3⟩
    exact⟨j,ds,e,(hks j).mp hj,r1,r2,r3⟩
   ·rintro⟨j,ds,e,hj,r1,r2,r3⟩
    exact⟨j,(hks j).mpr hj,ds,e,r1,r2,r3⟩
theorem kT {f:Addr} {fd:FuncData} (F:bQ K "_law_goes_round" "_law_goes_round" eS f fd) (Z:Bl mg) (O_law_ways:Own P w K mg base "_law_ways" 1 ["end"] hV):ba P w K mg base bN 2 f fd ["other", "barred"] rK:=by
  refine F.ok (k:=1) bZ (fun vs H Q E h=>?_) (fun cdv A outer s H vs Q E hr h=>?_)
  · obtain⟨plv,qs,bl,bs,rfl,_⟩:=h
    rfl
  · obtain⟨plv,qs,bl,bs,rfl,hp,hin,hb,hq,q⟩:=h
    refine⟨_,(af (aY (i:=2) bZ.nd (cE ["k"] ["barred"] [1] rfl (eU rfl Z.range (ay (aR aN rfl Z.len bE (ay (pv 0))))) rfl (by decide +kernel) (by decide +kernel) (by decide +kernel) ⟨⟨rfl,.inl rfl,rfl⟩,True.intro⟩ (fun _ _ _ _=>(aK (i:=0) (show ((["k"]:List Str)++(["barred"]:List Str)).Nodup by decide +kernel) (hf:=Or.inr rfl))) (fun _ _ _ _=>(d9 (aF (pJ (K:=K) rfl) (pv 0) (pv 1) (by with_unfolding_all rfl)))) (fun _ _ _ _=>(pv 0))))
      (af (aY (i:=3) bZ.nd gy)
      (af (iT PassesOwn.never (mr (pv 3))
      (af (aY (i:=4) bZ.nd (b6 bX))
      (af (di PassesOwn.never rfl (dU (pv 2)) (aK (i:=5) bZ.nd)
      (ai (bw (aF (iI hr.units) (cE ["way"] ["left"] [2] rfl (dU (aH O_law_ways hr (ay (aO (gM (K:=K) rfl) (aO (gM (K:=K) rfl) (pv 0) (pv 5)) ah)))) rfl (by decide +kernel) (by decide +kernel) (by decide +kernel) ⟨⟨rfl,.inl rfl,rfl⟩,True.intro⟩ (fun _ _ _ _=>(aK (i:=0) (show ((["way"]:List Str)++(["left"]:List Str)).Nodup by decide +kernel) (hf:=Or.inr rfl))) (fun _ _ _ _=>(d9 (aF (xh (K:=K) rfl) (pv 0) (pv 1) (by with_unfolding_all rfl)))) (fun _ _ _ _=>(pv 0))) (b6 bX) (aS _))
      (ai (dC (eJ PySem.F.plainAttrs_list PySem.F.slot_list_append PySem.F.type_list_append dJ (pv 4) (ay (pv 5)))))
      aV)))
      (af (aY (i:=3) bZ.nd (kF gC (aR aN rfl Z.len bE (ay (pv 4))) (aR aN rfl Z.len bE (ay (pv 2))) (aS _)))
      (ai (aY (i:=2) bZ.nd (pv 4)))))))
      (ai (aB (kF (iI hr.units) (pv 2) (b6 bX) (aS _))))))),?_⟩
    classical
    obtain⟨pp,us,rfl,e,r⟩:=aP.bx hp
    have hul:us.length=qs.length:=by have:=r.len;rw [List.length_map] at this;exact this
    refine⟨_,rfl,pp,us,rfl,.inr (av.of e),_,rfl,(by omega),(by omega),fun acc na=>?_⟩
    refine iW (fun i ys τ H1=>∃ c:Option V,τ = [c,some (.ref bl)]/\ys=vN ((List.range i).filter fun k=>decide (k ∉ bs))/\H1 acc=some (.lst ys)/\ae H H1) ?_ ?_ ?_ ?_
    · exact⟨none,rfl,rfl,aa,ae.new na⟩
    · rintro i ys τ H1 hi ⟨c,rfl,rfl,ha,s1⟩
      refine⟨ha,Nat.lt_of_le_of_lt (by rw [List.length_map];exact List.length_filter_le _ _) (fh (by rw [List.length_range];omega))⟩
    · rintro i ys τ H1 hi ⟨c,rfl,rfl,ha,s1⟩
      refine bF ?_
      have hz:(0+(i:Int))=(i:Nat):=Int.zero_add _
      rw [hz]
      refine⟨_,rfl,_,rfl,bl,_,rfl,.inl (aI.of (s1 _ _ hb)),rfl,e6 _,_,rfl,?_⟩
      rw [show (if true=true then !eV (.int (i:Nat)) (vN bs) else eV (.int (i:Nat)) (vN bs)) = !decide (i ∈ bs) from congrArg (!·) (eu i _)]
      by_cases hm0:i ∈ bs
      · refine bB (by rw [decide_eq_true hm0];rfl) ?_
        refine⟨_,rfl,?_,ha,s1⟩
        rw [List.range_succ,List.filter_append,List.filter_cons_of_neg (by rw [decide_eq_false (not_not_intro hm0)];decide),List.filter_nil,List.append_nil]
      · refine cL (by rw [decide_eq_false hm0];rfl) ?_
        refine⟨_,rfl,ha,_,rfl,?_,aa,s1.put na⟩
        rw [List.range_succ,List.filter_append,List.filter_cons_of_pos (by exact decide_eq_true hm0),List.filter_nil]
        show _=((List.range i).filter (fun k=>decide (k ∉ bs)) ++ [i]).map _
        rw [List.map_append]
        rfl
    rintro ys τ H1 ⟨c,rfl,rfl,ha,s1⟩
    refine bF ?_
    rw [Int.toNat_natCast] at ha
    generalize hL0:((List.range us.length).filter fun k=>decide (k ∉ bs))=left0 at ha
    have hl0:∀ k ∈ left0,k < qs.length/\k ∉ bs:=fun k hk=>by
      rw [<-hL0] at hk
      have:=List.mem_filter.mp hk
      exact⟨by have:=List.mem_range.mp this.1;omega,of_decide_eq_true this.2⟩
    have hn0:left0.length<=qs.length:=by
      rw [<-hL0]
      exact Nat.le_trans (List.length_filter_le _ _) (by rw [List.length_range];omega)
    clear hL0
    refine⟨fun m σ H'=>∃ (ll:Addr) (left:List Nat) (g:Bool) (u4 u5:Option V),σ = [some (.ref pp),some (.ref bl),some (.ref ll),some (.bl g),u4,u5]/\H' ll=some (.lst (vN left))/\(∀ k ∈ left,k < qs.length/\k ∉ bs)/\left.length<=qs.length/\(g=false->∀ k ∈ left,∃ p,qs[k]? = some p/\∃ j ∈ ar p.2,j ∈ left)/\m=(if g then left.length+1 else 0)/\ae H H',⟨_,acc,left0,true,none,none,rfl,ha,hl0,hn0,(fun z=>by cases z),rfl,s1⟩,?_⟩
    rintro m σ H2 ⟨ll,left,g,u4,u5,rfl,hll,hlt,hln,hdone,hm,s2⟩
    have hvl:(vN left).length=left.length:=List.length_map ..
    refine⟨_,rfl,g,rfl,?_⟩
    have rl:∀ {H':Hp} (l:List Nat),aU H' (vN l) (l.map fun k=>PyData.int (k:Nat)):=fun {H'} l=>by
      induction l with
      | nil=>exact .nil
      | cons x l ih=>exact .cons (.int _) ih
    cases g with
    | false =>
      refine bJ ?_
      refine⟨_,rfl,Nat.zero_le _,fun el ne=>?_⟩
      have se:=ae.new (o:=.lst []) ne
      refine⟨.list (left.map fun k=>PyData.int (k:Nat)),.list [],.lst (se _ _ hll) (rl _),.lst aa .nil,oh _ fun d hd=>(by obtain⟨k,_,rfl⟩:=List.mem_map.mp hd;rfl),rfl,Nat.le_trans (Nat.min_le_right _ _) (by decide),?_⟩
      refine q _ left _ ?_ (fun k hk=>⟨(hlt k hk).2,hdone rfl k hk⟩) (s2.trans se)
      cases left with
      | nil=>exact⟨fun z=>(by cases z),fun z=>absurd rfl z⟩
      | cons k left=>exact⟨fun _ z=>(by cases z),fun _=>rfl⟩
    | true =>
      refine bT ?_
      have hm:m=left.length+1:=hm
      refine⟨_,fun σ' H' h=>h,?_⟩
      refine⟨Nat.zero_le _,fun kl nk=>?_⟩
      have sk:=ae.new (o:=.lst []) nk
      have hkl:(upd H2 kl (.lst [])) kl=some (.lst (vN [])):=aa
      have hl3:=sk _ _ hll
      have s3:=s2.trans sk
      generalize (upd H2 kl (.lst []))=H3 at sk hkl hl3 s3 ⊢
      have nkl:ll ≠ kl:=aw hll nk
      refine⟨_,rfl,ll,rfl,⟨_,aI.of hl3⟩,gS (K:=K) (a:=ll) (xs:=vN left) (fun i σ H'=>∃ (keep:List Nat) (u5:Option V),σ = [some (.ref pp),some (.ref bl),some (.ref ll),some (.bl true),some (.ref kl),u5]/\H' kl=some (.lst (vN keep))/\keep=(left.take i).filter (fun k=>decide (∃ p,qs[k]? = some p/\∃ j ∈ ar p.2,j ∈ left))/\(∀ c o,H3 c=some o->c ≠ kl->H' c=some o)) ?_ ?_ ?_ ?_⟩
      · exact⟨[],_,rfl,hkl,rfl,fun c o h _=>h⟩
      · rintro i σ H6 hi ⟨keep,u5',rfl,g1,g2,g3⟩
        exact aI.of (g3 _ _ hl3 nkl)
      · rintro i y σ H6 hi ⟨keep,u5',rfl,g1,rfl,g3⟩
        obtain⟨k0,hk0,rfl⟩:∃ k,left[i]? = some k/\y=V.int (k:Nat):=by
          rw [List.getElem?_map] at hi
          cases z:left[i]? with
          | none=>rw [z] at hi;cases hi
          | some k=>rw [z] at hi;exact⟨k,rfl,(Option.some.inj hi).symm⟩
        have htk:left.take (i+1)=left.take i ++ [k0]:=by rw [List.take_add_one,hk0];rfl
        have hkb:=(hlt k0 (List.mem_of_getElem? hk0)).1
        have hps:qs[k0]? = some qs[k0]:=by simp [hkb]
        generalize qs[k0] = pce at hps
        obtain⟨ds,en⟩:=pce
        obtain⟨p',xs',pc,da,ea,wsv,ep,e1',el',hx',e2,e3,r3,e4⟩:=d6 hp hps
        cases ep
        rw [e] at e1'
        cases e1'
        have lift:ae H H6:=fun c o h=>g3 c o (s3 _ _ h) (aw (s2 _ _ h) nk)
        refine bF ?_
        refine⟨_,rfl,_,rfl,pp,_,_,_,rfl,rfl,av.of (lift _ _ e),bO hx',pc,_,1,_,rfl,rfl,av.of (lift _ _ e2),eX,ea,en,rfl,lift _ _ e4,fun wl H7 nwl hwl s7=>?_⟩
        refine⟨wl,rfl,⟨_,aI.of hwl⟩,fun ac nac=>?_⟩
        have hll7:=s7 _ _ (g3 _ _ hl3 nkl)
        refine iG (K:=K) (a:=wl) (xs:=vN (ar en)) (fun i ys τ H1=>∃ c:Option V,τ = [c,some (.ref ll)]/\ys=vN (((ar en).take i).filter fun k=>decide (k ∈ left))/\H1 ac=some (.lst ys)/\ae H7 H1) ?_ ?_ ?_ ?_
        · exact⟨none,rfl,rfl,aa,ae.new nac⟩
        · rintro i2 ys τ H1 hi2 ⟨c,rfl,rfl,ha2,s8⟩
          refine⟨aI.of (s8 _ _ hwl),ha2,aX ?_⟩
          have h3:(ar en).length<=2:=by cases en <;> (show _<=2) <;> simp [ar]
          rw [List.length_map]
          have:=List.length_filter_le (fun k=>decide (k ∈ left)) ((ar en).take i2)
          have:=List.length_take_le i2 (ar en)
          have:((ar en).take i2).length<=(ar en).length:=by rw [List.length_take];omega
          omega
        · rintro i2 y ys τ H1 hi2 ⟨c,rfl,rfl,ha2,s8⟩
          obtain⟨k2,hk2,rfl⟩:∃ k,(ar en)[i2]? = some k/\y=V.int (k:Nat):=by
            rw [List.getElem?_map] at hi2
            cases z:(ar en)[i2]? with
            | none=>rw [z] at hi2;cases hi2
            | some k=>rw [z] at hi2;exact⟨k,rfl,(Option.some.inj hi2).symm⟩
          have htk2:(ar en).take (i2+1)=(ar en).take i2 ++ [k2]:=by rw [List.take_add_one,hk2];rfl
          refine bF ?_
          refine⟨_,rfl,_,rfl,ll,_,rfl,.inl (aI.of (s8 _ _ hll7)),rfl,e6 _,_,rfl,?_⟩
          rw [show (if false=true then !eV (.int (k2:Nat)) (vN left) else eV (.int (k2:Nat)) (vN left))=decide (k2 ∈ left) from eu k2 left]
          by_cases hm0:k2 ∈ left
          · refine cL (decide_eq_true hm0) ?_
            refine⟨_,rfl,ha2,_,rfl,?_,aa,s8.put nac⟩
            rw [htk2,List.filter_append,List.filter_cons_of_pos (by exact decide_eq_true hm0),List.filter_nil]
            show _=(((ar en).take i2).filter (fun k=>decide (k ∈ left)) ++ [k2]).map _
            rw [List.map_append]
            rfl
          · refine bB (decide_eq_false hm0) ?_
            refine⟨_,rfl,?_,ha2,s8⟩
            rw [htk2,List.filter_append,List.filter_cons_of_neg (by rw [decide_eq_false hm0];decide),List.filter_nil,List.append_nil]
        rintro ys τ H8 ⟨c,rfl,rfl,ha2,s8⟩
        rw [List.take_of_length_le (by rw [List.length_map];exact Nat.le_refl _)] at ha2
        refine⟨Nat.zero_le _,fun el ne=>?_⟩
        have se:=ae.new (o:=.lst []) ne
        generalize hW:(ar en).filter (fun k=>decide (k ∈ left))=ws at ha2
        refine⟨.list (ws.map fun k=>PyData.int (k:Nat)),.list [],.lst (se _ _ ha2) (rl _),.lst aa .nil,oh _ fun d hd=>(by obtain⟨k,_,rfl⟩:=List.mem_map.mp hd;rfl),rfl,Nat.le_trans (Nat.min_le_right _ _) (by decide),?_⟩
        have sa:=(s7.trans s8).trans se
        have lift2:∀ c o,H3 c=some o->c ≠ kl->(upd H8 el (.lst [])) c=some o:=fun c o h n=>sa _ _ (g3 c o h n)
        have g1':=sa _ _ g1
        generalize (upd H8 el (.lst []))=H9 at lift2 g1'
        clear sa se s8 ha2 ne
        refine⟨_,rfl,?_⟩
        cases ws with
        | nil =>
          refine bJ ?_
          refine⟨_,_,rfl,g1',?_,lift2⟩
          rw [htk,List.filter_append,List.filter_cons_of_neg ?_,List.filter_nil,List.append_nil]
          rw [decide_eq_false]
          · decide
          · rintro⟨p,hp',j,hj,hjl⟩
            rw [hps] at hp'
            cases hp'
            have:j ∈ (ar en).filter (fun k=>decide (k ∈ left)):=List.mem_filter.mpr ⟨hj,decide_eq_true hjl⟩
            rw [hW] at this
            cases this
        | cons j0 ws =>
          refine bT ?_
          have hj0:j0 ∈ (ar en).filter (fun k=>decide (k ∈ left)):=by rw [hW];exact List.mem_cons_self
          have hj0:=List.mem_filter.mp hj0
          refine⟨_,rfl,.inl ⟨rfl,_,aI.of g1'⟩,_,rfl,kl,_,_,rfl,rfl,g1',aX ?_,?_⟩
          · rw [List.length_map]
            have:=List.length_filter_le (fun k=>decide (∃ p,qs[k]? = some p/\∃ j ∈ ar p.2,j ∈ left)) (left.take i)
            have:(left.take i).length<=left.length:=by rw [List.length_take];omega
            omega
          refine⟨_,_,rfl,aa.trans ?_,rfl,fun c o h n=>by rw [ao n];exact lift2 c o h n⟩
          rw [htk,List.filter_append,List.filter_cons_of_pos (by exact decide_eq_true ⟨_,hps,j0,hj0.1,of_decide_eq_true hj0.2⟩),List.filter_nil]
          show _=some (HO.lst ((_ ++ [k0]).map _))
          rw [List.map_append]
          rfl
      · rintro σ H6 ⟨keep,u5',rfl,g1,rfl,g3⟩
        rw [List.take_of_length_le (by rw [hvl];exact Nat.le_refl _)] at g1
        have hll6:=g3 _ _ hl3 nkl
        have lift:ae H H6:=fun c o h=>g3 c o (s3 _ _ h) (aw (s2 _ _ h) nk)
        generalize hK:left.filter (fun k=>decide (∃ p,qs[k]? = some p/\∃ j ∈ ar p.2,j ∈ left))=keep at g1
        have hvk:(vN keep).length=keep.length:=List.length_map ..
        have hkl:keep.length<=left.length:=by rw [<-hK];exact List.length_filter_le _ _
        refine⟨_,rfl,kl,_,rfl,.inl (aI.of g1),_,rfl,ll,_,rfl,.inl (aI.of hll6),_,_,rfl,rfl,_,rfl,?_⟩
        refine bF ?_
        rw [hvk,hvl]
        refine⟨_,?_,kl,keep,_,_,_,rfl,g1,fun k hk=>hlt k (by rw [<-hK] at hk;exact (List.mem_filter.mp hk).1),by omega,fun z=>?_,rfl,lift⟩
        · rw [hm]
          by_cases hc:keep.length < left.length
          · rw [decide_eq_true (by omega),if_pos rfl]
            omega
          · rw [decide_eq_false (by omega),if_neg (by decide)]
            omega
        · have hc:=of_decide_eq_false z
          have hf:left.filter (fun k=>decide (∃ p,qs[k]? = some p/\∃ j ∈ ar p.2,j ∈ left))=left:=List.filter_eq_self.mpr (List.length_filter_eq_length_iff.mp (by rw [hK];omega))
          obtain rfl:left=keep:=hf.symm.trans hK
          intro k hk
          rw [<-hf] at hk
          exact of_decide_eq_true (List.mem_filter.mp hk).2
theorem BC {f:Addr} {fd:FuncData} (F:bQ K "law" "law" kO f fd) (Z:Bl mg) {C:Addr} (T:qW K C) (O_law_bag:Own P w K mg base "_law_bag" 1 ["script", "k"] (zf K)) (O_law_take:Own P w K mg base "_law_take" 1 ["bag", "many"] fX) (O_law_count:Own P w K mg base "_law_count" 2 ["bag", "most"] tu) (O_law_plan:Own P w K mg base "_law_plan" 4 ["bag", "count", "most"] v7) (O_led_past:Own P w K mg base "led_past" 7 ["plan", "most"] (pf P w C)) (O_law_heads:Own P w K mg base "_law_heads" 4 ["plan"] rB) (O_law_reached:Own P w K mg base "_law_reached" 3 ["plan"] jf) (O_law_ways:Own P w K mg base "_law_ways" 1 ["end"] hV) (O_law_goes_round:Own P w K mg base "_law_goes_round" 2 ["other", "barred"] rK):ba P w K mg base bN 9 f fd ["script"] (pZ K):=by
  refine F.ok (k:=8) d8 (fun vs H Q E h=>?_) (fun cdv A outer s H vs Q E hr h=>?_)
  · obtain⟨a,ns,rfl,_⟩:=h
    rfl
  · obtain⟨a,ns,rfl,hS,hlen,q⟩:=h
    refine⟨_,(af (aY (i:=1) d8.nd (aH O_law_bag hr (aL (pv 0) ah)))
      (af (aY (i:=2) d8.nd (aO b4 (b6 (hX (aZ cS ah (aH O_law_take hr (aL (pv 1) ah))) (aZ cS ah (aH O_law_take hr (aL (pv 1) ah))) ah)) (aH O_law_take hr (aL (pv 1) ah))))
      (af (aY (i:=3) d8.nd (aH O_law_plan hr (hX (aH O_law_bag hr (aL (pv 0) ah)) (aH O_law_count hr (aL (pv 1) (aO b4 (b6 (aL ah ah)) (aH O_law_take hr (aL (pv 1) ah))))) ah)))
      (af (dE (aH O_led_past hr (aL (pv 3) (pv 2))) (dD rfl (bc (aK (i:=4) d8.nd) (bc (aK (i:=5) d8.nd) cW))))
      (af (bw (PW.pt (kA (aF kC (aR aN rfl Z.len bE (ay (pv 5))) (aZ cS (pv 2) (aR aN rfl Z.len bE (ay (pv 3)))) (aS _)) (kA (aF y7 (aR xg rfl Z.len bE (ay (br (vh rfl (C5 hr)) rfl Z.set qR (ay (pv 5))))) (aR aN rfl Z.len bE (ay (pv 5))) (aS _)) (jI (aF y7 (aR (lK (K:=K) rfl) rfl Z.len bE (ay (pv 4))) (aR aN rfl Z.len bE (ay (pv 5))) (aS _))))))
      (ai (aB gy))
      aV)
      (af (iV (i:=6) ["copy"] [] [] rfl d8.nd rfl rfl rfl (dG (pv 5)) rfl (by decide +kernel) (by decide +kernel) (by decide +kernel) True.intro (fun _ _ _ _=>(aK (i:=0) (show ((["copy"]:List Str)++([]:List Str)).Nodup by decide +kernel) (hf:=Or.inr rfl))) (fun _ _ _ _=>eY) (fun _ _ _ _=>(aO (gM (K:=K) rfl) (pv 0) ah)))
      (af (aY (i:=7) d8.nd (aH O_law_heads hr (ay (pv 3))))
      (af (bw (aF (iI hr.units) (cE ["piece"] ["plan"] [3] rfl (dU (pv 6)) rfl (by decide +kernel) (by decide +kernel) (by decide +kernel) ⟨⟨rfl,.inl rfl,rfl⟩,True.intro⟩ (fun _ _ _ _=>(aK (i:=0) (show ((["piece"]:List Str)++(["plan"]:List Str)).Nodup by decide +kernel) (hf:=Or.inr rfl))) (fun _ _ _ _=>(d9 (aF (pJ (K:=K) rfl) (pv 0) (aH O_law_reached hr (ay (pv 1))) (by with_unfolding_all rfl)))) (fun _ _ _ _=>(pv 0))) (b6 bX) (aS _))
      (ai (aB gy))
      aV)
      (af (di PassesOwn.never rfl (dU (pv 7)) (aK (i:=8) d8.nd)
      (ai (bw (PW.pt (kA (aF kC (eJ PySem.F.plainAttrs_list PySem.F.slot_list_count PySem.F.type_list_count yR (pv 6) (bI (pv 8) bX)) ah (aS _)) (jI (PW.pt (mw (aF ic (pv 8) (pv 6) (by with_unfolding_all rfl)) (ky (aF (vi (nZ hr)) (bh (aL (pv 8) (bh bX))) (pv 5) (by with_unfolding_all rfl))))))))
      (ai (aB gy))
      aV)))
      (af (bw (aF (iI hr.units) (cE ["copy"] [] [] rfl (dG (iU Aq (pv 5) (kH (pv 2)) kG)) rfl (by decide +kernel) (by decide +kernel) (by decide +kernel) True.intro (fun _ _ _ _=>(aK (i:=0) (show ((["copy"]:List Str)++([]:List Str)).Nodup by decide +kernel) (hf:=Or.inr rfl))) (fun _ _ _ _=>(d9 (aF (iI hr.units) (aO (gM (K:=K) rfl) (pv 0) ah) (bh bX) (aS _)))) (fun _ _ _ _=>(pv 0))) (b6 bX) (aS _))
      (ai (aB gy))
      aV)
      (af (di PassesOwn.never rfl (dG (pv 4)) (dD rfl (bc (aK (i:=9) d8.nd) (bc (aK (i:=10) d8.nd) cW)))
      (ai (bw (aF (iI hr.units) (cE ["way"] ["other"] [4] rfl (dU (aH O_law_ways hr (ay (pv 10)))) rfl (by decide +kernel) (by decide +kernel) (by decide +kernel) ⟨⟨rfl,.inl rfl,rfl⟩,True.intro⟩ (fun _ _ _ _=>(aK (i:=0) (show ((["way"]:List Str)++(["other"]:List Str)).Nodup by decide +kernel) (hf:=Or.inr rfl))) (fun _ _ _ _=>(d9 (PW.pt (kA (aF gC (pv 0) ah (aS _)) (jI (aF BO (pv 0) (aR (lK (K:=K) rfl) rfl Z.len bE (ay (pv 1))) (aS _))))))) (fun _ _ _ _=>(pv 0))) (b6 bX) (aS _))
      (ai (aB gy))
      aV)))
      (ai (aB (AE (aH O_law_goes_round hr (aL (pv 4) (cE ["k"] ["headed", "copies"] [7,5] rfl (eU rfl Z.range (ay (aR aN rfl Z.len bE (ay (pv 5))))) rfl (by decide +kernel) (by decide +kernel) (by decide +kernel) ⟨⟨rfl,.inl rfl,rfl⟩,⟨⟨rfl,.inl rfl,rfl⟩,True.intro⟩⟩ (fun _ _ _ _=>(aK (i:=0) (show ((["k"]:List Str)++(["headed", "copies"]:List Str)).Nodup by decide +kernel) (hf:=Or.inr rfl))) (fun _ _ _ _=>(d9 (aF (xh (K:=K) rfl) (aO (gM (K:=K) rfl) (aO (gM (K:=K) rfl) (pv 2) (pv 0)) ah) (pv 1) (by with_unfolding_all rfl)))) (fun _ _ _ _=>(pv 0))))))))))))))))))),?_⟩
    refine⟨_,rfl,a,ns,0,rfl,hS,(by decide),fun b H1 nb B1 s1=>?_⟩
    refine⟨_,rfl,b,300,rfl,B1,⟨by decide,by decide +kernel⟩,fun z1 H2 z10 z11 B2 X2=>⟨_,_,rfl,rfl,?_⟩⟩
    refine⟨_,rfl,b,9,rfl,B2,⟨by decide,by decide +kernel⟩,fun z2 H3 z20 z21 B3 X3=>⟨_,_,rfl,rfl,sW,fun l0 n0=>?_⟩⟩
    refine⟨_,rfl,b,3,rfl,B3.new n0,⟨by decide,by decide +kernel⟩,fun z3 H4 z30 z31 B4 X4=>?_⟩
    have h0:H4 l0=some (.lst [.int (1+z1),.int (1+z2),.int 300]):=X4 l0 _ aa (B3.dP n0)
    have F4:Fix b H1 H4:=((X2.trans X3).trans (Fix.new n0)).trans X4
    have pk:∃ m:Nat,fE [V.int (1+z1),V.int (1+z2),V.int 300] z3=some (V.int m)/\1<=m/\m<=300:=by
      obtain⟨k1,rfl⟩:∃ k:Nat,z1=k:=⟨z1.toNat,by omega⟩
      obtain⟨k2,rfl⟩:∃ k:Nat,z2=k:=⟨z2.toNat,by omega⟩
      obtain rfl | rfl | rfl:z3=0\/z3=1\/z3=2:=by omega
      · exact⟨1+k1,eW,by omega,by omega⟩
      · exact⟨1+k2,eX,by omega,by omega⟩
      · exact⟨300,at2,by decide,by decide⟩
    obtain⟨most,hat,hm1,hm3⟩:=pk
    refine⟨l0,_,_,_,rfl,rfl,aI.of h0,hat,?_⟩
    clear hat h0 X4 X3 X2 B3 B2 n0
    have s4:ae H H4:=ae.qu s1 nb F4
    refine⟨_,rfl,a,ns,1,rfl,s4.seq hS,(by decide),fun b2 H5 nb2 B5 s5=>?_⟩
    refine⟨_,rfl,ln2,fun l1 n1=>?_⟩
    have B45:=B4.same s5
    refine⟨_,rfl,b,2,rfl,B45.new n1,⟨by decide,by decide +kernel⟩,fun z H6 z0 z1' B6 X6=>?_⟩
    have h1:H6 l1=some (.lst [.int 12,.int 60]):=X6 l1 _ aa (B45.dP n1)
    have F6:Fix b H5 H6:=(Fix.new n1).trans X6
    have pk:∃ g:Nat,fE [V.int 12,V.int 60] z=some (V.int g)/\(g=12\/g=60):=by
      obtain rfl | rfl:z=0\/z=1:=by omega
      · exact⟨12,eW,.inl rfl⟩
      · exact⟨60,eX,.inr rfl⟩
    obtain⟨g,hg,hg2⟩:=pk
    refine⟨l1,_,_,_,rfl,rfl,aI.of h1,hg,b,g,rfl,B6,(by omega),(by omega),fun c H7 c0 c1 B7 X7=>?_⟩
    have nbb:b2 ≠ b:=B4.dP nb2
    have F7:Fix b H5 H7:=F6.trans X7
    have B27:cT H7 b2:=by
      obtain⟨x,y,e,zz⟩:=B5
      exact⟨x,y,F7 _ _ e nbb,zz⟩
    refine⟨b2,c,2,rfl,B27,c0,(by omega),(by omega),fun plv xs ps H8 r8 hc8 pok xok B8 X8=>?_⟩
    have s7:ae H H7:=ae.qu (s4.trans s5) nb F7
    have s8:ae H H8:=ae.qu s7 (s4.free nb2) X8
    have hin:fi ps:=pok.qC
    have hn0:0 < ps.length:=by omega
    have pok6:=pok.up (k:=6) (by decide)
    have hx10:xs.length<=10:=by have:=xok.2;omega
    clear B8 X8 B27 F7 F6 X7 B7 B6 X6 h1 hg n1 B45 s7 B5 s5 nb2 F4 B4
    refine⟨_,rfl,_,rfl,plv,ps,xs,most,rfl,r8,pok6,xok.1,hx10,hn0,(by omega),hm1,hm3,fun lv ds H9 cc r9 s9=>?_⟩
    obtain⟨lp,lvs,rfl,hlp,rl⟩:=aP.bx r9
    obtain⟨ov,t1,rfl,ro,rl⟩:=rl.cons_inv
    obtain⟨cv,t2,rfl,rc,rl⟩:=rl.cons_inv
    have z:=rl.nil_inv
    subst z
    obtain⟨op,ovs,rfl,hop,rovs⟩:=aP.bx ro
    obtain⟨cp,cvs,rfl,hcp,rcvs⟩:=aP.bx rc
    have I:=fK pok6 hn0 hm1
    have pokL:=wZ pok6 hn0 hm1
    have hsz:=w4 pok6 hn0 hm1
    obtain⟨I,hol,_⟩:=I
    have fRch:=ua (ps:=ps) (most:=most)
    have fLate:=yF (ps:=ps) hm1
    have fOnce:=fun k (hk:bS ps k)=>yG pok6 hn0 hm1 hk
    have fRound:=fun (left:List Nat)=>w6 pok6 hn0 hm1 (left:=left)
    have hL0:=hsz.1
    have hLl:=hsz.2
    have cnd:=I.iP.nd
    have iP:=I.ok
    clear I
    generalize (cq ps most).1=cs at *
    generalize (cq ps most).2=outs at *
    have hinL:fi outs:=pokL.qC
    refine⟨lp,_,rfl,av.of hlp,rfl,_,_,rfl,_,_,rfl,rfl,?_⟩
    have r9p:aP H9 plv (eM ps):=r8.same s9 (dz ps)
    obtain⟨pp,vs,rfl,e1,rvs⟩:=aP.bx r9p
    have hvl:ovs.length=outs.length:=by have:=rovs.len;rw [List.length_map] at this;exact this
    have hcl:cvs.length=cs.length:=by have:=rcvs.len;rw [this];exact Paired.length cc
    have hpl:vs.length=ps.length:=by have:=rvs.len;rw [List.length_map] at this;exact this
    have dnd:ds.Nodup:=pL cc cnd
    have hdl:ds.length=cs.length:=Paired.length cc
    refine⟨_,rfl,cp,cvs,rfl,.inr (av.of hcp),_,rfl,_,rfl,pp,vs,rfl,.inr (av.of e1),_,_,rfl,rfl,_,_,rfl,rfl,_,rfl,bB (decide_eq_false (by omega)) ?_⟩
    refine⟨_,rfl,cp,cvs,ds,rfl,av.of hcp,rcvs,t9 cc ?_,dnd,(by omega),fun sl nsl=>?_⟩
    · exact fun c hc=>(iP c hc).2.lay xok.1
    have ss:=ae.new (o:=me sl ds.length) nsl
    have hsl:(upd H9 sl (me sl ds.length)) sl=some (me sl ds.length):=aa
    generalize (upd H9 sl (me sl ds.length))=H10 at ss hsl ⊢
    refine⟨sl,ds.length,rfl,hsl,(by omega),_,rfl,cp,cvs,rfl,.inr (av.of (ss _ _ hcp)),rfl,_,rfl,bB (show (!decide (V.int ((ds.length:Nat):Int)=V.int ((cvs.length:Nat):Int)))=false by rw [hcl,hdl,decide_eq_true rfl];rfl) ?_⟩
    refine⟨_,rfl,op,ovs,rfl,.inr (av.of (ss _ _ hop)),_,rfl,cp,cvs,rfl,.inr (av.of (ss _ _ hcp)),rfl,_,rfl,bB (show (!decide (V.int ((ovs.length:Nat):Int)=V.int ((cvs.length:Nat):Int)))=false by rw [hcl,hvl,hol,decide_eq_true rfl];rfl) ?_⟩
    refine⟨_,rfl,cp,rfl,⟨_,av.of (ss _ _ hcp)⟩,fun ac1 na1=>?_⟩
    refine iH (K:=K) (a:=cp) (xs:=cvs) (fun i ys τ H'=>∃ t0:Option V,τ = [t0]/\ys=vN ((cs.take i).map (·.1))/\H' ac1=some (.lst ys)/\ae H10 H') ?_ ?_ ?_ ?_
    · exact⟨none,rfl,rfl,aa,ae.new na1⟩
    · rintro i ys τ H' hi ⟨t0,rfl,rfl,ha,sa⟩
      refine⟨av.of (sa _ _ (ss _ _ hcp)),ha,aX ?_⟩
      rw [List.length_map,List.length_map,List.length_take]
      omega
    · rintro i y ys τ H' hi ⟨t0,rfl,rfl,ha,sa⟩
      have hil:i < cs.length:=by have:=(List.getElem?_eq_some_iff.mp hi).1;omega
      have hoi:cs[i]? = some cs[i]:=by simp [hil]
      generalize cs[i] = c1 at hoi
      have hdi:ds[i]? = some ds[i]:=by simp [hdl,hil]
      obtain⟨c2,hc2,fd,hfd,hde⟩:=LS.dt cc hdi
      obtain rfl:c1=c2:=Option.some.inj (hoi.symm.trans hc2)
      obtain⟨v,hv,rv⟩:=rcvs.get hdi
      obtain rfl:v=y:=Option.some.inj (hv.symm.trans hi)
      rw [hde] at rv
      obtain⟨qa,qvs,rfl,hqa,rq⟩:=aP.bx rv
      obtain⟨y1,t1,rfl,q1,rq⟩:=rq.cons_inv
      cases q1
      refine bF ?_
      refine jR ?_
      refine bT ?_
      refine⟨_,rfl,qa,_,0,_,rfl,rfl,av.of (sa _ _ (ss _ _ hqa)),eW,ha,_,rfl,?_,aa,sa.put na1⟩
      rw [List.take_add_one,hoi,List.map_append]
      show _=(List.map _ _ ++ [c1.1]).map _
      rw [List.map_append]
      rfl
    rintro ys1 τ H11 ⟨t0,rfl,rfl,ha1,s11⟩
    rw [List.take_of_length_le (by omega)] at ha1
    refine bF ?_
    have s911:=ss.trans s11
    refine⟨_,rfl,_,ps,rfl,r9p.same s911 (dz ps),hin,hn0,(by omega),fun th ks H12 hth hks hkl s12=>?_⟩
    have s912:=s911.trans s12
    have ha12:=s12 _ _ ha1
    refine⟨_,rfl,ac1,rfl,⟨_,aI.of ha12⟩,fun ac2 na2=>?_⟩
    refine iG (K:=K) (a:=ac1) (xs:=vN (cs.map (·.1))) (fun i ys τ H'=>∃ t0:Option V,τ = [t0,some (.ref pp)]/\ys = []/\H' ac2=some (.lst ys)/\ae H12 H') ?_ ?_ ?_ ?_
    · exact⟨none,rfl,rfl,aa,ae.new na2⟩
    · rintro i ys τ H' hi ⟨t0,rfl,rfl,ha,sa⟩
      exact⟨aI.of (sa _ _ ha12),ha,aX (Nat.zero_le _)⟩
    · rintro i y ys τ H' hi ⟨t0,rfl,rfl,ha,sa⟩
      obtain⟨k0,hk0,rfl⟩:∃ k,(cs.map (·.1))[i]? = some k/\y=V.int (k:Nat):=by
        rw [List.getElem?_map] at hi
        cases z:(cs.map (·.1))[i]? with
        | none=>rw [z] at hi;cases hi
        | some k=>rw [z] at hi;exact⟨k,rfl,(Option.some.inj hi).symm⟩
      obtain⟨c1,hc1,rfl⟩:=List.mem_map.mp (List.mem_of_getElem? hk0)
      refine bF ?_
      refine⟨_,rfl,_,rfl,_,ps,rfl,r9p.same (s912.trans sa) (dz ps),hin,hn0,(by omega),fun tr rs H14 htr hrs _ _ s14=>?_⟩
      refine⟨tr,_,rfl,.inl (aI.of htr),rfl,e6 _,_,rfl,?_⟩
      rw [show (if true=true then !eV (.int (c1.1:Nat)) (vN rs) else eV (.int (c1.1:Nat)) (vN rs)) = !decide (c1.1 ∈ rs) from congrArg (!·) (eu c1.1 _)]
      refine bB (by rw [decide_eq_true ((hrs _).mpr (fRch c1 hc1))];rfl) ?_
      exact⟨_,rfl,rfl,s14 _ _ ha,sa.trans s14⟩
    rintro ys2 τ H13 ⟨t0,rfl,rfl,ha2,s13⟩
    refine⟨Nat.zero_le _,fun el ne=>?_⟩
    have se:=ae.new (o:=.lst []) ne
    refine⟨.list [],.list [],.lst (se _ _ ha2) .nil,.lst aa .nil,rfl,rfl,(by decide),_,rfl,bJ ?_⟩
    have s914:=(s912.trans s13).trans se
    have ha14:=se _ _ (s13 _ _ ha12)
    have hth14:=se _ _ (s13 _ _ hth)
    generalize (upd H13 el (.lst []))=H14 at s914 ha14 hth14 ⊢
    clear se ne ha2 s13
    refine⟨_,rfl,th,rfl,⟨_,aI.of hth14⟩,gS (K:=K) (a:=th) (xs:=vN ks) (fun i σ H'=>∃ u8:Option V,σ = [some (.ref a),some (.ref b),some (.int (most:Nat)),some (.ref pp),some (.ref op),some (.ref cp),some (.ref ac1),some (.ref th),u8,none,none]/\ae H14 H') ?_ ?_ ?_ ?_⟩
    · exact⟨_,rfl,fun _ _ h=>h⟩
    · rintro i σ H' hi ⟨u8,rfl,sa⟩
      exact aI.of (sa _ _ hth14)
    · rintro i y σ H' hi ⟨u8,rfl,sa⟩
      obtain⟨k0,hk0,rfl⟩:∃ k,ks[i]? = some k/\y=V.int (k:Nat):=by
        rw [List.getElem?_map] at hi
        cases z:ks[i]? with
        | none=>rw [z] at hi;cases hi
        | some k=>rw [z] at hi;exact⟨k,rfl,(Option.some.inj hi).symm⟩
      have hd0:=fOnce k0 ((hks k0).mp (List.mem_of_getElem? hk0))
      have haX:=sa _ _ ha14
      refine bF ?_
      refine⟨_,rfl,.inl ⟨rfl,_,aI.of haX⟩,_,rfl,ac1,_,(k0:Nat),rfl,rfl,haX.trans (by rw [As]),_,_,rfl,rfl,_,rfl,bB (decide_eq_false (by rw [pM];omega)) ?_⟩
      refine⟨_,rfl,_,rfl,ac1,_,rfl,.inl (aI.of haX),rfl,e6 _,_,rfl,?_⟩
      rw [show (if false=true then !eV (.int (k0:Nat)) (vN (cs.map (·.1))) else eV (.int (k0:Nat)) (vN (cs.map (·.1))))=decide (k0 ∈ cs.map (·.1)) from eu k0 _]
      by_cases hm0:k0 ∈ cs.map (·.1)
      · refine cL (decide_eq_true hm0) ?_
        refine⟨_,rfl,Nat.zero_le _,fun t1 n1=>⟨ln2,fun t2 n2=>?_⟩⟩
        have sb:=(ae.new (o:=.tup []) n1).trans (ae.new (o:=.tup [.int (k0:Nat),.ref t1]) n2)
        have rh:aP (upd (upd H' t1 (.tup [])) t2 (.tup [.int (k0:Nat),.ref t1])) (.ref t2) (.tuple [.int (k0:Nat),.tuple []]):=.tup aa (.cons (.int _) (.cons (.tup ((ae.new (o:=.tup [.int (k0:Nat),.ref t1]) n2) _ _ aa) .nil) .nil))
        generalize (upd (upd H' t1 (.tup [])) t2 (.tup [.int (k0:Nat),.ref t1]))=HB at sb rh
        have sB:=(s914.trans sa).trans sb
        have hc0:CD (k0,T0) (.tuple [.int (k0:Nat),.tuple []]):=⟨.tuple [],⟨[],⟨.nil,List.nodup_nil⟩,fun x=>⟨fun z=>(by cases z),fun z=>absurd rfl z⟩,rfl⟩,rfl⟩
        have hin0:(PyData.tuple [.int (k0:Nat),.tuple []]) ∈ ds:=by
          obtain⟨j,hj⟩:=List.mem_iff_getElem?.mp (hd0.2 hm0)
          have hjl:j < ds.length:=by have:=(List.getElem?_eq_some_iff.mp hj).1;omega
          have hdj:ds[j]? = some ds[j]:=by simp [hjl]
          obtain⟨c2,hc2,hcd⟩:=LS.dt cc hdj
          obtain rfl:(k0,T0)=c2:=Option.some.inj (hj.symm.trans hc2)
          rw [(hc0.iff hcd).mpr rfl]
          exact List.mem_of_getElem? hdj
        refine⟨_,rfl,cp,cvs,ds,_,rfl,av.of (sB _ _ hcp),rcvs.ip sB,t9 cc (fun c hc=>(iP c hc).2.lay xok.1),rh,⟨rfl,rfl,(show 2<=7 by decide),_,rfl⟩,_,rfl,bB (by rw [decide_eq_true hin0];rfl) ?_⟩
        exact⟨_,rfl,sa.trans sb⟩
      · refine bB (decide_eq_false hm0) ?_
        refine bJ ?_
        exact⟨_,rfl,sa⟩
    rintro σ H15 ⟨u8,rfl,s15⟩
    have s915:=s914.trans s15
    have hcp15:=s915 _ _ hcp
    refine⟨_,rfl,_,rfl,_,rfl,cp,cvs,rfl,hcp15,fun p16 H16 hp16 s16=>?_⟩
    rw [Ar] at hp16
    have s916:=s915.trans s16
    refine⟨p16,rfl,⟨_,av.of hp16⟩,fun ac3 na3=>?_⟩
    refine iH (K:=K) (a:=p16) (xs:=cvs.drop most) (fun i ys τ H'=>∃ t0:Option V,τ = [t0]/\ys = []/\H' ac3=some (.lst ys)/\ae H16 H') ?_ ?_ ?_ ?_
    · exact⟨none,rfl,rfl,aa,ae.new na3⟩
    · rintro i ys τ H' hi ⟨t0,rfl,rfl,ha,sa⟩
      exact⟨av.of (sa _ _ hp16),ha,aX (Nat.zero_le _)⟩
    · rintro i y ys τ H' hi ⟨t0,rfl,rfl,ha,sa⟩
      rw [List.getElem?_drop] at hi
      have hil:most+i < cs.length:=by have:=(List.getElem?_eq_some_iff.mp hi).1;omega
      have hdi:ds[most+i]? = some ds[most+i]:=by simp [hdl,hil]
      obtain⟨c2,hc2,fd,hfd,hde⟩:=LS.dt cc hdi
      have hz:=fLate (most+i) c2 (by omega) hc2
      obtain⟨v,hv,rv⟩:=rcvs.get hdi
      obtain rfl:v=y:=Option.some.inj (hv.symm.trans hi)
      rw [hde] at rv
      obtain⟨ss2,_,hm2,hfe⟩:=hfd
      have hse:ss2 = []:=List.eq_nil_iff_forall_not_mem.mpr fun x hx=>(hm2 x).mp hx (by rw [hz];rfl)
      rw [hfe,hse] at rv
      obtain⟨qa,qvs,rfl,hqa,rq⟩:=aP.bx rv
      obtain⟨y1,t1,rfl,q1,rq⟩:=rq.cons_inv
      obtain⟨y2,t2,rfl,q2,rq⟩:=rq.cons_inv
      refine bF ?_
      refine⟨_,rfl,qa,_,1,_,rfl,rfl,av.of (sa _ _ (s916 _ _ hqa)),eX,Nat.zero_le _,fun et net=>?_⟩
      have se:=ae.new (o:=.tup []) net
      refine⟨.tuple [],.tuple [],(q2.ip (s916.trans sa)).ip se,.tup aa .nil,rfl,rfl,(by decide),_,rfl,bJ ?_⟩
      exact⟨_,rfl,rfl,se _ _ ha,sa.trans se⟩
    rintro ys3 τ H17 ⟨t0,rfl,rfl,ha3,s17⟩
    refine⟨Nat.zero_le _,fun el ne=>?_⟩
    have se:=ae.new (o:=.lst []) ne
    refine⟨.list [],.list [],.lst (se _ _ ha3) .nil,.lst aa .nil,rfl,rfl,(by decide),_,rfl,bJ ?_⟩
    have s918:=(s916.trans s17).trans se
    have hth18:=se _ _ (s17 _ _ (s16 _ _ (s15 _ _ hth14)))
    generalize (upd H17 el (.lst []))=H18 at s918 hth18 ⊢
    refine⟨_,rfl,op,rfl,⟨_,av.of (s918 _ _ hop)⟩,fF (K:=K) (a:=op) (xs:=ovs) (fun i σ H'=>∃ u9 u10:Option V,σ = [some (.ref a),some (.ref b),some (.int (most:Nat)),some (.ref pp),some (.ref op),some (.ref cp),some (.ref ac1),some (.ref th),u8,u9,u10]/\ae H18 H') ?_ ?_ ?_ ?_⟩
    · exact⟨_,_,rfl,fun _ _ h=>h⟩
    · rintro i σ H' hi ⟨u9,u10,rfl,sa⟩
      exact av.of (sa _ _ (s918 _ _ hop))
    · rintro i y σ H' hi ⟨u9,u10,rfl,sa⟩
      have hil:i < outs.length:=by have:=(List.getElem?_eq_some_iff.mp hi).1;omega
      have hoi:outs[i]? = some outs[i]:=by simp [hil]
      generalize outs[i] = p1 at hoi
      obtain⟨dd,en⟩:=p1
      obtain⟨p',xs',pc,da,ea,wsv,ep,e1',el',hx',e2,e3,r3,e4⟩:=d6 ro hoi
      cases ep
      rw [hop] at e1'
      cases e1'
      obtain rfl:y=.ref pc:=Option.some.inj (hi.symm.trans hx')
      have sX:=s918.trans sa
      refine⟨pc,_,rfl,av.of (sX _ _ e2),rfl,_,_,rfl,_,_,rfl,rfl,?_⟩
      refine⟨_,rfl,ea,en,rfl,sX _ _ e4,fun wl H7 nwl hwl s7=>?_⟩
      refine⟨wl,rfl,⟨_,aI.of hwl⟩,fun ac4 na4=>?_⟩
      refine iG (K:=K) (a:=wl) (xs:=vN (ar en)) (fun i ys τ H'=>∃ t0:Option V,τ = [t0,some (.ref op)]/\ys = []/\H' ac4=some (.lst ys)/\ae H7 H') ?_ ?_ ?_ ?_
      · exact⟨none,rfl,rfl,aa,ae.new na4⟩
      · rintro i ys τ H' hi ⟨t0,rfl,rfl,ha,sb⟩
        exact⟨aI.of (sb _ _ hwl),ha,aX (Nat.zero_le _)⟩
      · rintro i2 y ys τ H8 hi2 ⟨t0,rfl,rfl,ha,sb⟩
        obtain⟨k2,hk2,rfl⟩:∃ k,(ar en)[i2]? = some k/\y=V.int (k:Nat):=by
          rw [List.getElem?_map] at hi2
          cases z:(ar en)[i2]? with
          | none=>rw [z] at hi2;cases hi2
          | some k=>rw [z] at hi2;exact⟨k,rfl,(Option.some.inj hi2).symm⟩
        have hkb:=iN hinL hoi k2 (List.mem_of_getElem? hk2)
        refine bF ?_
        refine⟨_,rfl,_,_,rfl,rfl,_,rfl,bB (decide_eq_false (by omega)) ?_⟩
        refine⟨_,rfl,_,rfl,op,ovs,rfl,.inr (av.of (sb _ _ (s7 _ _ (sX _ _ hop)))),_,_,rfl,rfl,_,rfl,bB (decide_eq_false (by omega)) ?_⟩
        exact⟨_,rfl,rfl,ha,sb⟩
      rintro ys4 τ H9' ⟨t0,rfl,rfl,ha4,s8⟩
      refine⟨Nat.zero_le _,fun el ne=>?_⟩
      have se:=ae.new (o:=.lst []) ne
      refine⟨.list [],.list [],.lst (se _ _ ha4) .nil,.lst aa .nil,rfl,rfl,(by decide),_,rfl,bJ ?_⟩
      exact⟨_,_,rfl,((sa.trans s7).trans s8).trans se⟩
    rintro σ H19 ⟨u9,u10,rfl,s19⟩
    have s919:=s918.trans s19
    refine⟨_,rfl,_,rfl,cp,cvs,rfl,.inr (av.of (s919 _ _ hcp)),_,rfl,(by omega),(by omega),fun ac5 na5=>?_⟩
    classical
    refine iW (fun i ys τ H'=>∃ t0:Option V,τ = [t0,some (.ref th),some (.ref cp)]/\ys=vN ((List.range i).filter fun k=>decide (∃ c,cs[k]? = some c/\c.1 ∈ ks))/\H' ac5=some (.lst ys)/\ae H19 H') ?_ ?_ ?_ ?_
    · exact⟨none,rfl,rfl,aa,ae.new na5⟩
    · rintro i ys τ H' hi ⟨t0,rfl,rfl,ha,sa⟩
      exact⟨ha,Nat.lt_of_le_of_lt (by rw [List.length_map];exact List.length_filter_le _ _) (fh (by rw [List.length_range];omega))⟩
    · rintro i ys τ H' hi ⟨t0,rfl,rfl,ha,sa⟩
      have hil:i < cs.length:=by omega
      have hoi:cs[i]? = some cs[i]:=by simp [hil]
      generalize cs[i] = c1 at hoi
      have hdi:ds[i]? = some ds[i]:=by simp [hdl,hil]
      obtain⟨c2,hc2,fd,hfd,hde⟩:=LS.dt cc hdi
      obtain rfl:c1=c2:=Option.some.inj (hoi.symm.trans hc2)
      obtain⟨v,hv,rv⟩:=rcvs.get hdi
      rw [hde] at rv
      obtain⟨qa,qvs,rfl,hqa,rq⟩:=aP.bx rv
      obtain⟨y1,t1,rfl,q1,rq⟩:=rq.cons_inv
      cases q1
      have hz:(0+(i:Int))=(i:Nat):=Int.zero_add _
      have sX:=s919.trans sa
      refine bF ?_
      rw [hz]
      refine⟨_,rfl,_,rfl,cp,_,_,_,rfl,rfl,av.of (sX _ _ hcp),bO hv,qa,_,0,_,rfl,rfl,av.of (sX _ _ hqa),eW,_,rfl,th,_,rfl,.inl (aI.of (sa _ _ (s19 _ _ hth18))),rfl,e6 _,_,rfl,?_⟩
      rw [show (if false=true then !eV (.int (c1.1:Nat)) (vN ks) else eV (.int (c1.1:Nat)) (vN ks))=decide (c1.1 ∈ ks) from eu c1.1 _]
      by_cases hm0:c1.1 ∈ ks
      · refine cL (decide_eq_true hm0) ?_
        refine⟨_,rfl,ha,_,rfl,?_,aa,sa.put na5⟩
        rw [List.range_succ,List.filter_append,List.filter_cons_of_pos (by exact decide_eq_true ⟨c1,hoi,hm0⟩),List.filter_nil]
        show _=(List.filter _ _ ++ [i]).map _
        rw [List.map_append]
        rfl
      · refine bB (decide_eq_false hm0) ?_
        refine⟨_,rfl,?_,ha,sa⟩
        rw [List.range_succ,List.filter_append,List.filter_cons_of_neg (by rw [decide_eq_false (by rintro⟨c,hc,hcm⟩;rw [hoi] at hc;cases hc;exact hm0 hcm)];decide),List.filter_nil,List.append_nil]
    rintro ys5 τ H20 ⟨t0,rfl,rfl,ha5,s20⟩
    rw [Int.toNat_natCast] at ha5
    refine⟨_,outs,ac5,_,rfl,ro.same (s919.trans s20) (dz outs),hinL,ha5,(by omega),fun bb left H21 hbb hleft s21=>?_⟩
    have hnil:left = []:=fRound left fun k hk=>by
      obtain⟨hnb,p,hp,j,hj,hjl⟩:=hleft k hk
      have hkc:k < cs.length:=by have:=(List.getElem?_eq_some_iff.mp hp).1;omega
      have hck:cs[k]? = some cs[k]:=by simp [hkc]
      refine⟨p,cs[k],hp,hck,fun hh=>hnb ?_,j,hj,hjl⟩
      exact List.mem_filter.mpr ⟨List.mem_range.mpr (by omega),decide_eq_true ⟨_,hck,(hks _).mpr hh⟩⟩
    cases bb with
    | true=>exact absurd hnil (hbb.mp rfl)
    | false=>exact⟨_,rfl,q _⟩
end
theorem all_mk {l:PySem.W.OpenLaw} {w:World} {K:PySem.W.Frag} {h:Heap} {mg:Str->Option Value} {fa:Addr} (X:K.In h) (G:h.Ns mainGlobals mg) (hfa:mg "law" = some (.ref fa))
  {f0 f1 f2 f3 f4 f5 f6 f7 f8 f9 f10 f11 f12 f13 f14 f15 f16 f17 f18 f19 f20 f21 f22 f23 f24 f25 f26 f27 f28 f29 f30 f31 f32 f33 f34 f35 f36 f37 f38:Addr} {g0 g1 g2 g3 g4 g5 g6 g7 g8 g9 g10 g11 g12 g13 g14 g15 g16 g17 g18 g19 g20 g21 g22 g23 g24 g25 g26 g27 g28 g29 g30 g31 g32 g33 g34 g35 g36 g37 g38:FuncData}
  {aA:Addr} {dcA:Option Addr} {nA:Nat} {slA:Array (Option Value)}
  {tk_MOST_TO_LEAD:Tok}
  {aE:Addr} {epE:Nat} {s0:Addr} {hsE0:Int} {tkE0:Tok} {dcE0:Option Addr} {nnE0:Nat} {slE0:Array (Option Value)}  {s1:Addr} {hsE1:Int} {tkE1:Tok} {dcE1:Option Addr} {nnE1:Nat} {slE1:Array (Option Value)} {ttE1_0:Tok} {s2:Addr} {hsE2:Int} {tkE2:Tok} {dcE2:Option Addr} {nnE2:Nat} {slE2:Array (Option Value)} {ttE2_0:Tok} {ttE2_1:Tok} {ttE2_2:Tok} {ttE2_3:Tok} {s3:Addr} {hsE3:Int} {tkE3:Tok} {dcE3:Option Addr} {nnE3:Nat} {slE3:Array (Option Value)} {ttE3_0:Tok} {ttE3_1:Tok} {ttE3_2:Tok} {ttE3_3:Tok}
  {aD:Addr} {epD:Nat} {d0:Addr} {hsD0:Int} {tkD0:Tok} {dcD0:Option Addr} {nnD0:Nat} {slD0:Array (Option Value)} {ttD0_0:Tok} {ttD0_1:Tok} {d1:Addr} {hsD1:Int} {tkD1:Tok} {dcD1:Option Addr} {nnD1:Nat} {slD1:Array (Option Value)} {ttD1_0:Tok} {ttD1_1:Tok} {d2:Addr} {hsD2:Int} {tkD2:Tok} {dcD2:Option Addr} {nnD2:Nat} {slD2:Array (Option Value)} {ttD2_0:Tok} {ttD2_1:Tok} {d3:Addr} {hsD3:Int} {tkD3:Tok} {dcD3:Option Addr} {nnD3:Nat} {slD3:Array (Option Value)} {ttD3_0:Tok} {d4:Addr} {hsD4:Int} {tkD4:Tok} {dcD4:Option Addr} {nnD4:Nat} {slD4:Array (Option Value)} {ttD4_0:Tok}
  {C:Addr}
  (z_len:PySem.W.nsIn K mainGlobals "len" = some none)
  (z_zip:PySem.W.nsIn K mainGlobals "zip" = some none)
  (z_tuple:PySem.W.nsIn K mainGlobals "tuple" = some none)
  (z_sorted:PySem.W.nsIn K mainGlobals "sorted" = some none)
  (z_set:PySem.W.nsIn K mainGlobals "set" = some none)
  (z_dict:PySem.W.nsIn K mainGlobals "dict" = some none)
  (z_min:PySem.W.nsIn K mainGlobals "min" = some none)
  (z_max:PySem.W.nsIn K mainGlobals "max" = some none)
  (z_range:PySem.W.nsIn K mainGlobals "range" = some none)
  (z_list:PySem.W.nsIn K mainGlobals "list" = some none)
  (z_int:PySem.W.nsIn K mainGlobals "int" = some none)
  (gA:PySem.W.nsIn K mainGlobals "ALL" = some (some (.ref aA))) (lA:K.lookup aA=some ⟨.type "tuple",dcA,.seq #[.none,.none] nA,slA⟩)
  (g_MOST_TO_LEAD:PySem.W.nsIn K mainGlobals "MOST_TO_LEAD" = some (some (.int 60 tk_MOST_TO_LEAD)))
  (gE:PySem.W.nsIn K mainGlobals "END_PARTS" = some (some (.ref aE))) (lE:K.lookup aE=some ⟨.type "dict",none,.dict #[⟨hsE0,.str "stop" tkE0,.ref s0⟩,⟨hsE1,.str "go" tkE1,.ref s1⟩,⟨hsE2,.str "less" tkE2,.ref s2⟩,⟨hsE3,.str "is" tkE3,.ref s3⟩] epE,#[]⟩) (qE0:K.lookup s0=some ⟨.type "tuple",dcE0,.seq #[] nnE0,slE0⟩) (qE1:K.lookup s1=some ⟨.type "tuple",dcE1,.seq #[.str "piece" ttE1_0] nnE1,slE1⟩) (qE2:K.lookup s2=some ⟨.type "tuple",dcE2,.seq #[.str "name" ttE2_0,.str "number" ttE2_1,.str "piece" ttE2_2,.str "piece" ttE2_3] nnE2,slE2⟩) (qE3:K.lookup s3=some ⟨.type "tuple",dcE3,.seq #[.str "name" ttE3_0,.str "number" ttE3_1,.str "piece" ttE3_2,.str "piece" ttE3_3] nnE3,slE3⟩)
  (gD:PySem.W.nsIn K mainGlobals "DEED_PARTS" = some (some (.ref aD))) (lD:K.lookup aD=some ⟨.type "dict",none,.dict #[⟨hsD0,.str "put" tkD0,.ref d0⟩,⟨hsD1,.str "copy" tkD1,.ref d1⟩,⟨hsD2,.str "add" tkD2,.ref d2⟩,⟨hsD3,.str "read" tkD3,.ref d3⟩,⟨hsD4,.str "tell" tkD4,.ref d4⟩] epD,#[]⟩) (qD0:K.lookup d0=some ⟨.type "tuple",dcD0,.seq #[.str "name" ttD0_0,.str "number" ttD0_1] nnD0,slD0⟩) (qD1:K.lookup d1=some ⟨.type "tuple",dcD1,.seq #[.str "name" ttD1_0,.str "name" ttD1_1] nnD1,slD1⟩) (qD2:K.lookup d2=some ⟨.type "tuple",dcD2,.seq #[.str "name" ttD2_0,.str "number" ttD2_1] nnD2,slD2⟩) (qD3:K.lookup d3=some ⟨.type "tuple",dcD3,.seq #[.str "name" ttD3_0] nnD3,slD3⟩) (qD4:K.lookup d4=some ⟨.type "tuple",dcD4,.seq #[.str "name" ttD4_0] nnD4,slD4⟩)
  (aCC:PySem.W.nsIn K mainGlobals "Row" = some (some (.ref C))) (pgC:PySem.W.plainGet K C Str.empty=true) (hdC:PySem.W.hasDictIn K C=true) (poC:PySem.W.plainOver K C=true) (saC:PySem.W.findIn K (.ref C) "__setattr__" = some (some (.builtin "object.__setattr__"))) (mkC:PySem.W.makesIn K C=true) (kcC:PySem.W.keepIn K (.ref C)=true)
  (nC_members:PySem.W.findIn K (.ref C) "members" = some none)
  (nC_places:PySem.W.findIn K (.ref C) "places" = some none)
  (D0:bp K "parts_of_kind" fA f0 g0)
  (D1:bp K "ways_on" kh f1 g1)
  (D2:bp K "without_ways" fL f2 g2)
  (D3:bp K "names_of" jj f3 g3)
  (D4:bp K "lies_in" ki f4 g4)
  (D5:bp K "part_below" hZ f5 g5)
  (D6:bp K "part_from" ix f6 g6)
  (D7:bp K "part_at" kj f7 g7)
  (D8:bp K "part_beside" gn f8 g8)
  (D9:bp K "part_of" km f9 g9)
  (D10:bp K "facts_of" jm f10 g10)
  (D11:bp K "known" oi f11 g11)
  (D12:bp K "with_known" h9 f12 g12)
  (D13:bp K "moved" om f13 g13)
  (D14:bp K "stretch_behind" eR f14 g14)
  (D15:bp K "behind" mi f15 g15)
  (D16:bp K "known_beyond" fN f16 g16)
  (D17:bp K "leads" oo f17 g17)
  (D18:bp K "start" oq f18 g18)
  (D19:ng K C "__init__" "Row.__init__" fO f19 g19)
  (D20:ng K C "place_of" "Row.place_of" fP f20 g20)
  (D21:bp K "reached" ko f21 g21)
  (D22:bp K "heads" ou f22 g22)
  (D23:bp K "copy_for" jo f23 g23)
  (D24:bp K "end_to" mj f24 g24)
  (D25:bp K "led_past" jq f25 g25)
  (D26:bp K "_law_bag" kq f26 g26)
  (D27:bp K "_law_take" jt f27 g27)
  (D28:bp K "_law_names" iy f28 g28)
  (D29:bp K "_law_number" ia f29 g29)
  (D30:bp K "_law_deed" ju f30 g30)
  (D31:bp K "_law_end" ku f31 g31)
  (D32:bp K "_law_plan" jv f32 g32)
  (D33:bp K "_law_count" iA f33 g33)
  (D34:bp K "_law_ways" jw f34 g34)
  (D35:bp K "_law_reached" gr f35 g35)
  (D36:bp K "_law_heads" iB f36 g36)
  (D37:bp K "_law_goes_round" eS f37 g37)
  (D38:bp K "law" kO f38 g38) :
  ∃ fd:FuncData,(∀ (s:Shared) (v:Value),BindsTo s fd ⟨[v],[]⟩ [("script",v)])/\∀ base:Heap,K.In base->base.Ns mainGlobals mg->ba l.prog w K mg base bN 9 fa fd ["script"] (pZ K):=by
 have e:=hfa.symm.trans (PySem.W.mg_of X G D38.a)
 cases e
 have Z:Bl mg:=⟨PySem.W.mg_none_of X G z_len,PySem.W.mg_none_of X G z_zip,PySem.W.mg_none_of X G z_tuple,PySem.W.mg_none_of X G z_sorted,PySem.W.mg_none_of X G z_set,PySem.W.mg_none_of X G z_dict,PySem.W.mg_none_of X G z_min,PySem.W.mg_none_of X G z_max,PySem.W.mg_none_of X G z_range,PySem.W.mg_none_of X G z_list,PySem.W.mg_none_of X G z_int⟩
 have GA:gh K mg aA:=⟨PySem.W.mg_of X G gA,_,_,_,lA⟩
 have G_MOST_TO_LEAD:mg "MOST_TO_LEAD" = some (.int 60 tk_MOST_TO_LEAD):=PySem.W.mg_of X G g_MOST_TO_LEAD
 have GE:qI K mg aE s0 s1 s2 s3:=⟨⟨PySem.W.mg_of X G gE,_,_,lE,(.cons rfl rfl (.cons rfl rfl (.cons rfl rfl (.cons rfl rfl .nil))))⟩,⟨_,_,_,qE0,rfl,rfl,(by show 0<=sizeLine;decide),.nil⟩,⟨_,_,_,qE1,rfl,rfl,(by show 1<=sizeLine;decide),(.cons ⟨_,rfl⟩ .nil)⟩,⟨_,_,_,qE2,rfl,rfl,(by show 4<=sizeLine;decide),(.cons ⟨_,rfl⟩ (.cons ⟨_,rfl⟩ (.cons ⟨_,rfl⟩ (.cons ⟨_,rfl⟩ .nil))))⟩,⟨_,_,_,qE3,rfl,rfl,(by show 4<=sizeLine;decide),(.cons ⟨_,rfl⟩ (.cons ⟨_,rfl⟩ (.cons ⟨_,rfl⟩ (.cons ⟨_,rfl⟩ .nil))))⟩⟩
 have GD:p8 K mg aD d0 d1 d2 d3 d4:=⟨⟨PySem.W.mg_of X G gD,_,_,lD,(.cons rfl rfl (.cons rfl rfl (.cons rfl rfl (.cons rfl rfl (.cons rfl rfl .nil)))))⟩,⟨_,_,_,qD0,rfl,rfl,(by show 2<=sizeLine;decide),(.cons ⟨_,rfl⟩ (.cons ⟨_,rfl⟩ .nil))⟩,⟨_,_,_,qD1,rfl,rfl,(by show 2<=sizeLine;decide),(.cons ⟨_,rfl⟩ (.cons ⟨_,rfl⟩ .nil))⟩,⟨_,_,_,qD2,rfl,rfl,(by show 2<=sizeLine;decide),(.cons ⟨_,rfl⟩ (.cons ⟨_,rfl⟩ .nil))⟩,⟨_,_,_,qD3,rfl,rfl,(by show 1<=sizeLine;decide),(.cons ⟨_,rfl⟩ .nil)⟩,⟨_,_,_,qD4,rfl,rfl,(by show 1<=sizeLine;decide),(.cons ⟨_,rfl⟩ .nil)⟩⟩
 have T:qW K C:=⟨⟨pgC,hdC,poC,saC⟩,nC_members,nC_places⟩
 obtain⟨oc,od,kV,dc,pm,an,cd,ct,sl,rfl,lk,hcd⟩:=D38.F.ex
 refine⟨PySem.W.fnOf "law" "law" (cK kO) (cx kO) (au kO) .none kV dc pm an cd ct,fun s v=>.of_eq rfl,fun base _ _=>?_⟩
 have O_parts_of_kind:=bf l.prog w base X G D0 (ml D0.F Z) (zr fun _ _ _ _ _ _ _ _ _=>rfl)
 have O_ways_on:=bf l.prog w base X G D1 (vn D1.F Z GE O_parts_of_kind) (jC fun _ _ _ _ _ _ _=>rfl)
 have O_without_ways:=bf l.prog w base X G D2 (nu D2.F Z O_ways_on) (jC fun _ _ _ _ _ _ _=>rfl)
 have O_names_of:=bf l.prog w base X G D3 (sm D3.F Z GD GE O_parts_of_kind) (jC fun _ _ _ _ _ _ _=>rfl)
 have O_lies_in:=bf l.prog w base X G D4 (vo D4.F Z) (fb fun _ _ _ _ _ _ _ _=>rfl)
 have O_part_below:=bf l.prog w base X G D5 (pV D5.F Z) (fb fun _ _ _ _ _ _ _ _=>rfl)
 have O_part_from:=bf l.prog w base X G D6 (rN D6.F Z) (fb fun _ _ _ _ _ _ _ _=>rfl)
 have O_part_at:=bf l.prog w base X G D7 (vp D7.F Z O_lies_in) (fb fun _ _ _ _ _ _ _ _=>rfl)
 have O_part_beside:=bf l.prog w base X G D8 (ow D8.F Z) (fb fun _ _ _ _ _ _ _ _=>rfl)
 have O_part_of:=bf l.prog w base X G D9 (vq D9.F Z O_part_below O_part_from O_part_at O_part_beside) (Cs fun _ _ _ _ _ _ _ _ _ _=>rfl)
 have O_facts_of:=bf l.prog w base X G D10 (so D10.F Z GA) (jC fun _ _ _ _ _ _ _=>rfl)
 have O_known:=bf l.prog w base X G D11 (yV D11.F Z GA) (fb fun _ _ _ _ _ _ _ _=>rfl)
 have O_with_known:=bf l.prog w base X G D12 (pW D12.F Z GA O_facts_of) (zr fun _ _ _ _ _ _ _ _ _=>rfl)
 have O_moved:=bf l.prog w base X G D13 (yW D13.F Z) (fb fun _ _ _ _ _ _ _ _=>rfl)
 have O_stretch_behind:=bf l.prog w base X G D14 (kR D14.F Z GA O_moved) (fb fun _ _ _ _ _ _ _ _=>rfl)
 have O_behind:=bf l.prog w base X G D15 (xj D15.F Z GA O_stretch_behind O_facts_of) (fb fun _ _ _ _ _ _ _ _=>rfl)
 have O_known_beyond:=bf l.prog w base X G D16 (nv D16.F Z GA O_ways_on O_known O_part_of O_with_known) (fb fun _ _ _ _ _ _ _ _=>rfl)
 have O_leads:=bf l.prog w base X G D17 (yX D17.F Z O_known_beyond O_ways_on) (fb fun _ _ _ _ _ _ _ _=>rfl)
 have O_start:=bf l.prog w base X G D18 (yY D18.F Z O_names_of) (jC fun _ _ _ _ _ _ _=>rfl)
 have O_Row___init__:=Ap l.prog w base X G aCC mkC kcC D19 (ny D19.F Z T) (fb fun _ _ _ _ _ _ _ _=>rfl)
 have O_Row_place_of:=Ao l.prog w base mg T.cl D20 (nz D20.F Z T) (fb fun _ _ _ _ _ _ _ _=>rfl)
 have O_reached:=bf l.prog w base X G D21 (vt D21.F Z O_ways_on) (jC fun _ _ _ _ _ _ _=>rfl)
 have O_heads:=bf l.prog w base X G D22 (yZ D22.F Z O_reached O_ways_on) (jC fun _ _ _ _ _ _ _=>rfl)
 have O_copy_for:=bf l.prog w base X G D23 (sr D23.F Z) (Cs fun _ _ _ _ _ _ _ _ _ _=>rfl)
 have O_end_to:=bf l.prog w base X G D24 (xk D24.F Z O_without_ways) (fb fun _ _ _ _ _ _ _ _=>rfl)
 have O_led_past:=bf l.prog w base X G D25 (sx D25.F Z G_MOST_TO_LEAD T O_heads O_start O_Row___init__ O_Row_place_of O_behind O_leads O_copy_for O_end_to) (fb fun _ _ _ _ _ _ _ _=>rfl)
 have O_law_bag:=bf l.prog w base X G D26 (vv D26.F Z) (fb fun _ _ _ _ _ _ _ _=>rfl)
 have O_law_take:=bf l.prog w base X G D27 (sy D27.F Z) (fb fun _ _ _ _ _ _ _ _=>rfl)
 have O_law_names:=bf l.prog w base X G D28 (rO D28.F Z O_law_take) (jC fun _ _ _ _ _ _ _=>rfl)
 have O_law_number:=bf l.prog w base X G D29 (pX D29.F Z O_law_take) (jC fun _ _ _ _ _ _ _=>rfl)
 have O_law_deed:=bf l.prog w base X G D30 (sA D30.F Z O_law_take O_law_number) (fb fun _ _ _ _ _ _ _ _=>rfl)
 have O_law_end:=bf l.prog w base X G D31 (vw D31.F Z O_law_take O_law_number) (zr fun _ _ _ _ _ _ _ _ _=>rfl)
 have O_law_plan:=bf l.prog w base X G D32 (sC D32.F Z O_law_take O_law_names O_law_deed O_law_end) (zr fun _ _ _ _ _ _ _ _ _=>rfl)
 have O_law_count:=bf l.prog w base X G D33 (rP D33.F Z O_law_take) (fb fun _ _ _ _ _ _ _ _=>rfl)
 have O_law_ways:=bf l.prog w base X G D34 (sD D34.F Z) (jC fun _ _ _ _ _ _ _=>rfl)
 have O_law_reached:=bf l.prog w base X G D35 (ox D35.F Z O_law_ways) (jC fun _ _ _ _ _ _ _=>rfl)
 have O_law_heads:=bf l.prog w base X G D36 (rQ D36.F Z O_law_reached O_law_ways) (jC fun _ _ _ _ _ _ _=>rfl)
 have O_law_goes_round:=bf l.prog w base X G D37 (kT D37.F Z O_law_ways) (fb fun _ _ _ _ _ _ _ _=>rfl)
 exact BC D38.F Z T O_law_bag O_law_take O_law_count O_law_plan O_led_past O_law_heads O_law_reached O_law_ways O_law_goes_round
theorem walk {l:PySem.W.OpenLaw} {q:Program} {loose:List Str} {XP:(Str->Option Value)->Heap->Prop} {YP:World->Heap->Prop} {d:DefRec} {K:Params->PySem.W.Frag} (hn:l.most=some 63) (hdf:d.params.defaults = [])
  (hY:∀ (w:World) (h:Heap),YP w h->(K w.params).In h)
  (F:∀ (w:World) (mg:Str->Option Value) (fa:Addr) (h:Heap),(K w.params).In h->h.Ns mainGlobals mg->mg d.name=some (.ref fa) ->
   ∃ fd:FuncData,(∀ (s:Shared) (u:Value),BindsTo s fd ⟨[u],[]⟩ [("script",u)])/\∀ base:Heap,(K w.params).In base->base.Ns mainGlobals mg->ba l.prog w (K w.params) mg base bN 9 fa fd ["script"] (pZ (K w.params))) :
  PySem.W.WalkO q loose XP YP l.row.toRowW d [] (fun f vs=>PySem.call f vs) :=
 L2.zM (n:=63) (k:=9) (x := "script") (CX:=fun _=>bN) (sp:=fun w=>pZ (K w.params)) hn (by decide) hdf ⟨rfl,by decide,by decide⟩ hY F (fun _ _ a ns hl _ hS=>⟨a,ns,rfl,hS,hl,fun _=>rfl⟩) fun _ _ _ _ _ z=>z
end My
theorem PySem.W.Fast.tw3007664486670167556:True:=trivial
theorem PySem.W.Fast.tw2561049556028446016:True:=trivial
theorem PySem.W.Fast.tw6122892765615750597:True:=trivial
theorem PySem.W.Fast.tw12528637841895874210:True:=trivial
theorem PySem.W.Fast.tw1270971046554097256:True:=trivial
theorem PySem.W.Fast.tw11864891910327592369:True:=trivial
theorem PySem.W.Fast.tw4552702757399914123:True:=trivial
theorem PySem.W.Fast.tw17998177610381387870:True:=trivial
theorem PySem.W.Fast.tw13880781208004050553:True:=trivial
theorem PySem.W.Fast.tw2244455263069427229:True:=trivial
theorem PySem.W.Fast.tw7360654459149226891:True:=trivial
theorem PySem.W.Fast.tw15144042168933102528:True:=trivial
theorem PySem.W.Fast.tw10900716823044239468:True:=trivial
theorem PySem.W.Fast.tw146179033992013741:True:=trivial
theorem PySem.W.Fast.tw10211701224260305909:True:=trivial
theorem PySem.W.Fast.tw9561676852958626922:True:=trivial
theorem PySem.W.Fast.tw14879841949824384935:True:=trivial
theorem PySem.W.Fast.tw15366856973887320228:True:=trivial
theorem PySem.W.Fast.tw11781875541843425455:True:=trivial
theorem PySem.W.Fast.tw10385185885889684702:True:=trivial
theorem PySem.W.Fast.tw10699605809467866178:True:=trivial
theorem PySem.W.Fast.tw6253414558911822709:True:=trivial
theorem PySem.W.Fast.tw631908131959851598:True:=trivial
theorem PySem.W.Fast.tw1163427213333692926:True:=trivial
theorem PySem.W.Fast.tw12729444624631644905:True:=trivial
theorem PySem.W.Fast.tw685421682460712937:True:=trivial
theorem PySem.W.Fast.tw14820515331711966262:True:=trivial
theorem PySem.W.Fast.tw6431279888732961875:True:=trivial
theorem PySem.W.Fast.tw3473421973912041160:True:=trivial
theorem PySem.W.Fast.tw18245362061524634948:True:=trivial
theorem PySem.W.Fast.tw3203920060647675180:True:=trivial
theorem PySem.W.Fast.tw8998700493510925741:True:=trivial
theorem PySem.W.Fast.tw13498741306028451363:True:=trivial
theorem PySem.W.Fast.tw2806161412208346915:True:=trivial
theorem PySem.W.Fast.tw3899981436057303680:True:=trivial
theorem PySem.W.Fast.tw6545675368942214695:True:=trivial
theorem PySem.W.Fast.tw1114540440549111883:True:=trivial
theorem PySem.W.Fast.tw14677908567316915884:True:=trivial
theorem PySem.W.Fast.tw794403837388272014:True:=trivial
theorem PySem.W.Fast.tw4398019823492408190:True:=trivial
theorem PySem.W.Fast.tw17837258268754009570:True:=trivial
theorem PySem.W.Fast.tw633487668085303533:True:=trivial
theorem PySem.W.Fast.tw7390465115064016749:True:=trivial
theorem PySem.W.Fast.tw11379192155809763541:True:=trivial
theorem PySem.W.Fast.tw17443911424194513498:True:=trivial
theorem PySem.W.Fast.tw388524053584940967:True:=trivial
theorem PySem.W.Fast.tw4911487257799244132:True:=trivial
theorem PySem.W.Fast.tw14256806599882880078:True:=trivial
theorem PySem.W.Fast.tw14662087549754745054:True:=trivial
theorem PySem.W.Fast.tw17015810523360512134:True:=trivial
theorem PySem.W.Fast.tw4202960201954923769:True:=trivial
theorem PySem.W.Fast.tw7831767773896526836:True:=trivial
theorem PySem.W.Fast.tw12939866431546543676:True:=trivial
theorem PySem.W.Fast.tw1208721161378687031:True:=trivial
theorem PySem.W.Fast.tw17317363691679578313:True:=trivial
theorem PySem.W.Fast.tw9062845452517687516:True:=trivial
theorem PySem.W.Fast.tw9013705977581443153:True:=trivial
theorem PySem.W.Fast.tw2664628755099287522:True:=trivial
theorem PySem.W.Fast.tw16838496652499618569:True:=trivial
theorem PySem.W.Fast.tw1981483175115704151:True:=trivial
theorem PySem.W.Fast.tw3845910536001545187:True:=trivial
theorem PySem.W.Fast.tw2747138798662286966:True:=trivial
theorem PySem.W.Fast.tw8537762389350843478:True:=trivial
theorem PySem.W.Fast.tw4811968755666844743:True:=trivial
theorem PySem.W.Fast.tw9931333325084310960:True:=trivial
theorem PySem.W.Fast.tw12676124022111670314:True:=trivial
theorem PySem.W.Fast.tw5899493785731351194:True:=trivial
theorem PySem.W.Fast.tw7789387862051206241:True:=trivial
theorem PySem.W.Fast.tw14934365967500870314:True:=trivial
theorem PySem.W.Fast.tw7230198160567596912:True:=trivial
theorem PySem.W.Fast.tw11345049186072653072:True:=trivial
theorem PySem.W.Fast.tw18205093674459698944:True:=trivial
theorem PySem.W.Fast.tw9466967417752871144:True:=trivial
theorem PySem.W.Fast.tw5975723061970591701:True:=trivial
theorem PySem.W.Fast.tw3963189447608225616:True:=trivial
theorem PySem.W.Fast.tw18308830388491281751:True:=trivial
theorem PySem.W.Fast.tw6612610237121083492:True:=trivial
theorem PySem.W.Fast.tw12033437351911672329:True:=trivial
theorem PySem.W.Fast.tw15524295125610908774:True:=trivial
theorem PySem.W.Fast.tw6212795754839982270:True:=trivial
theorem PySem.W.Fast.tw3098698468375302923:True:=trivial
theorem PySem.W.Fast.tw4076152158203271683:True:=trivial
theorem PySem.W.Fast.tw7836004227585847611:True:=trivial
theorem PySem.W.Fast.tw18096556084380612906:True:=trivial
theorem PySem.W.Fast.tw6056282396802220373:True:=trivial
theorem PySem.W.Fast.tw4275204077293750159:True:=trivial
theorem PySem.W.Fast.tw2831166058174109831:True:=trivial
theorem PySem.W.Fast.tw5282338755317291369:True:=trivial
theorem PySem.W.Fast.tw15177259634676163165:True:=trivial
theorem PySem.W.Fast.tw8153451140323751294:True:=trivial
theorem PySem.W.Fast.tw17110239795613327180:True:=trivial
theorem PySem.W.Fast.tw16927371388861635526:True:=trivial
theorem PySem.W.Fast.tw7122171774758307586:True:=trivial
theorem PySem.W.Fast.tw4427282627746869384:True:=trivial
theorem PySem.W.Fast.tw13519230951302803229:True:=trivial
theorem PySem.W.Fast.tw14198353197485038959:True:=trivial
theorem PySem.W.Fast.tw6540482362706085077:True:=trivial
theorem PySem.W.Fast.tw16931718928131147312:True:=trivial
theorem PySem.W.Fast.tw14734476808347384759:True:=trivial
theorem PySem.W.Fast.tw8536962162608027455:True:=trivial
theorem PySem.W.Fast.tw9822610563583596643:True:=trivial
theorem PySem.W.Fast.tw4506199557072430908:True:=trivial
open PySem PySem.W PyProof.Rows
set_option maxRecDepth 100000 in
set_option maxHeartbeats 0 in
theorem PySem.Challenge.cw_ledpast_k14_whole_rounds_and_growth_holds : PySem.Challenge.rw_ledpast_k14_whole_rounds_and_growth.Holds := by
 w_on; o_law; k_head; (case hw => w_witness2)
 k_fill
 refine My.walk (l := PySem.Challenge.rw_ledpast_k14_whole_rounds_and_growth) rfl rfl (fun w h Y => PySem.W.kIn_of Y) ?F
 case F =>
  intro w mg fa h KX G hmg
  refine' My.all_mk KX G hmg ?z_len ?z_zip ?z_tuple ?z_sorted ?z_set ?z_dict ?z_min ?z_max ?z_range ?z_list ?z_int ?gA ?lA ?g_MOST_TO_LEAD ?gE ?lE ?qE0 ?qE1 ?qE2 ?qE3 ?gD ?lD ?qD0 ?qD1 ?qD2 ?qD3 ?qD4 ?aCC ?pgC ?hdC ?poC ?saC ?mkC ?kcC ?nC_members ?nC_places (L2.def_mk ?a0 ?l0 ?c0 ?k0) (L2.def_mk ?a1 ?l1 ?c1 ?k1) (L2.def_mk ?a2 ?l2 ?c2 ?k2) (L2.def_mk ?a3 ?l3 ?c3 ?k3) (L2.def_mk ?a4 ?l4 ?c4 ?k4) (L2.def_mk ?a5 ?l5 ?c5 ?k5) (L2.def_mk ?a6 ?l6 ?c6 ?k6) (L2.def_mk ?a7 ?l7 ?c7 ?k7) (L2.def_mk ?a8 ?l8 ?c8 ?k8) (L2.def_mk ?a9 ?l9 ?c9 ?k9) (L2.def_mk ?a10 ?l10 ?c10 ?k10) (L2.def_mk ?a11 ?l11 ?c11 ?k11) (L2.def_mk ?a12 ?l12 ?c12 ?k12) (L2.def_mk ?a13 ?l13 ?c13 ?k13) (L2.def_mk ?a14 ?l14 ?c14 ?k14) (L2.def_mk ?a15 ?l15 ?c15 ?k15) (L2.def_mk ?a16 ?l16 ?c16 ?k16) (L2.def_mk ?a17 ?l17 ?c17 ?k17) (L2.def_mk ?a18 ?l18 ?c18 ?k18) (L2.met_mk ?a19 ?i19 ?l19 ?c19 ?k19) (L2.met_mk ?a20 ?i20 ?l20 ?c20 ?k20) (L2.def_mk ?a21 ?l21 ?c21 ?k21) (L2.def_mk ?a22 ?l22 ?c22 ?k22) (L2.def_mk ?a23 ?l23 ?c23 ?k23) (L2.def_mk ?a24 ?l24 ?c24 ?k24) (L2.def_mk ?a25 ?l25 ?c25 ?k25) (L2.def_mk ?a26 ?l26 ?c26 ?k26) (L2.def_mk ?a27 ?l27 ?c27 ?k27) (L2.def_mk ?a28 ?l28 ?c28 ?k28) (L2.def_mk ?a29 ?l29 ?c29 ?k29) (L2.def_mk ?a30 ?l30 ?c30 ?k30) (L2.def_mk ?a31 ?l31 ?c31 ?k31) (L2.def_mk ?a32 ?l32 ?c32 ?k32) (L2.def_mk ?a33 ?l33 ?c33 ?k33) (L2.def_mk ?a34 ?l34 ?c34 ?k34) (L2.def_mk ?a35 ?l35 ?c35 ?k35) (L2.def_mk ?a36 ?l36 ?c36 ?k36) (L2.def_mk ?a37 ?l37 ?c37 ?k37) (L2.def_mk ?a38 ?l38 ?c38 ?k38)
  case gA | lA | g_MOST_TO_LEAD | gE | lE | qE0 | qE1 | qE2 | qE3 | gD | lD | qD0 | qD1 | qD2 | qD3 | qD4 | aCC | pgC | hdC | poC | saC | mkC | kcC | nC_members | nC_places | a0 | l0 | c0 | k0 | a1 | l1 | c1 | k1 | a2 | l2 | c2 | k2 | a3 | l3 | c3 | k3 | a4 | l4 | c4 | k4 | a5 | l5 | c5 | k5 | a6 | l6 | c6 | k6 | a7 | l7 | c7 | k7 | a8 | l8 | c8 | k8 | a9 | l9 | c9 | k9 | a10 | l10 | c10 | k10 | a11 | l11 | c11 | k11 | a12 | l12 | c12 | k12 | a13 | l13 | c13 | k13 | a14 | l14 | c14 | k14 | a15 | l15 | c15 | k15 | a16 | l16 | c16 | k16 | a17 | l17 | c17 | k17 | a18 | l18 | c18 | k18 | a19 | i19 | l19 | c19 | k19 | a20 | i20 | l20 | c20 | k20 | a21 | l21 | c21 | k21 | a22 | l22 | c22 | k22 | a23 | l23 | c23 | k23 | a24 | l24 | c24 | k24 | a25 | l25 | c25 | k25 | a26 | l26 | c26 | k26 | a27 | l27 | c27 | k27 | a28 | l28 | c28 | k28 | a29 | l29 | c29 | k29 | a30 | l30 | c30 | k30 | a31 | l31 | c31 | k31 | a32 | l32 | c32 | k32 | a33 | l33 | c33 | k33 | a34 | l34 | c34 | k34 | a35 | l35 | c35 | k35 | a36 | l36 | c36 | k36 | a37 | l37 | c37 | k37 | a38 | l38 | c38 | k38 | z_len | z_zip | z_tuple | z_sorted | z_set | z_dict | z_min | z_max | z_range | z_list | z_int => k_is
